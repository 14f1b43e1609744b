/- Layer 6, laid together: LDet, LIs2, LNums, LSeq, LSt, LSplit, LEx, LAwake, LPows0. -/
import Derived.Test.YtiddgplapodleaaGreatDoorHJ
import Derived.Test.YtiddgplapodleaaGreatDoorHK
import Derived.Test.YtiddgplapodleaaGreatDoorHM
import Derived.Laws.AppendOwn
import Derived.Test.YtiddgplapodleaaGreatDoorLApp
import Derived.Test.YtiddgplapodleaaGreatDoorLShelf
import Derived.RangeFuncBox
import Derived.RangeFuncBound
import Derived.RangeFuncCalls
import Derived.RangeFuncLeaves
import Derived.RangeFuncNested
import Derived.Shelf.Abstract
import Derived.Shelf.RegionOpen
import Derived.WalkKit
import Derived.OwnWalkIn
import Derived.TacticsInMore
import Derived.LoopNIn
import Derived.LoopIn
import Derived.Test.YtiddgplapodleaaGreatDoorDPaired
import Derived.Test.YtiddgplapodleaaGreatDoorHL
import Derived.Test.YtiddgplapodleaaGreatDoorG7
import Derived.Test.YtiddgplapodleaaGreatDoorHX
import Derived.Deep.RegionHeld3
import Derived.RangeFuncWrites
import Derived.Test.YtiddgplapodleaaGreatDoorHV
import Derived.Deep.DeepFit
import Derived.Test.YtiddgplapodleaaGreatDoorLRef
namespace Go.Proofs.YtiddgplapodleaaGreatDoor
open Go.RowKit Go.Shelf Go.Lib
def Det (s:ByteArray) (z0:Bool) (o0:ByteArray) (x0 p0 c0:Int):Prop:=
 ∀ k r z o x p c,PartOk s k r→LitAt s.data.toList k r z o x p c→z=z0∧o=o0∧x=x0∧p=p0∧c=c0
theorem part_fix {s:ByteArray} {k k0:Nat} {r r0:Int} (hP:PartOk s k r) (hh:∀ b∈s.data.toList,b.toNat<128) (h1:partAt s.data.toList=k0) (h2:partR s.data.toList=r0):k=k0∧r=r0:=by
 rcases hP.2 with ⟨a,b⟩|⟨j,hj,hjs,h⟩
 ·exact ⟨a.trans h1,b.trans h2⟩
 ·exfalso
  have:=hh (s.data.toList[j]'(by show j<s.size;exact hjs)) (List.getElem_mem _)
  have hb:(s.data.toList[j]'(by show j<s.size;exact hjs)).toNat=(s[j]'hjs).toNat:=rfl;omega
theorem det_power {s:ByteArray} {k0:Nat} {A B:Int} {z0:Bool} {o0:ByteArray} {x0:Int} (hh:∀ b∈s.data.toList,b.toNat<128) (h1:partAt s.data.toList=k0) (h2:partR s.data.toList=112) (h3:k0<s.data.toList.length)
  (h4:isBad (s.data.toList.take k0)=false) (h5:isBad (s.data.toList.drop (k0+1))=false) (h6:tV (s.data.toList.take k0)=A) (h7:tV (s.data.toList.drop (k0+1))=B) (h8:-32768≤B∧B≤32768) (h9:df (dI A B)=nu z0 o0 x0):Det s z0 o0 x0 0 0:=by
 intro k r z o x p c hP h;obtain ⟨rfl,rfl⟩:=part_fix hP hh h1 h2;unfold LitAt at h;rw [h4,h5,h6,h7] at h
 rcases h with ⟨g,-⟩|⟨-,⟨g,-⟩|⟨-,⟨g,-⟩|⟨-,⟨g,-⟩|⟨g,-⟩|⟨-,-,g,e1,e2⟩|⟨-,g,-⟩⟩⟩⟩
 ·cases g
 ·omega
 ·cases g
 ·omega
 ·omega
 ·obtain ⟨a,b,c⟩:=nu_inj (g.symm.trans h9);exact ⟨a,b,c,e1,e2⟩
 ·exact absurd h8 g
theorem det_slash {s:ByteArray} {k0:Nat} {A B e0:Int} {z0:Bool} {o0:ByteArray} {x0:Int} (hh:∀ b∈s.data.toList,b.toNat<128) (h1:partAt s.data.toList=k0) (h2:partR s.data.toList=47) (h3:k0<s.data.toList.length)
  (h4:isBad (s.data.toList.take k0)=false) (h5:isBad (s.data.toList.drop (k0+1))=false) (h6:tV (s.data.toList.take k0)=A) (h7:tV (s.data.toList.drop (k0+1))=B) (h8:df (dI B 0)=nu false ⟨#[1]⟩ e0) (h9:df (dI A (-e0))=nu z0 o0 x0):Det s z0 o0 x0 0 0:=by
 intro k r z o x p c hP h;obtain ⟨rfl,rfl⟩:=part_fix hP hh h1 h2;unfold LitAt at h;rw [h4,h5,h6,h7] at h
 rcases h with ⟨g,-⟩|⟨-,⟨g,-⟩|⟨-,⟨g,-⟩|⟨-,⟨-,⟨e,g1,g⟩,e1,e2⟩|⟨-,g,-⟩|⟨g,-⟩|⟨g,-⟩⟩⟩⟩
 ·cases g
 ·omega
 ·cases g
 ·obtain ⟨-,-,rfl⟩:=nu_inj (g1.symm.trans h8);obtain ⟨a,b,c⟩:=nu_inj (g.symm.trans h9);exact ⟨a,b,c,e1,e2⟩
 ·exact absurd h8 (g e0)
 ·omega
 ·omega
theorem det_whole {s:ByteArray} {A:Int} {z0:Bool} {o0:ByteArray} {x0:Int} (hh:∀ b∈s.data.toList,b.toNat<128) (h1:partAt s.data.toList=s.data.toList.length) (h4:isBad s.data.toList=false) (h6:tV s.data.toList=A) (h9:df (dI A 0)=nu z0 o0 x0):Det s z0 o0 x0 0 0:=by
 intro k r z o x p c hP h;obtain ⟨rfl,-⟩:=part_fix hP hh h1 rfl;unfold LitAt at h;rw [List.take_length,h4,h6] at h
 rcases h with ⟨g,-⟩|⟨-,⟨-,g,e1,e2⟩|⟨g,-⟩⟩
 ·cases g
 ·obtain ⟨a,b,c⟩:=nu_inj (g.symm.trans h9);exact ⟨a,b,c,e1,e2⟩
 ·omega
theorem det_head {s:ByteArray} {k0:Nat} {p0:Int} (hh:∀ b∈s.data.toList,b.toNat<128) (h1:partAt s.data.toList=k0) (h4:isBad (s.data.toList.take k0)=true) (h5:badPlace (s.data.toList.take k0)=p0):Det s false ⟨#[]⟩ 0 p0 2:=by
 intro k r z o x p c hP h;obtain ⟨rfl,-⟩:=part_fix hP hh h1 rfl;unfold LitAt at h;rw [h4,h5] at h
 rcases h with ⟨-,h⟩|⟨g,-⟩
 ·exact h
 ·cases g
theorem det_tail {s:ByteArray} {k0:Nat} {p0:Int} (hh:∀ b∈s.data.toList,b.toNat<128) (h1:partAt s.data.toList=k0) (h3:k0<s.data.toList.length) (h4:isBad (s.data.toList.take k0)=false) (h5:isBad (s.data.toList.drop (k0+1))=true) (h6:(k0:Int)+1+badPlace (s.data.toList.drop (k0+1))=p0):Det s false ⟨#[]⟩ 0 p0 2:=by
 intro k r z o x p c hP h;obtain ⟨rfl,-⟩:=part_fix hP hh h1 rfl;unfold LitAt at h;rw [h4,h5,h6] at h
 rcases h with ⟨g,-⟩|⟨-,⟨g,-⟩|⟨-,⟨-,h⟩|⟨g,-⟩⟩⟩
 ·cases g
 ·omega
 ·exact h
 ·cases g
theorem det_limit {s:ByteArray} {k0:Nat} {B:Int} (hh:∀ b∈s.data.toList,b.toNat<128) (h1:partAt s.data.toList=k0) (h2:partR s.data.toList=112) (h3:k0<s.data.toList.length)
  (h4:isBad (s.data.toList.take k0)=false) (h5:isBad (s.data.toList.drop (k0+1))=false) (h7:tV (s.data.toList.drop (k0+1))=B) (h8:¬ (-32768≤B∧B≤32768)):Det s false ⟨#[]⟩ 0 0 3:=by
 intro k r z o x p c hP h;obtain ⟨rfl,rfl⟩:=part_fix hP hh h1 h2;unfold LitAt at h;rw [h4,h5,h7] at h
 rcases h with ⟨g,-⟩|⟨-,⟨g,-⟩|⟨-,⟨g,-⟩|⟨-,⟨g,-⟩|⟨g,-⟩|⟨-,g,-⟩|⟨-,-,g⟩⟩⟩⟩
 ·cases g
 ·omega
 ·cases g
 ·omega
 ·omega
 ·exact absurd g h8
 ·exact g
theorem det_arg {s:ByteArray} {k0:Nat} {B:Int} {m:Bool} {t:ByteArray} {e:Int} (hh:∀ b∈s.data.toList,b.toNat<128) (h1:partAt s.data.toList=k0) (h2:partR s.data.toList=47) (h3:k0<s.data.toList.length)
  (h4:isBad (s.data.toList.take k0)=false) (h5:isBad (s.data.toList.drop (k0+1))=false) (h7:tV (s.data.toList.drop (k0+1))=B) (h8:df (dI B 0)=nu m t e) (h9:m=true∨t≠⟨#[1]⟩):Det s false ⟨#[]⟩ 0 0 1:=by
 intro k r z o x p c hP h;obtain ⟨rfl,rfl⟩:=part_fix hP hh h1 h2;unfold LitAt at h;rw [h4,h5,h7] at h
 rcases h with ⟨g,-⟩|⟨-,⟨g,-⟩|⟨-,⟨g,-⟩|⟨-,⟨-,⟨e1,g,-⟩,-⟩|⟨-,-,g⟩|⟨g,-⟩|⟨g,-⟩⟩⟩⟩
 ·cases g
 ·omega
 ·cases g
 ·obtain ⟨a,b,-⟩:=nu_inj (g.symm.trans h8)
  rcases h9 with h9|h9
  ·rw [h9] at a
   cases a
  ·exact absurd b.symm h9
 ·exact g
 ·omega
 ·omega
end Go.Proofs.YtiddgplapodleaaGreatDoor
namespace Go.Proofs.YtiddgplapodleaaGreatDoor
set_option maxRecDepth 100000
set_option maxHeartbeats 1600000
open Go.RowKit Go.Shelf Go.Lib
theorem lis_det (w:World) (s:ByteArray) (hsz:s.size≤200) (m:Bool) (t:ByteArray) (e:Int) (hdet:Det s m t e 0 0) :
  Calls Tryz.prog 14 #[.string s,.agg #[.bool m,.string t,.int .i64 e]] w (Ret (.bool true) w):=by
 have HC:=Lib.hid hdet;clear hdet;go_enter Tryz.func14,Tryz.ntmps14;go_wp2_with fail;have hA:=Nk.new w m t e;have hb:=(Below.refl w.heap.size w).alloc (Nat.le_refl _) (.cells #[.bool m,.string t,.int .i64 e] 28);generalize w.alloc (.cells #[.bool m,.string t,.int .i64 e] 28)=W0 at *;refine (lparse_any _ s hsz).mono ?_;rintro e' W ⟨k,r,z,o,y,p,c,rfl,hP,hL,hq⟩;obtain ⟨rfl,rfl,rfl,rfl,rfl⟩:=HC.out _ _ _ _ _ _ _ hP hL;replace hb:=below_next hb hq;replace hA:=hA.below hq;clear hq hP hL;have hX:=Nk.new W z o y;replace hA:=hA.alloc (.cells #[.bool z,.string o,.int .i64 y] 28);replace hb:=hb.alloc hb.size (.cells #[.bool z,.string o,.int .i64 y] 28);obtain ⟨hA0,hA1,hA2⟩:=hA.cells;obtain ⟨hX0,hX1,hX2⟩:=hX.cells;go_wp2;go_ret;exact ⟨rfl,hb⟩
end Go.Proofs.YtiddgplapodleaaGreatDoor
namespace Go.Proofs.YtiddgplapodleaaGreatDoor
open Go.RowKit Go.Shelf
theorem infoN3:(Tryz.prog.info? 28).map (fun i=>(i.zero,i.size,i.bytes))=some (some (.agg #[.bool false,.string ⟨#[]⟩,.int .i64 0]),3,32):=by kernel_rfl
theorem ncells_app:∀ (l m:List NV),ncells (l++m)=ncells l++ncells m
 | [],m=>rfl
 | x::l,m=>by
  show Value.bool x.1::Value.string x.2.1::Value.int .i64 x.2.2::ncells (l++m)=_;rw [ncells_app l m];rfl
theorem ncells_len:∀ (l:List NV),(ncells l).length=l.length*3
 | []=>rfl
 | x::l=>by
  show (ncells l).length+1+1+1=(l.length+1)*3;rw [ncells_len l];omega
theorem ncells_one:∀ (l:List NV),∀ u∈ncells l,u.oneCell'=true
 | [],_,h=>by cases h
 | x::l,u,h=>by
  rcases List.mem_cons.1 h with rfl|h
  ·rfl
  rcases List.mem_cons.1 h with rfl|h
  ·rfl
  rcases List.mem_cons.1 h with rfl|h
  ·rfl
  exact ncells_one l u h
theorem own_nat {w:World} {B n:Nat} {v:Value} {l:List NV} (hn:l.length=n) (h:w.ownsRow B 28 3 v n (ncells l)):∃ od oc,v=.slice od n oc∧n≤oc∧NAt w od l:=by
 rcases h.2 with ⟨rfl,rfl⟩|⟨g,cap,cur,rfl,_,hg,hc,_,_,_⟩
 ·obtain rfl:l=[]:=List.eq_nil_of_length_eq_zero hn;exact ⟨none,0,rfl,Nat.le_refl _,fun i hi=>by simp at hi⟩
 ·refine ⟨some ⟨g,0,none⟩,cap,rfl,hc,fun i hi=>?_⟩;have hcell:=h.cells (g:=g) rfl;obtain ⟨g1,g2,g3⟩:=ncells_get l i hi;have ea:∀ j:Nat,(⟨g,0,none⟩:Addr).add j=⟨g,0+j,none⟩:=fun j=>by unfold Addr.add;split <;> simp_all
  have h1:=hcell _ _ g1;have h2:=hcell _ _ g2;have h3:=hcell _ _ g3;rw [ea] at h1 h2 h3;exact ⟨g,0,rfl,World.block_lt_of_cell? w _ h1,h1,by rw [Nat.add_assoc];exact h2,by rw [Nat.add_assoc];exact h3⟩
theorem cell_three_new (w:World) (T:TypeId) (a b c:Value):∀ j u,[a,b,c][j]?=some u→(w.alloc (.cells #[a,b,c] T)).cell? ((⟨w.heap.size,0,none⟩:Addr).add j)=some u:=by
 intro j u hj;have hR:=Rw.new w T [a,b,c];have ea:(⟨w.heap.size,0,none⟩:Addr).add j=⟨w.heap.size,j,none⟩:=by unfold Addr.add;split <;> simp_all
 rw [ea];exact (hR.cell j).trans hj
theorem NAt.reads {w:World} {b o:Nat} {l:List NV} (h:NAt w (some ⟨b,o,none⟩) l):∀ j u,(ncells l)[j]?=some u→w.cell? ((⟨b,o,none⟩:Addr).add j)=some u:=by
 intro j u hj;have hjl:j<l.length*3:=by
  rw [← ncells_len];exact (List.getElem?_eq_some_iff.1 hj).1
 obtain ⟨lb,lo,e,-,h1,h2,h3⟩:=h (j / 3) (by omega);simp only [Option.some.injEq,Addr.mk.injEq,and_true] at e;obtain ⟨rfl,rfl⟩:=e;obtain ⟨g1,g2,g3⟩:=ncells_get l (j / 3) (by omega);have ea:(⟨b,o,none⟩:Addr).add j=⟨b,o+j,none⟩:=by unfold Addr.add;split <;> simp_all
 rw [ea]
 rcases (show j % 3=0∨j % 3=1∨j % 3=2 by omega) with e|e|e
 ·rw [show j=j / 3*3 by omega] at hj ⊢;rw [g1] at hj;rw [← hj];exact h1
 ·rw [show j=j / 3*3+1 by omega] at hj ⊢;rw [g2] at hj;rw [← hj];exact h2
 ·rw [show j=j / 3*3+2 by omega] at hj ⊢;rw [g3] at hj;rw [← hj];exact h3
theorem ownBlock_neN {W:World} {B n j:Nat} {v:Value} {xs L:List Value} {T:TypeId} (h:W.ownsRow B 28 3 v n xs) (hj:Rw W j T L) (hT:T≠28):some j≠v.ownBlock:=by
 intro e
 rcases h.2 with ⟨rfl,_⟩|⟨g,cap,cur,rfl,_,hg,_⟩
 ·cases e
 ·have e2:j=g:=by simpa [Value.ownBlock] using e
  subst e2;unfold Rw at hj;rw [hj] at hg
  injection hg with hg
  injection hg with _ h2
  exact hT h2
theorem ownBlock_inN {W:World} {B n j:Nat} {v:Value} {xs:List Value} (h:W.ownsRow B 28 3 v n xs) (hj:v.ownBlock=some j):B≤j∧∃ cur,W.heap[j]?=some (.cells cur 28 (0,0)):=by
 rcases h.2 with ⟨rfl,_⟩|⟨g,cap,cur,rfl,hB,hg,_⟩
 ·cases hj
 ·have e2:g=j:=by simpa [Value.ownBlock] using hj
  subst e2;exact ⟨hB,cur,hg⟩
theorem ownsRow_offN {W:World} {B n j i:Nat} {v u:Value} {xs L:List Value} {T:TypeId} (h:W.ownsRow B 28 3 v n xs) (hj:Rw W j T L) (hT:T≠28):(W.setCell ⟨j,i,none⟩ u).ownsRow B 28 3 v n xs:=by
 have hne:=ownBlock_neN h hj hT;refine ⟨h.1,?_⟩
 rcases h.2 with h2|⟨g,cap,cur,rfl,hB,hg,hrest⟩
 ·exact .inl h2
 ·refine .inr ⟨g,cap,cur,rfl,hB,?_,hrest⟩;rw [Below.heap_setCell _ _ _ _ (show g≠j by rintro rfl;exact hne rfl)];exact hg
end Go.Proofs.YtiddgplapodleaaGreatDoor
namespace Go.Proofs.YtiddgplapodleaaGreatDoor
set_option maxRecDepth 100000
set_option maxHeartbeats 2000000
open Go.RowKit Go.Shelf Go.Lib
attribute [local go_sem] Oper.semAt_some
theorem splitq_in (F:Fence) (n:Nat) (hf:F.fn 53) (hro:F.round=none) (s:ByteArray) (w:World) :
  CallsIn F n Tryz.prog 53 #[.string s,.string ⟨#[32]⟩,.int .i64 0] w fun e w'=>e=.returned (.func (.func 80) #[] #[.pointer (some ⟨w.heap.size+1,0,none⟩),.pointer (some ⟨w.heap.size,0,none⟩),.pointer (some ⟨w.heap.size+2,0,none⟩)])∧w'=((w.alloc (.cells #[.string s] 9)).alloc (.cells #[.string ⟨#[32]⟩] 9)).alloc (.cells #[.int .i64 0] 3):=by
 refine callsIn_of_wp Tryz.func53 rfl hf ?_ hro;simp only [Tryz.ntmps53,List.size_toArray,List.length_cons,List.length_nil,Nat.reduceAdd,Nat.reduceSub,Array.replicate_succ,Array.replicate_zero,List.push_toArray,List.append_toArray,List.nil_append,List.cons_append]
 gi_wp2
 go_ret;exact ⟨rfl,rfl⟩
theorem splits_in (F:Fence) (n:Nat) (hf:F.fn 30) (hf2:F.fn 53) (hro:F.round=none) (hn:1≤n) (s:ByteArray) (w:World) :
  CallsIn F n Tryz.prog 30 #[.string s,.string ⟨#[32]⟩] w fun e w'=>e=.returned (.func (.func 80) #[] #[.pointer (some ⟨w.heap.size+1,0,none⟩),.pointer (some ⟨w.heap.size,0,none⟩),.pointer (some ⟨w.heap.size+2,0,none⟩)])∧w'=((w.alloc (.cells #[.string s] 9)).alloc (.cells #[.string ⟨#[32]⟩] 9)).alloc (.cells #[.int .i64 0] 3):=by
 refine callsIn_of_wp Tryz.func30 rfl hf ?_ hro;simp only [Tryz.ntmps30,List.size_toArray,List.length_cons,List.length_nil,Nat.reduceAdd,Nat.reduceSub,Array.replicate_succ,Array.replicate_zero,List.push_toArray,List.append_toArray,List.nil_append,List.cons_append]
 gi_wp2_with (gi_at_call 53;refine (splitq_in F (n-1) hf2 hro _ _).mono ?_;rintro e w' ⟨rfl,rfl⟩)
 go_ret;exact ⟨rfl,rfl⟩
def cellLen (w:World) (B:Nat):Nat:=match w.cell? ⟨B,0,none⟩ with|some (.string t)=>t.size|_=>0
theorem split1_in (n:Nat) (hn:2≤n) (l Bs Bp Bv:Nat) (s:ByteArray) (hs:s.size≤100000) (J:List (List UInt8)→ByteArray→World→Prop) (Jx:World→Prop)
  (hbox:∀ pre r W,J pre r W→Rw W Bs 9 [.string r]∧Rw W Bp 9 [.string ⟨#[32]⟩]∧Rw W Bv 3 [.int .i64 0])
  (hset:∀ pre r r' W,J pre r W→J pre r' (W.setCell ⟨Bs,0,none⟩ (.string r')))
  (hY:∀ pre r (t:ByteArray) W,J pre r W→(∃ u,cutP r.data.toList=t.data.toList::u)→pre++cutP r.data.toList=cutP s.data.toList→YieldAt Fence.wide (n-1) Tryz.prog l #[.string t] W fun e W' =>
   (e=.returned (.bool true)∧J (pre++[t.data.toList]) r W')∨(e=.returned (.bool false)∧Jx W'))
  (W:World) (h0:J [] s W) :
  CallsIn Fence.wide n Tryz.prog 80 #[.func (.yield l) #[] #[],.pointer (some ⟨Bp,0,none⟩),.pointer (some ⟨Bs,0,none⟩),.pointer (some ⟨Bv,0,none⟩)] W fun e W'=>(∃ v,e=.returned v)∧((∃ r,J (cutP s.data.toList) r W')∨Jx W'):=by
 refine callsIn_of_wp Tryz.func80 rfl trivial ?_ rfl;simp only [Tryz.ntmps80,List.size_toArray,List.length_cons,List.length_nil,Nat.reduceAdd,Nat.reduceSub,Array.replicate_succ,Array.replicate_zero,List.push_toArray,List.append_toArray,List.nil_append,List.cons_append];obtain ⟨hb1,hb2,hb3⟩:=hbox _ _ _ h0;have hc2:=hb2.cell 0;simp only [List.getElem?_cons_zero] at hc2
 gi_wp2
 gi_loopw [] (fun wr=>∃ (pre:List (List UInt8)) (r:ByteArray),pre++cutP r.data.toList=cutP s.data.toList∧r.size≤s.size∧J pre r wr) (fun wr=>cellLen wr Bs)
 case atStart=>exact ⟨[],s,rfl,Nat.le_refl _,h0⟩
 case round =>
  obtain ⟨pre,r,hpre,hrs,hJ⟩:=hrel;obtain ⟨hb1,hb2,hb3⟩:=hbox _ _ _ hJ;have hc1:=hb1.cell 0;have hc2:=hb2.cell 0;have hc3:=hb3.cell 0;simp only [List.getElem?_cons_zero] at hc1 hc2 hc3;have hf1:=hb1.frozen 0
  gi_wp2_with fail
  refine ⟨trivial,fun _=>by omega,?_⟩;refine (callsIn_wide.2 (Tryz.strings_Index_one r 32 wr)).mono ?_;rintro e w' ⟨rfl,rfl⟩
  rcases blank_at r.data.toList _ rfl with ⟨h1,h2⟩|⟨k,h1,hk,h3,h4⟩
  ·rw [h1];have hcut:=cutP_whole _ h2;obtain ⟨fn,tmps,assign,body,hy,hR⟩:=hY pre r r w' hJ ⟨[],hcut⟩ hpre
   gi_wp2
   refine ⟨fun _=>by omega,?_⟩;refine hR.mono ?_;rintro e W3 (⟨rfl,hJ3⟩|⟨rfl,hJx3⟩)
   ·have hfin:J (cutP s.data.toList) r W3:=by
     rw [← hpre,hcut];exact hJ3
    gi_wp2
    go_end0;exact ⟨⟨_,rfl⟩,.inl ⟨_,hfin⟩⟩
   ·gi_wp2
    go_end0;exact ⟨⟨_,rfl⟩,.inr hJx3⟩
  ·rw [h1];have hrl:r.data.toList.length=r.size:=rfl;have k0:(0:Int)≤(k:Int):=by omega
   have k1:(k:Int)≤(r.size:Int):=by omega
   have k2:(k:Int)+1≤(r.size:Int):=by omega
   have k3:((k:Int)+1).toNat=k+1:=by omega
   have htl:(r.extract 0 k).data.toList=r.data.toList.take k:=by
    rw [ByteArray.data_extract];simp
   have hdl:(r.extract (k+1) r.size).data.toList=r.data.toList.drop (k+1):=by
    rw [ByteArray.data_extract];simp;exact List.take_of_length_le (by rw [List.length_drop];exact Nat.le_refl _)
   have hcut:cutP r.data.toList=(r.extract 0 k).data.toList::cutP (r.extract (k+1) r.size).data.toList:=by
    rw [htl,hdl]
    conv=>lhs;rw [h4]
    exact cutP_cut _ _ h3
   have hds:(r.extract (k+1) r.size).size=r.size-(k+1):=by
    have:=congrArg List.length hdl
    rw [List.length_drop] at this;exact this
   obtain ⟨fn,tmps,assign,body,hy,hR⟩:=hY pre r (r.extract 0 k) w' hJ ⟨_,hcut⟩ hpre
   gi_wp2
   refine ⟨fun _=>by omega,?_⟩;refine hR.mono ?_;rintro e W3 (⟨rfl,hJ3⟩|⟨rfl,hJx3⟩)
   ·obtain ⟨g1,g2,g3⟩:=hbox _ _ _ hJ3;have e1:=g1.cell 0;have e2:=g2.cell 0;have ef:=g1.frozen 0;simp only [List.getElem?_cons_zero] at e1 e2;have hJ4:=hset _ _ (r.extract (k+1) r.size) _ hJ3;have hpre4:(pre++[(r.extract 0 k).data.toList])++cutP (r.extract (k+1) r.size).data.toList=cutP s.data.toList:=by
     rw [← hpre,hcut];simp
    gi_wp2
    go_roundw
    case rel=>exact ⟨_,_,hpre4,by rw [hds];omega,hJ4⟩
    case measure =>
     have e3:=(hbox _ _ _ hJ4).1.cell 0;simp only [List.getElem?_cons_zero] at e3;unfold cellLen;rw [e3,hc1];show (r.extract (k+1) r.size).size<r.size;omega
   ·gi_wp2
    refine bodyPost_ret (results_none rfl _ _ _) rfl ?_;exact ⟨⟨_,rfl⟩,.inr hJx3⟩
end Go.Proofs.YtiddgplapodleaaGreatDoor
namespace Go.Proofs.YtiddgplapodleaaGreatDoor
open Go.RowKit Go.Shelf Go.Lib
structure SI (w:World) (xs:List NV) (rec:Loop) (pre:List (List UInt8)) (r:ByteArray) (W:World):Prop where
 row:∃ v,W.ownsRow (w.heap.size+9) 28 3 v pre.length (ncells (xs.take pre.length))∧Rw W w.heap.size 22 [v]
 at_:Rw W (w.heap.size+1) 3 [.int .i64 0]
 er:Rw W (w.heap.size+2) 36 [.int .i64 0]
 bg:Rw W (w.heap.size+3) 3 [.int .i64 (behind pre)]
 s1:Rw W (w.heap.size+4) 9 [.string r]
 s2:Rw W (w.heap.size+5) 9 [.string ⟨#[32]⟩]
 s3:Rw W (w.heap.size+6) 3 [.int .i64 0]
 d:W.heap[w.heap.size+7]?=some (.deferred (some []))
 l:W.heap[w.heap.size+8]?=some (.loop rec)
 b:Below w.heap.size w W
 n:pre.length≤xs.length
theorem heap_far {W:World} {k:Nat} {p:Addr} {u:Value} (h:k≠p.block):(W.setCell p u).heap[k]?=W.heap[k]?:=Below.heap_setCell W p u k h
theorem SI.put {w W:World} {xs:List NV} {rec rec' : Loop} {pre:List (List UInt8)} {r:ByteArray} (h:SI w xs rec pre r W):SI w xs rec' pre r (W.putObj (w.heap.size+8) (.loop rec')):=by
 obtain ⟨⟨v,h1,h2⟩,h3,h4,h5,h6,h7,h8,h9,h10,h11,h12⟩:=h;have g:W.grownBy (W.putObj (w.heap.size+8) (.loop rec')) (some (w.heap.size+8)):=grownBy_putObj' W _ _;have hr:∀ r,some (w.heap.size+8)=some r→∃ o:Obj,W.heap[r]?=some o∧o.isCells=false:=fun r e=>by
  cases e
  exact ⟨_,h10,rfl⟩
 exact ⟨⟨v,ownsRow_obj h1 g hr,rw_own h2 g hr⟩,rw_own h3 g hr,rw_own h4 g hr,rw_own h5 g hr,rw_own h6 g hr,rw_own h7 g hr,rw_own h8 g hr,(World.putObj_heap_other (by omega)).trans h9,World.putObj_heap_same (Array.getElem?_eq_some_iff.1 h10).1,h11.grown g (by have:=h11.size;omega) (fun k e=>by cases e;omega),h12⟩
theorem SI.turn {w W:World} {xs:List NV} {rec:Loop} {pre:List (List UInt8)} {r:ByteArray} (h:SI w xs rec pre r W) (r' : ByteArray):SI w xs rec pre r' (W.setCell ⟨w.heap.size+4,0,none⟩ (.string r')):=by
 obtain ⟨⟨v,h1,h2⟩,h3,h4,h5,h6,h7,h8,h9,h10,h11,h12⟩:=h;exact ⟨⟨v,ownsRow_offN h1 h6 (by decide),h2.fr _ _ _⟩,h3.fr _ _ _,h4.fr _ _ _,h5.fr _ _ _,h6.set_ 0 (.string r'),h7.fr _ _ _,h8.fr _ _ _,(heap_far (by show w.heap.size+7≠w.heap.size+4;omega)).trans h9,(heap_far (by show w.heap.size+8≠w.heap.size+4;omega)).trans h10,h11.setCell (p:=⟨w.heap.size+4,0,none⟩) (by show w.heap.size≤w.heap.size+4;omega) _,h12⟩
theorem SI.next {w W W' : World} {xs:List NV} {rec:Loop} {pre:List (List UInt8)} {r:ByteArray} (h:SI w xs rec pre r W) (hq:Below W.heap.size W W'):SI w xs rec pre r W':=by
 obtain ⟨⟨v,h1,h2⟩,h3,h4,h5,h6,h7,h8,h9,h10,h11,h12⟩:=h;have o:∀ (k:Nat) (o:Obj),W.heap[k]?=some o→W'.heap[k]?=some o:=fun k o hk=>(hq.block k (Array.getElem?_eq_some_iff.1 hk).1).trans hk;exact ⟨⟨v,ownsRow_below h1 hq,h2.below hq h2.lt⟩,h3.below hq h3.lt,h4.below hq h4.lt,h5.below hq h5.lt,h6.below hq h6.lt,h7.below hq h7.lt,h8.below hq h8.lt,o _ _ h9,o _ _ h10,below_next h11 hq,h12⟩
theorem SI.drew {w W:World} {xs:List NV} {rec:Loop} {pre:List (List UInt8)} {r:ByteArray} (h:SI w xs rec pre r W):SI w xs rec pre r W.drew:=by
 obtain ⟨h1,h3,h4,h5,h6,h7,h8,h9,h10,h11,h12⟩:=h;exact ⟨h1,h3,h4,h5,h6,h7,h8,h9,h10,h11.drew,h12⟩
theorem own_sliceN {W:World} {B n:Nat} {v:Value} {xs:List Value} (h:W.ownsRow B 28 3 v n xs) (h0:0<n):∃ g c,v=.slice (some ⟨g,0,none⟩) n c:=by
 rcases h.2 with ⟨_,e⟩|⟨g,cap,cur,e,_⟩
 ·omega
 ·exact ⟨g,cap,e⟩
theorem SI.more {w W w1:World} {xs:List NV} {rec:Loop} {pre:List (List UInt8)} {r:ByteArray} {t:List UInt8} {v v' : Value} (h:SI w xs rec pre r W) (hv:Rw W w.heap.size 22 [v]) (hrow:W.ownsRow (w.heap.size+9) 28 3 v pre.length (ncells (xs.take pre.length))) (hk:pre.length<xs.length)
  (hown:w1.ownsRow (w.heap.size+9) 28 3 v' (pre.length+1) (ncells (xs.take pre.length)++[.bool xs[pre.length].1,.string xs[pre.length].2.1,.int .i64 xs[pre.length].2.2])) (hg:W.grownBy w1 v.ownBlock) (c:Int) (hc:c=(behind (pre++[t]):Nat)) :
  SI w xs rec (pre++[t]) r ((w1.setCell ⟨w.heap.size,0,none⟩ v').setCell ⟨w.heap.size+3,0,none⟩ (.int .i64 c)):=by
 obtain ⟨⟨v0,h1,h2⟩,h3,h4,h5,h6,h7,h8,h9,h10,h11,h12⟩:=h;have hrw:∀ k T L,Rw W k T L→T≠28→Rw w1 k T L:=fun k T L hk hT=>hk.grown hg (ownBlock_neN hrow hk hT);have hob:∀ k (o:Obj),W.heap[k]?=some o→o.isCells=false→w1.heap[k]?=some o:=fun k o hk ho=>by
  refine (hg.block k (Array.getElem?_eq_some_iff.1 hk).1 (fun e=>?_)).trans hk;obtain ⟨_,cur,hcur⟩:=ownBlock_inN hrow e.symm;rw [hk] at hcur
  cases hcur
  cases ho
 have g0:=hrw _ _ _ hv (by decide);have g3:=hrw _ _ _ h5 (by decide);have hl:(pre++[t]).length=pre.length+1:=by simp
 have hx:ncells (xs.take (pre.length+1))=ncells (xs.take pre.length)++[.bool xs[pre.length].1,.string xs[pre.length].2.1,.int .i64 xs[pre.length].2.2]:=by
  rw [List.take_succ_eq_append_getElem hk,ncells_app];rfl
 refine ⟨⟨v',?_,(g0.set_ 0 v').fr _ _ _⟩,((hrw _ _ _ h3 (by decide)).fr _ _ _).fr _ _ _,((hrw _ _ _ h4 (by decide)).fr _ _ _).fr _ _ _,?_,((hrw _ _ _ h6 (by decide)).fr _ _ _).fr _ _ _,((hrw _ _ _ h7 (by decide)).fr _ _ _).fr _ _ _,((hrw _ _ _ h8 (by decide)).fr _ _ _).fr _ _ _,?_,?_,?_,by omega⟩
 ·rw [hl,hx];exact ownsRow_offN (ownsRow_offN hown g0 (by decide)) (g3.fr w.heap.size 0 v') (by decide)
 ·rw [← hc];exact (g3.fr w.heap.size 0 v').set_ 0 (.int .i64 c)
 ·exact (heap_far (by show w.heap.size+7≠w.heap.size+3;omega)).trans ((heap_far (by show w.heap.size+7≠w.heap.size;omega)).trans (hob _ _ h9 rfl))
 ·exact (heap_far (by show w.heap.size+8≠w.heap.size+3;omega)).trans ((heap_far (by show w.heap.size+8≠w.heap.size;omega)).trans (hob _ _ h10 rfl))
 ·refine Below.setCell (p:=⟨w.heap.size+3,0,none⟩) (Below.setCell (p:=⟨w.heap.size,0,none⟩) (h11.grown hg h11.size (fun k e=>?_)) (Nat.le_refl _) _) (by show w.heap.size≤w.heap.size+3;omega) _
  have:=(ownBlock_inN hrow e).1
  omega
def preW (w:World) (s:ByteArray):World:=(((((((w.alloc (.cells #[.slice none 0 0] 22)).alloc (.cells #[.int .i64 0] 3)).alloc (.cells #[.int .i64 0] 36)).alloc (.cells #[.int .i64 0] 3)).alloc (.cells #[.string s] 9)).alloc (.cells #[.string ⟨#[32]⟩] 9)).alloc (.cells #[.int .i64 0] 3))
theorem preW_size (w:World) (s:ByteArray):(preW w s).heap.size=w.heap.size+7:=by simp [preW]
theorem rw_new {w:World} {k:Nat} (hk:w.heap.size=k) (T:TypeId) (x:Value):Rw (w.alloc (.cells #[x] T)) k T [x]:=by
 subst hk;exact Rw.new w T [x]
theorem SI.start (w:World) (s:ByteArray) (xs:List NV) (rec:Loop):SI w xs rec [] s (loopW (preW w s) rec):=by
 have q:Below (w.heap.size+7) (preW w s) (loopW (preW w s) rec):=loopW_below _ _ (by rw [preW_size];exact Nat.le_refl _);have f:∀ {k T L},Rw (preW w s) k T L→Rw (loopW (preW w s) rec) k T L:=fun {k T L} h=>h.below q (by have:=h.lt;rw [preW_size] at this;exact this);have b1:Below w.heap.size w (preW w s):=by
  unfold preW;refine Below.alloc (Below.alloc (Below.alloc (Below.alloc (Below.alloc (Below.alloc (Below.alloc (Below.refl _ _) ?_ _) ?_ _) ?_ _) ?_ _) ?_ _) ?_ _) ?_ _
  all_goals
   (try simp only [World.size_alloc])
   omega
 have hd:=loopW_def (preW w s) rec;have hl:=loopW_rec (preW w s) rec;rw [preW_size] at hd hl;refine ⟨⟨.slice none 0 0,World.ownsRow_nil _ _ _ _,f ?_⟩,f ?_,f ?_,f ?_,f ?_,f ?_,f ?_,hd,hl,b1.trans (q.mono (by omega)),Nat.zero_le _⟩
 ·exact (((((((rw_new rfl _ _).alloc _).alloc _).alloc _).alloc _).alloc _).alloc _)
 ·exact ((((((rw_new (by simp) _ _).alloc _).alloc _).alloc _).alloc _).alloc _)
 ·exact (((((rw_new (by simp) _ _).alloc _).alloc _).alloc _).alloc _)
 ·exact ((((rw_new (by simp) _ _).alloc _).alloc _).alloc _)
 ·exact (((rw_new (by simp) _ _).alloc _).alloc _)
 ·exact ((rw_new (by simp) _ _).alloc _)
 ·exact rw_new (by simp) _ _
structure SX (w:World) (rec:Loop) (p c:Int) (W:World):Prop where
 row:Rw W w.heap.size 22 [.slice none 0 0]
 at_:Rw W (w.heap.size+1) 3 [.int .i64 p]
 er:Rw W (w.heap.size+2) 36 [.int .i64 c]
 d:W.heap[w.heap.size+7]?=some (.deferred (some []))
 l:W.heap[w.heap.size+8]?=some (.loop rec)
 b:Below w.heap.size w W
theorem SI.stop {w W:World} {xs:List NV} {rec:Loop} {pre:List (List UInt8)} {r:ByteArray} (h:SI w xs rec pre r W) (p c:Int) :
  SX w rec p c (((W.setCell ⟨w.heap.size,0,none⟩ (.slice none 0 0)).setCell ⟨w.heap.size+1,0,none⟩ (.int .i64 p)).setCell ⟨w.heap.size+2,0,none⟩ (.int .i64 c)):=by
 obtain ⟨⟨v,h1,h2⟩,h3,h4,h5,h6,h7,h8,h9,h10,h11,h12⟩:=h;refine ⟨((h2.set_ 0 (.slice none 0 0)).fr _ _ _).fr _ _ _,((h3.fr w.heap.size 0 _).set_ 0 (.int .i64 p)).fr _ _ _,((h4.fr w.heap.size 0 _).fr (w.heap.size+1) 0 _).set_ 0 (.int .i64 c),?_,?_,?_⟩
 ·exact (heap_far (by show w.heap.size+7≠w.heap.size+2;omega)).trans ((heap_far (by show w.heap.size+7≠w.heap.size+1;omega)).trans ((heap_far (by show w.heap.size+7≠w.heap.size;omega)).trans h9))
 ·exact (heap_far (by show w.heap.size+8≠w.heap.size+2;omega)).trans ((heap_far (by show w.heap.size+8≠w.heap.size+1;omega)).trans ((heap_far (by show w.heap.size+8≠w.heap.size;omega)).trans h10))
 ·exact ((h11.setCell (p:=⟨w.heap.size,0,none⟩) (Nat.le_refl _) _).setCell (p:=⟨w.heap.size+1,0,none⟩) (by show w.heap.size≤w.heap.size+1;omega) _).setCell (p:=⟨w.heap.size+2,0,none⟩) (by show w.heap.size≤w.heap.size+2;omega) _
theorem SX.put {w W:World} {rec rec' : Loop} {p c:Int} (h:SX w rec p c W):SX w rec' p c (W.putObj (w.heap.size+8) (.loop rec')):=by
 obtain ⟨h2,h3,h4,h9,h10,h11⟩:=h;have g:W.grownBy (W.putObj (w.heap.size+8) (.loop rec')) (some (w.heap.size+8)):=grownBy_putObj' W _ _;have hr:∀ r,some (w.heap.size+8)=some r→∃ o:Obj,W.heap[r]?=some o∧o.isCells=false:=fun r e=>by
  cases e
  exact ⟨_,h10,rfl⟩
 exact ⟨rw_own h2 g hr,rw_own h3 g hr,rw_own h4 g hr,(World.putObj_heap_other (by omega)).trans h9,World.putObj_heap_same (Array.getElem?_eq_some_iff.1 h10).1,h11.grown g (by have:=h11.size;omega) (fun k e=>by cases e;omega)⟩
def Ob (W:World) (k:Nat) (o:Obj):Prop:=W.heap[k]?=some o
theorem Ob.far {W:World} {k:Nat} {o:Obj} (h:Ob W k o) {p:Addr} (hp:k≠p.block) (u:Value):Ob (W.setCell p u) k o:=(heap_far hp).trans h
theorem Ob.fr {W:World} {k:Nat} {o:Obj} (h:Ob W k o) (A j:Nat) (u:Value) (hp:k≠A:=by omega):Ob (W.setCell ⟨A,j,none⟩ u) k o:=h.far (p:=⟨A,j,none⟩) hp u
theorem region_lin_round {P:Program} {l m id n:Nat} {Q:Exit→Act→World→Prop} {ops:Array Oper} {a:Act} {w:World} (rs:List Nat) (I:Array Bool→Act→World→Prop) (hd:noDefer ops=true) (hL:¬ LetsOut Q) (hm:P.follows .mixedOrders=true) (hn:ops.size=n) (hrs:List.range n=rs) (ht:linTopo ops=true) (h0:I (Array.replicate n false) a w.drew)
  (hall:∀ j∈rs,LinStep P ops Q I j) (hend:∀ L a w,I L a w→AllT L rs→Q .normal a w):(Code.region id ops true).wpIn (Fence.wide.inRound l) m P Q a w:=by
 subst hn;subst hrs;refine region_round (fun _=>True) hm hd hL (lin_any hall ht hend _ _ _ _ (by simp) ?_ ?_ h0)
 ·unfold unl;simp [List.countP_replicate]
 ·intro j hj;simp [Array.getD] at hj
theorem load_one {W:World} {b:Nat} {T:TypeId} {v:Value} (hT:∀ w,(isAgg T).run Tryz.prog w=.ok false w) (h:Rw W b T [v]):(loadVar T ⟨b,0,none⟩).run Tryz.prog W=.ok v W:=by
 have hc:=h.cell 0;simp only [List.getElem?_cons_zero] at hc;simp [loadVar,hT,go_sem,hc]
theorem results_three {fn:Func} {p q r:Tmp} {tmps:Array Value} {W:World} {a b c:Nat} {x y z:Value} (h:fn.results=#[.cell p 22,.cell q 3,.cell r 36]) (hp:tmps.getD p undef=.pointer (some ⟨a,0,none⟩)) (hq:tmps.getD q undef=.pointer (some ⟨b,0,none⟩)) (hr:tmps.getD r undef=.pointer (some ⟨c,0,none⟩))
  (h1:Rw W a 22 [x]) (h2:Rw W b 3 [y]) (h3:Rw W c 36 [z]):(results fn tmps).run Tryz.prog W=.ok (.tuple #[x,y,z]) W:=by
 have hp' : tmps[p]?.getD undef=.pointer (some ⟨a,0,none⟩):=by simpa using hp
 have hq' : tmps[q]?.getD undef=.pointer (some ⟨b,0,none⟩):=by simpa using hq
 have hr' : tmps[r]?.getD undef=.pointer (some ⟨c,0,none⟩):=by simpa using hr
 have e1:=load_one (T:=22) Tryz.isAgg22 h1;have e2:=load_one (T:=3) Tryz.isAgg3 h2;have e3:=load_one (T:=36) Tryz.isAgg36 h3;simp [results,h,hp',hq',hr',asAddr,e1,e2,e3]
theorem leave_three {n:Nat} {fn:Func} {p q r:Tmp} {tmps:Array Value} {W:World} {D a b c:Nat} {x y z:Value} {R:Ending→World→Prop} (h:fn.results=#[.cell p 22,.cell q 3,.cell r 36]) (hp:tmps.getD p undef=.pointer (some ⟨a,0,none⟩)) (hq:tmps.getD q undef=.pointer (some ⟨b,0,none⟩)) (hr:tmps.getD r undef=.pointer (some ⟨c,0,none⟩))
  (hd:W.heap[D]?=some (.deferred (some []))) (h1:Rw W a 22 [x]) (h2:Rw W b 3 [y]) (h3:Rw W c 36 [z]) (hR:R (.returned (.tuple #[x,y,z])) (W.putObj D (.deferred none))) :
  bodyPostM Fence.wide n Tryz.prog fn R Exit.ret {tmps:=tmps,defers:=[{ target:=.collected D,args:=#[] }] } W:=by
 have g:W.grownBy (W.putObj D (.deferred none)) (some D):=grownBy_putObj' W _ _;have hf:∀ r,some D=some r→∃ o:Obj,W.heap[r]?=some o∧o.isCells=false:=fun r e=>by
  cases e
  exact ⟨_,hd,rfl⟩
 refine ⟨by simp,.inl ⟨_,_,rfl,run_takeDeferred hd,?_⟩⟩;exact ⟨_,results_three h hp hq hr (rw_own h1 g hf) (rw_own h2 g hf) (rw_own h3 g hf),hR⟩
end Go.Proofs.YtiddgplapodleaaGreatDoor
namespace Go.Proofs.YtiddgplapodleaaGreatDoor
set_option maxRecDepth 100000
set_option maxHeartbeats 4000000
open Go.RowKit Go.Shelf Go.Lib
attribute [local go_sem] Oper.semAt_some
structure Fate (s:ByteArray) (xs:List NV) (p c:Int):Prop where
 size:∀ t∈cutP s.data.toList,t.length≤200
 good:∀ (i:Nat) (h:i<xs.length) (t:ByteArray),(cutP s.data.toList)[i]?=some t.data.toList→Det t xs[i].1 xs[i].2.1 xs[i].2.2 0 0
 fin:(xs.length=(cutP s.data.toList).length∧c=0)∨(c≠0∧∃ p0:Int,(∀ t:ByteArray,(cutP s.data.toList)[xs.length]?=some t.data.toList→Det t false ⟨#[]⟩ 0 p0 c)∧(0≤p0∧p0≤1000)∧xs.length<(cutP s.data.toList).length∧p=behind ((cutP s.data.toList).take xs.length)+p0)
theorem lsplit_any (w:World) (s:ByteArray) (hne:s.toList.isEmpty=false) (hs:s.size≤100000) (xs:List NV) (hxs:xs.length≤1000) (p c:Int) (hF:Fate s xs p c) :
  Calls Tryz.prog 15 #[.string s] w (fun e w'=>Below w.heap.size w w'∧(c=0→∃ ad cap,e=.returned (.tuple #[.slice ad xs.length cap,.int .i64 0,.int .i64 0])∧NAt w' ad xs)∧(c≠0→e=.returned (.tuple #[.slice none 0 0,.int .i64 p,.int .i64 c]))):=by
 refine (callsIn_wide (n:=5)).1 ?_;refine callsIn_of_wp_marks Tryz.func15 rfl trivial ?_ rfl;simp only [Tryz.ntmps15,List.size_toArray,List.length_cons,List.length_nil,Nat.reduceAdd,Nat.reduceSub,Array.replicate_succ,Array.replicate_zero,List.push_toArray,List.append_toArray,List.nil_append,List.cons_append];obtain ⟨i0,hi0,hz0,hz1,hz2⟩:=info_parts infoN3;have HF:=Lib.hid hF;clear hF
 gi_wp2_with fail
 refine ⟨trivial,?_⟩;refine (splits_in Fence.wide _ trivial trivial rfl (by omega) _ _).mono ?_;rintro e w' ⟨rfl,rfl⟩
 gi_wp2_with fail
 refine (show Code.wpIn Fence.wide 5 Tryz.prog _ _ _ (preW w s) from ?_);simp only [Nat.add_assoc,Nat.reduceAdd];refine range_enter rfl (by omega) (gf:=80) (lb:=#[.pointer (some ⟨w.heap.size+5,0,none⟩),.pointer (some ⟨w.heap.size+4,0,none⟩),.pointer (some ⟨w.heap.size+6,0,none⟩)]) rfl trivial (enters_of Tryz.func80 (by kernel_rfl) rfl) ?_;intro fn hfn;generalize hrc:recL fn _ _ _ _ _=rc;have hst:=SI.start w s xs (rc .ready none);rw [preW_size] at hrc ⊢;generalize loopW (preW w s) (rc .ready none)=W1 at *;refine (split1_in _ (by omega) (w.heap.size+8) (w.heap.size+4) (w.heap.size+5) (w.heap.size+6) s hs (fun pre r W=>SI w xs (rc .ready none) pre r W) (fun W=>SX w (rc .done (some .ret)) p c W∧c≠0) (fun _ _ _ h=>⟨h.s1,h.s2,h.s3⟩) (fun _ _ _ _ h=>h.turn _) ?_ _ hst).mono ?_
 ·intro pre r t W hJ hcut hpre;have hget:(cutP s.data.toList)[pre.length]?=some t.data.toList:=by
   obtain ⟨u,hu⟩:=hcut;rw [← hpre,hu,List.getElem?_append_right (Nat.le_refl _),Nat.sub_self];rfl
  have ht:t.size≤200:=HF.out.size _ (List.mem_of_getElem? hget);have hl:=hJ.l;have hJ2:=hJ.put (rec':=rc .busy none);rw [← hrc] at hl;refine range_round trivial rfl hl ?_;rw [hrc]
  gi_wp2_with fail
  refine ⟨trivial,?_⟩;refine (CallsIn.inRound _ (callsIn_wide.2 (lparse_any _ t ht))).mono ?_;rintro e' W2 ⟨k,r',z,o,x,p',c',rfl,hP,hL,hq⟩;have hJ3:=hJ2.next hq
  by_cases hk:pre.length<xs.length
  ·obtain ⟨⟨m0,t0,e0⟩,hx0⟩:∃ q:NV,xs[pre.length]=q:=⟨_,rfl⟩;have hgood:=HF.out.good pre.length hk t hget;rw [hx0] at hgood;obtain ⟨rfl,rfl,rfl,rfl,rfl⟩:=hgood _ _ _ _ _ _ _ hP hL;have HX:=Lib.hid hx0;have hJ4:=hJ3.next ((Below.refl _ W2).alloc (Nat.le_refl _) (.cells #[.bool z,.string o,.int .i64 x] 28));have hX:=Nk.new W2 z o x;have hJ5:=hJ4.next ((Below.refl _ _).alloc (Nat.le_refl _) (.cells #[.bool z,.string o,.int .i64 x] 28));obtain ⟨v,hrow,hv⟩:=hJ4.row;obtain ⟨od,oc,rfl,-,-⟩:=own_nat (by rw [List.length_take];omega) hrow;have hrow5:=hrow.alloc (.cells #[.bool z,.string o,.int .i64 x] 28);have hv5:=hv.alloc (.cells #[.bool z,.string o,.int .i64 x] 28);have hnew:=cell_three_new (W2.alloc (.cells #[.bool z,.string o,.int .i64 x] 28)) 28 (Value.bool z) (Value.string o) (Value.int .i64 x);rw [World.size_alloc] at hnew;have hc0:=hv.cell 0;simp only [List.getElem?_cons_zero] at hc0;obtain ⟨hX0,hX1,hX2⟩:=hX.cells;have hsz:w.heap.size+8<W2.heap.size:=(Array.getElem?_eq_some_iff.1 hJ3.l).1;have hbh:behind pre+t.size+1≤s.size+1:=by
    obtain ⟨u,hu⟩:=hcut;have h1:=cutP_behind s.data.toList;rw [← hpre,hu,behind_app] at h1;have h2:behind (t.data.toList::u)=(t.size+1)+behind u:=rfl;have h3:s.data.toList.length=s.size:=rfl;omega
   have HR:=Lib.hid (And.intro hrow5 (And.intro hnew (And.intro hJ5 hv5)));clear hP hL hq hJ2 hJ hJ3 hJ4 hJ5 hl hgood hx0 hrow hrow5 hv5 hnew hcut hpre hget hst
   gi_wp2_with (refine wpListIn_append_own _ rfl (.tmp 27) (.tmp 29) 22 rfl (w.heap.size+9) 28 i0 (.agg #[.bool false,.string ⟨#[]⟩,.int .i64 0]) 3 32 Tryz.underlying22 hi0 hz0 hz1 hz2 rfl (by decide) (.slice od pre.length oc) pre.length _ rfl HR.out.1 ⟨W2.heap.size+1,0,none⟩ 1 1 [.bool z,.string o,.int .i64 x] rfl rfl HR.out.2.1 (by intro u hu;simp at hu;rcases hu with rfl|rfl|rfl <;> rfl) (by unfold maxLen;omega) (by omega) (by simp only [World.size_alloc];omega) ?_)
   intro v' w1 hown' hgrow _;have hown2:w1.ownsRow (w.heap.size+9) 28 3 v' (pre.length+1) (ncells (xs.take pre.length)++[.bool xs[pre.length].1,.string xs[pre.length].2.1,.int .i64 xs[pre.length].2.2]):=by
    rw [HX.out];exact hown'
   obtain ⟨gq,cq,rfl⟩:=own_sliceN hown' (by omega);have g0:=HR.out.2.2.2.grown hgrow (ownBlock_neN HR.out.1 HR.out.2.2.2 (by decide));have g3:=HR.out.2.2.1.bg.grown hgrow (ownBlock_neN HR.out.1 HR.out.2.2.1.bg (by decide));have g4:=g3.fr w.heap.size 0 (Value.slice (some ⟨gq,0,none⟩) (pre.length+1) cq);have hd0:=g0.cell 0;have hd1:=g0.frozen 0;have hd2:=g4.cell 0;have hd3:=g4.frozen 0;simp only [List.getElem?_cons_zero] at hd0 hd2;have HM:=Lib.hid (HR.out.2.2.1.more (t:=t.data.toList) HR.out.2.2.2 HR.out.1 hk hown2 hgrow ((behind pre:Int)+((t.size:Int)+1)) (by rw [behind_snoc];show _=((behind pre+(t.size+1):Nat):Int);omega));clear hown2 hown' hgrow g0 g3 g4
   gi_wp2_with fail
   exact ⟨HM.out.l,.inl ⟨rfl,HM.out.put⟩⟩
  ·have hn:=hJ.n;have hlp:(cutP s.data.toList).take pre.length=pre:=by rw [← hpre];exact List.take_left
   have hlt:=(List.getElem?_eq_some_iff.1 hget).1;have hke:xs.length=pre.length:=by omega
   have hfin:=HF.out.fin;rw [hke,hlp] at hfin
   rcases hfin with ⟨h1,-⟩|⟨hc,p0,hdet,hp0,-,hp⟩
   ·omega
   obtain ⟨rfl,rfl,rfl,rfl,rfl⟩:=hdet t hget _ _ _ _ _ _ _ hP hL;have hJ4:=hJ3.next ((Below.refl _ W2).alloc (Nat.le_refl _) (.cells #[.bool false,.string ⟨#[]⟩,.int .i64 0] 28));have hX:=Nk.new W2 false ⟨#[]⟩ 0;obtain ⟨v,hrow,hv⟩:=hJ4.row;obtain ⟨od,oc,rfl,-,-⟩:=own_nat (by rw [List.length_take];omega) hrow;have hbh:behind pre≤s.size+1:=by
    have h1:=cutP_behind s.data.toList;rw [← hpre,behind_app] at h1;have h3:s.data.toList.length=s.size:=rfl;omega
   have hb0:=hJ4.bg.cell 0;simp only [List.getElem?_cons_zero] at hb0;have HS:=Lib.hid (And.intro hJ4.drew (And.intro hc hp));clear hP hL hq hJ2 hJ hJ3 hJ4 hl hdet hcut hpre hget hst hlp hlt hrow hp;have hmix:Tryz.prog.follows .mixedOrders=true:=by kernel_rfl
   have hwr:IntKind.i64.wrap ((behind pre:Int)+p')=(behind pre:Int)+p':=by
    rw [IntKind.wrap_i64];omega
   have hcb:(c' != 0)=true:=by simp [hc]
   gi_wp2_with fail
   refine region_lin_round (n:=7) [0,1,2,3,4,5,6] (fun L ac Wn=>∃ l0 l1 l2 l3 l4 l5 l6:Bool,L=#[l0,l1,l2,l3,l4,l5,l6]∧ac={tmps:=#[.string s,undef,.pointer (some ⟨w.heap.size,0,none⟩),.pointer (some ⟨w.heap.size+1,0,none⟩),.pointer (some ⟨w.heap.size+2,0,none⟩),.pointer (some ⟨w.heap.size+3,0,none⟩),.string t,.pointer (some ⟨W2.heap.size,0,none⟩),.int .i64 p',.int .i64 c',.string s,.bool false,.string s,.func (Fn.func 80) #[] #[.pointer (some ⟨w.heap.size+5,0,none⟩),.pointer (some ⟨w.heap.size+4,0,none⟩),.pointer (some ⟨w.heap.size+6,0,none⟩)],.string t,.tuple #[.agg #[.bool false,.string ⟨#[]⟩,.int .i64 0],.int .i64 p',.int .i64 c'],.string t,.tuple #[.agg #[.bool false,.string ⟨#[]⟩,.int .i64 0],.int .i64 p',.int .i64 c'],.agg #[.bool false,.string ⟨#[]⟩,.int .i64 0],.int .i64 p',.int .i64 c',.int .i64 c',.bool true,sel l0 (.int .i64 (behind pre:Int)) (undef),sel l1 (.int .i64 p') (undef),sel l2 (.int .i64 ((behind pre:Int)+p')) (undef),sel l3 (.int .i64 c') (undef),undef,undef,undef,undef,undef,undef,undef,undef,undef,undef],defers:=[] }∧Below (w.heap.size) w Wn∧(Off l4→Rw Wn (w.heap.size) 22 [.slice od pre.length oc])∧(On l4→Rw Wn (w.heap.size) 22 [.slice none 0 0])∧(Off l5→Rw Wn (w.heap.size+1) 3 [.int .i64 0])∧(On l5→Rw Wn (w.heap.size+1) 3 [.int .i64 ((behind pre:Int)+p')])∧(Off l6→Rw Wn (w.heap.size+2) 36 [.int .i64 0])∧(On l6→Rw Wn (w.heap.size+2) 36 [.int .i64 c'])∧(Rw Wn (w.heap.size+3) 3 [.int .i64 (behind pre:Int)])∧(Ob Wn (w.heap.size+7) (Obj.deferred (some [])))∧(Ob Wn (w.heap.size+8) (Obj.loop (rc .busy none)))) (by kernel_rfl) (by rintro ⟨_,_,h⟩;exact h) hmix (by kernel_rfl) (by kernel_rfl) (by kernel_rfl) ?_ ?_ ?_
   ·exact ⟨false,false,false,false,false,false,false,by kernel_rfl,by kernel_rfl,HS.out.1.b,(fun _=>hv.drew),(fun h=>not_ft h),(fun _=>HS.out.1.at_),(fun h=>not_ft h),(fun _=>HS.out.1.er),(fun h=>not_ft h),HS.out.1.bg,HS.out.1.d,HS.out.1.l⟩
   ·refine lc [] [2,5,6] ?_ ?_
    ·rintro L ac Wn ⟨l0,l1,l2,l3,l4,l5,l6,rfl,hI⟩ rfl - ⟨rfl,rfl,rfl,-⟩ Kc hK;simp only [sel_f] at hI;obtain ⟨rfl,hb,hL,hL',hA,hA',hE,hE',hG,hD,hC⟩:=hI;have q0:=(hG).cell 0;have f0:=(hG).frozen 0;simp only [List.getElem?_cons_zero] at q0;refine ly (.int .i64 (behind pre:Int)) ?_;exact hK.out _ _ ⟨true,l1,false,l3,l4,false,false,by kernel_rfl,by kernel_rfl,hb,(fun z0=>(hL z0)),(fun z0=>(hL' z0)),(fun z0=>(hA z0)),(fun h=>not_ft h),(fun z0=>(hE z0)),(fun h=>not_ft h),hG,hD,hC⟩
    refine lc [] [2,5,6] ?_ ?_
    ·rintro L ac Wn ⟨l0,l1,l2,l3,l4,l5,l6,rfl,hI⟩ rfl - ⟨rfl,rfl,rfl,-⟩ Kc hK;simp only [sel_f] at hI;obtain ⟨rfl,hb,hL,hL',hA,hA',hE,hE',hG,hD,hC⟩:=hI;refine ly (.int .i64 p') ?_;exact hK.out _ _ ⟨l0,true,false,l3,l4,false,false,by kernel_rfl,by kernel_rfl,hb,(fun z0=>(hL z0)),(fun z0=>(hL' z0)),(fun z0=>(hA z0)),(fun h=>not_ft h),(fun z0=>(hE z0)),(fun h=>not_ft h),hG,hD,hC⟩
    refine lc [0,1] [5,6] ?_ ?_
    ·rintro L ac Wn ⟨l0,l1,l2,l3,l4,l5,l6,rfl,hI⟩ rfl ⟨rfl,rfl,-⟩ ⟨rfl,rfl,-⟩ Kc hK;simp only [sel_t,sel_f] at hI;obtain ⟨rfl,hb,hL,hL',hA,hA',hE,hE',hG,hD,hC⟩:=hI;refine lin_yield (.int .i64 ((behind pre:Int)+p')) rfl (by go_simp;first|done|with_reducible rfl|assumption) ?_;exact hK.out _ _ ⟨true,true,true,l3,l4,false,false,by kernel_rfl,by kernel_rfl,hb,(fun z0=>(hL z0)),(fun z0=>(hL' z0)),(fun z0=>(hA z0)),(fun h=>not_ft h),(fun z0=>(hE z0)),(fun h=>not_ft h),hG,hD,hC⟩
    refine lc [] [6] ?_ ?_
    ·rintro L ac Wn ⟨l0,l1,l2,l3,l4,l5,l6,rfl,hI⟩ rfl - ⟨rfl,-⟩ Kc hK;simp only [sel_f] at hI;obtain ⟨rfl,hb,hL,hL',hA,hA',hE,hE',hG,hD,hC⟩:=hI;refine ly (.int .i64 c') ?_;exact hK.out _ _ ⟨l0,l1,l2,true,l4,l5,false,by kernel_rfl,by kernel_rfl,hb,(fun z0=>(hL z0)),(fun z0=>(hL' z0)),(fun z0=>(hA z0)),(fun z0=>(hA' z0)),(fun z0=>(hE z0)),(fun h=>not_ft h),hG,hD,hC⟩
    refine lc [] [5,6] ?_ ?_
    ·rintro L ac Wn ⟨l0,l1,l2,l3,l4,l5,l6,rfl,hI⟩ rfl - ⟨rfl,rfl,-⟩ Kc hK;obtain ⟨rfl,hb,hL,hL',hA,hA',hE,hE',hG,hD,hC⟩:=hI;have q0:=(hL rfl).cell 0;have f0:=(hL rfl).frozen 0;simp only [List.getElem?_cons_zero] at q0;go_simp;exact hK.out _ _ ⟨l0,l1,l2,l3,true,false,false,by kernel_rfl,by kernel_rfl,(hb.setCell (p:=⟨w.heap.size,0,none⟩) (by show w.heap.size≤w.heap.size;omega) (.slice none 0 0)),(fun h=>not_tf h),(fun _=>(hL rfl).set_ 0 (.slice none 0 0)),(fun z0=>((hA z0)).fr (w.heap.size) 0 (.slice none 0 0)),(fun h=>not_ft h),(fun z0=>((hE z0)).fr (w.heap.size) 0 (.slice none 0 0)),(fun h=>not_ft h),((hG).fr (w.heap.size) 0 (.slice none 0 0)),((hD).fr (w.heap.size) 0 (.slice none 0 0)),((hC).fr (w.heap.size) 0 (.slice none 0 0))⟩
    refine lc [0,1,2,4] [6] ?_ ?_
    ·rintro L ac Wn ⟨l0,l1,l2,l3,l4,l5,l6,rfl,hI⟩ rfl ⟨rfl,rfl,rfl,rfl,-⟩ ⟨rfl,-⟩ Kc hK;simp only [sel_t] at hI;obtain ⟨rfl,hb,hL,hL',hA,hA',hE,hE',hG,hD,hC⟩:=hI;have q0:=(hA rfl).cell 0;have f0:=(hA rfl).frozen 0;simp only [List.getElem?_cons_zero] at q0;go_simp;exact hK.out _ _ ⟨true,true,true,l3,true,true,false,by kernel_rfl,by kernel_rfl,(hb.setCell (p:=⟨w.heap.size+1,0,none⟩) (by show w.heap.size≤w.heap.size+1;omega) (.int .i64 ((behind pre:Int)+p'))),(fun h=>not_tf h),(fun z0=>((hL' z0)).fr (w.heap.size+1) 0 (.int .i64 ((behind pre:Int)+p'))),(fun h=>not_tf h),(fun _=>(hA rfl).set_ 0 (.int .i64 ((behind pre:Int)+p'))),(fun z0=>((hE z0)).fr (w.heap.size+1) 0 (.int .i64 ((behind pre:Int)+p'))),(fun h=>not_ft h),((hG).fr (w.heap.size+1) 0 (.int .i64 ((behind pre:Int)+p'))),((hD).fr (w.heap.size+1) 0 (.int .i64 ((behind pre:Int)+p'))),((hC).fr (w.heap.size+1) 0 (.int .i64 ((behind pre:Int)+p')))⟩
    refine ln [0,1,2,3,4,5] [] ?_;rintro L ac Wn ⟨l0,l1,l2,l3,l4,l5,l6,rfl,hI⟩ rfl ⟨rfl,rfl,rfl,rfl,rfl,rfl,-⟩ - Kc hK;simp only [sel_t] at hI;obtain ⟨rfl,hb,hL,hL',hA,hA',hE,hE',hG,hD,hC⟩:=hI;have q0:=(hE rfl).cell 0;have f0:=(hE rfl).frozen 0;simp only [List.getElem?_cons_zero] at q0;go_simp;exact hK.out _ _ ⟨true,true,true,true,true,true,true,by kernel_rfl,by kernel_rfl,(hb.setCell (p:=⟨w.heap.size+2,0,none⟩) (by show w.heap.size≤w.heap.size+2;omega) (.int .i64 c')),(fun h=>not_tf h),(fun z0=>((hL' z0)).fr (w.heap.size+2) 0 (.int .i64 c')),(fun h=>not_tf h),(fun z0=>((hA' z0)).fr (w.heap.size+2) 0 (.int .i64 c')),(fun h=>not_tf h),(fun _=>(hE rfl).set_ 0 (.int .i64 c')),((hG).fr (w.heap.size+2) 0 (.int .i64 c')),((hD).fr (w.heap.size+2) 0 (.int .i64 c')),((hC).fr (w.heap.size+2) 0 (.int .i64 c'))⟩
   ·intro L ac Wn hI hall;obtain ⟨l0,l1,l2,l3,l4,l5,l6,rfl,hI⟩:=hI;obtain ⟨rfl,rfl,rfl,rfl,rfl,rfl,rfl,-⟩:l0=true∧l1=true∧l2=true∧l3=true∧l4=true∧l5=true∧l6=true∧True:=hall;simp only [sel_t] at hI;obtain ⟨rfl,hb,hL,hL',hA,hA',hE,hE',hG,hD,hC⟩:=hI;clear hL;replace hL':=hL' rfl;clear hA;replace hA':=hA' rfl;clear hE;replace hE':=hE' rfl
    gi_wp2
    exact ⟨hC,.inr ⟨rfl,HS.out.2.2▸SX.put ⟨hL',hA',hE',hD,hC,hb⟩,hc⟩⟩
 ·rintro e W3 ⟨⟨v,rfl⟩,(⟨r,hJ⟩|⟨hX,hc⟩)⟩
  ·have hn:=hJ.n;have hl:=hJ.l;rw [← hrc] at hl;have hJ2:=hJ.put (rec':=rc .exhausted none);refine range_done hl ?_;rw [hrc];generalize W3.putObj (w.heap.size+8) (Obj.loop (rc .exhausted none))=W4 at *;obtain ⟨v,hrow,hv⟩:=hJ2.row;have hke:xs.length=(cutP s.data.toList).length∧c=0:=by
    rcases HF.out.fin with h|⟨-,p0,-,-,h,-⟩
    ·exact h
    ·omega
   obtain ⟨hkl,rfl⟩:=hke;rw [← hkl,List.take_length] at hrow;obtain ⟨od,oc,rfl,-,hN⟩:=own_nat rfl hrow;have g1:=hJ2.at_.fr w.heap.size 0 (Value.slice od xs.length oc);have g2:=(hJ2.er.fr w.heap.size 0 (Value.slice od xs.length oc)).fr (w.heap.size+1) 0 (Value.int .i64 0);have hd:(((W4.setCell ⟨w.heap.size,0,none⟩ (.slice od xs.length oc)).setCell ⟨w.heap.size+1,0,none⟩ (.int .i64 0)).setCell ⟨w.heap.size+2,0,none⟩ (.int .i64 0)).heap[w.heap.size+7]?=some (.deferred (some [])):=
    (heap_far (by show w.heap.size+7≠w.heap.size+2;omega)).trans ((heap_far (by show w.heap.size+7≠w.heap.size+1;omega)).trans ((heap_far (by show w.heap.size+7≠w.heap.size;omega)).trans hJ2.d))
   have k0:=((hv.set_ 0 (.slice od xs.length oc)).fr (w.heap.size+1) 0 (.int .i64 0)).fr (w.heap.size+2) 0 (.int .i64 0);have k1:=(g1.set_ 0 (.int .i64 0)).fr (w.heap.size+2) 0 (.int .i64 0);have k2:=g2.set_ 0 (.int .i64 0);have kb:Below w.heap.size w (((W4.setCell ⟨w.heap.size,0,none⟩ (.slice od xs.length oc)).setCell ⟨w.heap.size+1,0,none⟩ (.int .i64 0)).setCell ⟨w.heap.size+2,0,none⟩ (.int .i64 0)):=
    ((hJ2.b.setCell (p:=⟨w.heap.size,0,none⟩) (Nat.le_refl _) _).setCell (p:=⟨w.heap.size+1,0,none⟩) (by show w.heap.size≤w.heap.size+1;omega) _).setCell (p:=⟨w.heap.size+2,0,none⟩) (by show w.heap.size≤w.heap.size+2;omega) _
   have kr:=ownsRow_offN (i:=0) (u:=.int .i64 0) (ownsRow_offN (i:=0) (u:=.int .i64 0) (ownsRow_offN (i:=0) (u:=.slice od xs.length oc) hrow hv (by decide)) g1 (by decide)) g2 (by decide);have hc0:=hv.cell 0;have hf0:=hv.frozen 0;have hc1:=g1.cell 0;have hf1:=g1.frozen 0;have hc2:=g2.cell 0;have hf2:=g2.frozen 0;simp only [List.getElem?_cons_zero] at hc0 hc1 hc2;have HE:=Lib.hid (And.intro hd (And.intro k0 (And.intro k1 (And.intro k2 (And.intro kb kr)))));clear hJ hl hn hkl hrow hd k0 k1 k2 kb kr
   gi_wp2_with fail
   refine leave_three rfl rfl rfl rfl HE.out.1 HE.out.2.1 HE.out.2.2.1 HE.out.2.2.2.1 ⟨HE.out.2.2.2.2.1.trans (belowK_b (w:=w) (Nat.le_refl _) _ _ _ (.deferred none) (by omega) HE.out.1 rfl rfl),od,⟨oc,rfl⟩,?_⟩;obtain ⟨od',oc',he,-,hN'⟩:=own_nat rfl (ownsRow_putObj HE.out.2.2.2.2.2 (.deferred none) HE.out.1 rfl)
   injection he with he
   subst he;exact hN'
  ·have hl:=hX.l;rw [← hrc] at hl;have hX2:=hX.put (rec':=rc .exhausted (some .ret));refine range_ret hl ?_;rw [hrc];generalize W3.putObj (w.heap.size+8) (Obj.loop (rc .exhausted (some .ret)))=W4 at *;clear hX hl
   gi_wp2_with fail
   exact leave_three rfl rfl rfl rfl hX2.d hX2.row hX2.at_ hX2.er ⟨hX2.b.trans (belowK_b (w:=w) (Nat.le_refl _) _ _ _ (.deferred none) (by omega) hX2.d rfl rfl),rfl⟩
end Go.Proofs.YtiddgplapodleaaGreatDoor
namespace Go.Proofs.YtiddgplapodleaaGreatDoor
open Go.RowKit Go.Shelf Go.Lib
theorem ex_34 {t:ByteArray} (h:t.data.toList=[51,47,52]):Det t false ⟨#[3]⟩ (-2) 0 0:=det_slash (k0:=1) (A:=3) (B:=4) (e0:=2) (by rw [h];decide) (by rw [h];kernel_rfl) (by rw [h];kernel_rfl) (by rw [h];decide) (by rw [h];kernel_rfl) (by rw [h];kernel_rfl) (by rw [h];kernel_rfl) (by rw [h];kernel_rfl) (by kernel_rfl) (by kernel_rfl)
theorem ex_63 {t:ByteArray} (h:t.data.toList=[45,54,112,45,51]):Det t true ⟨#[3]⟩ (-2) 0 0:=det_power (k0:=2) (A:=-6) (B:=-3) (by rw [h];decide) (by rw [h];kernel_rfl) (by rw [h];kernel_rfl) (by rw [h];decide) (by rw [h];kernel_rfl) (by rw [h];kernel_rfl) (by rw [h];kernel_rfl) (by rw [h];kernel_rfl) (by omega) (by kernel_rfl)
theorem ex_09 {t:ByteArray} (h:t.data.toList=[48,112,57]):Det t false ⟨#[]⟩ 0 0 0:=det_power (k0:=1) (A:=0) (B:=9) (by rw [h];decide) (by rw [h];kernel_rfl) (by rw [h];kernel_rfl) (by rw [h];decide) (by rw [h];kernel_rfl) (by rw [h];kernel_rfl) (by rw [h];kernel_rfl) (by rw [h];kernel_rfl) (by omega) (by kernel_rfl)
theorem ex_none {t:ByteArray} (h:t.data.toList=[]):Det t false ⟨#[]⟩ 0 0 2:=det_head (k0:=0) (by rw [h];decide) (by rw [h];kernel_rfl) (by rw [h];kernel_rfl) (by rw [h];kernel_rfl)
theorem ex_1p {t:ByteArray} (h:t.data.toList=[49,112]):Det t false ⟨#[]⟩ 0 2 2:=det_tail (k0:=1) (by rw [h];decide) (by rw [h];kernel_rfl) (by rw [h];decide) (by rw [h];kernel_rfl) (by rw [h];kernel_rfl) (by rw [h];kernel_rfl)
theorem ex_1s {t:ByteArray} (h:t.data.toList=[49,47]):Det t false ⟨#[]⟩ 0 2 2:=det_tail (k0:=1) (by rw [h];decide) (by rw [h];kernel_rfl) (by rw [h];decide) (by rw [h];kernel_rfl) (by rw [h];kernel_rfl) (by rw [h];kernel_rfl)
theorem ex_pp {t:ByteArray} (h:t.data.toList=[49,112,50,112,51]):Det t false ⟨#[]⟩ 0 3 2:=det_tail (k0:=1) (by rw [h];decide) (by rw [h];kernel_rfl) (by rw [h];decide) (by rw [h];kernel_rfl) (by rw [h];kernel_rfl) (by rw [h];kernel_rfl)
theorem ex_x {t:ByteArray} (h:t.data.toList=[120]):Det t false ⟨#[]⟩ 0 0 2:=det_head (k0:=1) (by rw [h];decide) (by rw [h];kernel_rfl) (by rw [h];kernel_rfl) (by rw [h];kernel_rfl)
theorem ex_m0 {t:ByteArray} (h:t.data.toList=[45,48]):Det t false ⟨#[]⟩ 0 1 2:=det_head (k0:=2) (by rw [h];decide) (by rw [h];kernel_rfl) (by rw [h];kernel_rfl) (by rw [h];kernel_rfl)
theorem ex_13 {t:ByteArray} (h:t.data.toList=[49,47,51]):Det t false ⟨#[]⟩ 0 0 1:=det_arg (k0:=1) (B:=3) (m:=false) (t:=⟨#[3]⟩) (e:=0) (by rw [h];decide) (by rw [h];kernel_rfl) (by rw [h];kernel_rfl) (by rw [h];decide) (by rw [h];kernel_rfl) (by rw [h];kernel_rfl) (by rw [h];kernel_rfl) (by kernel_rfl) (.inr (by decide))
theorem ex_m2 {t:ByteArray} (h:t.data.toList=[49,47,45,50]):Det t false ⟨#[]⟩ 0 0 1:=det_arg (k0:=1) (B:=-2) (m:=true) (t:=⟨#[1]⟩) (e:=1) (by rw [h];decide) (by rw [h];kernel_rfl) (by rw [h];kernel_rfl) (by rw [h];decide) (by rw [h];kernel_rfl) (by rw [h];kernel_rfl) (by rw [h];kernel_rfl) (by kernel_rfl) (.inl rfl)
theorem ex_big {t:ByteArray} (h:t.data.toList=[49,112,51,50,55,54,57]):Det t false ⟨#[]⟩ 0 0 3:=det_limit (k0:=1) (B:=32769) (by rw [h];decide) (by rw [h];kernel_rfl) (by rw [h];kernel_rfl) (by rw [h];decide) (by rw [h];kernel_rfl) (by rw [h];kernel_rfl) (by rw [h];kernel_rfl) (by omega)
theorem ex_1 {t:ByteArray} (h:t.data.toList=[49]):Det t false ⟨#[1]⟩ 0 0 0:=det_whole (A:=1) (by rw [h];decide) (by rw [h];kernel_rfl) (by rw [h];kernel_rfl) (by rw [h];kernel_rfl) (by kernel_rfl)
theorem ex_1m {t:ByteArray} (h:t.data.toList=[49,112,45,49]):Det t false ⟨#[1]⟩ (-1) 0 0:=det_power (k0:=1) (A:=1) (B:=-1) (by rw [h];decide) (by rw [h];kernel_rfl) (by rw [h];kernel_rfl) (by rw [h];decide) (by rw [h];kernel_rfl) (by rw [h];kernel_rfl) (by rw [h];kernel_rfl) (by rw [h];kernel_rfl) (by omega) (by kernel_rfl)
theorem fate_two:Fate ⟨#[49,32,49,112,45,49]⟩ [(false,⟨#[1]⟩,0),(false,⟨#[1]⟩,-1)] 0 0:=by
 have hc:cutP [49,32,49,112,45,49]=[[49],[49,112,45,49]]:=by kernel_rfl
 refine ⟨fun t ht=>?_,fun i hi t ht=>?_,.inl ⟨by show _=(cutP [49,32,49,112,45,49]).length;rw [hc];rfl,rfl⟩⟩
 ·have ht2:t∈cutP [49,32,49,112,45,49]:=ht;rw [hc] at ht2;simp at ht2
  rcases ht2 with rfl|rfl <;> decide
 ·have ht2:(cutP [49,32,49,112,45,49])[i]?=some t.data.toList:=ht;rw [hc] at ht2
  match i,hi with
  | 0,_=>exact ex_1 (Option.some.inj ht2).symm
  | 1,_=>exact ex_1m (Option.some.inj ht2).symm
  | i+2,hi=>exact absurd (show i+2<2 from hi) (by omega)
theorem fate_gap:Fate ⟨#[49,32,32,50]⟩ [(false,⟨#[1]⟩,0)] 2 2:=by
 have hc:cutP [49,32,32,50]=[[49],[],[50]]:=by kernel_rfl
 refine ⟨fun t ht=>?_,fun i hi t ht=>?_,.inr ⟨by decide,0,fun t ht=>?_,by decide,?_,?_⟩⟩
 ·have ht2:t∈cutP [49,32,32,50]:=ht;rw [hc] at ht2;simp at ht2
  rcases ht2 with rfl|rfl|rfl <;> decide
 ·have ht2:(cutP [49,32,32,50])[i]?=some t.data.toList:=ht;rw [hc] at ht2
  match i,hi with
  | 0,_=>exact ex_1 (Option.some.inj ht2).symm
  | i+1,hi=>exact absurd (show i+1<1 from hi) (by omega)
 ·have ht2:(cutP [49,32,32,50])[1]?=some t.data.toList:=ht;rw [hc] at ht2;exact ex_none (Option.some.inj ht2).symm
 ·show _<(cutP [49,32,32,50]).length;rw [hc]
  decide
 ·show _=((behind ((cutP [49,32,32,50]).take 1):Nat):Int)+0;rw [hc];rfl
end Go.Proofs.YtiddgplapodleaaGreatDoor
namespace Go.Proofs.YtiddgplapodleaaGreatDoor
set_option maxRecDepth 100000
set_option maxHeartbeats 8000000
open Go.RowKit Go.Shelf Go.Lib
theorem lawake_any (w:World) (htab:Lib.TabIs Tryz.prog w "internal/strconv.uint64pow10" .u64 Lib.pow10Tab) :
  Calls Tryz.prog 6 #[] w (Ret (.bool true) w):=by
 have hb:=Below.refl w.heap.size w;go_enter Tryz.func6,Tryz.ntmps6;go_wp2_with fail;refine (lsplit_any _ ⟨#[49,32,49,112,45,49]⟩ (by kernel_rfl) (by decide) [(false,⟨#[1]⟩,0),(false,⟨#[1]⟩,-1)] (by decide) 0 0 fate_two).mono ?_;rintro e' W1 ⟨hq,h0,-⟩;obtain ⟨ad,cap,rfl,hN⟩:=h0 rfl;replace hb:=below_next hb hq;clear hq h0;go_wp2_with fail;refine (lsplit_any _ ⟨#[49,32,32,50]⟩ (by kernel_rfl) (by decide) [(false,⟨#[1]⟩,0)] (by decide) 2 2 fate_gap).mono ?_;rintro e' W2 ⟨hq,-,h1⟩;obtain rfl:=h1 (by decide);replace hb:=below_next hb hq;replace hN:=hN.below hq;clear hq h1;go_wp2_with fail;refine (lnum_any _ 3 (-2) (by omega) (by omega) false ⟨#[3]⟩ 0 (by kernel_rfl) (by decide) false ⟨#[3]⟩ (-2) (by kernel_rfl)).mono ?_;rintro e' W3 ⟨rfl,hq⟩;replace hb:=below_next hb hq;replace hN:=hN.below hq;clear hq;go_wp2_with fail;refine (lprint_any _ (tab_below htab hb) false ⟨#[3]⟩ (-2) (by decide) (by decide) false ⟨#[3]⟩ (-2) (by kernel_rfl) ⟨#[51,112,45,50]⟩ (by kernel_rfl)).mono ?_;rintro e' W4 ⟨rfl,hq⟩;replace hb:=below_next hb hq;replace hN:=hN.below hq;clear hq;go_wp2_with fail;refine (lnum_any _ (-5) 0 (by omega) (by omega) true ⟨#[5]⟩ 0 (by kernel_rfl) (by decide) true ⟨#[5]⟩ 0 (by kernel_rfl)).mono ?_;rintro e' W5 ⟨rfl,hq⟩;replace hb:=below_next hb hq;replace hN:=hN.below hq;clear hq;go_wp2_with fail;refine (lprint_any _ (tab_below htab hb) true ⟨#[5]⟩ 0 (by decide) (by decide) true ⟨#[5]⟩ 0 (by kernel_rfl) ⟨#[45,53]⟩ (by kernel_rfl)).mono ?_;rintro e' W6 ⟨rfl,hq⟩
 replace hb:=below_next hb hq;replace hN:=hN.below hq;clear hq;go_wp2_with fail;refine (lnum_any _ 12 0 (by omega) (by omega) false ⟨#[3]⟩ 2 (by kernel_rfl) (by decide) false ⟨#[3]⟩ 2 (by kernel_rfl)).mono ?_;rintro e' W7 ⟨rfl,hq⟩;replace hb:=below_next hb hq;replace hN:=hN.below hq;clear hq;go_wp2_with fail;refine (lprint_any _ (tab_below htab hb) false ⟨#[3]⟩ 2 (by decide) (by decide) false ⟨#[3]⟩ 2 (by kernel_rfl) ⟨#[51,112,50]⟩ (by kernel_rfl)).mono ?_;rintro e' W8 ⟨rfl,hq⟩;replace hb:=below_next hb hq;replace hN:=hN.below hq;clear hq;go_wp2_with fail;refine (lnum_any _ 0 0 (by omega) (by omega) false ⟨#[]⟩ 0 (by kernel_rfl) (by decide) false ⟨#[]⟩ 0 (by kernel_rfl)).mono ?_;rintro e' W9 ⟨rfl,hq⟩;replace hb:=below_next hb hq;replace hN:=hN.below hq;clear hq;go_wp2_with fail;refine (lprint_any _ (tab_below htab hb) false ⟨#[]⟩ 0 (by decide) (by decide) false ⟨#[]⟩ 0 (by kernel_rfl) ⟨#[48]⟩ (by kernel_rfl)).mono ?_;rintro e' W10 ⟨rfl,hq⟩;replace hb:=below_next hb hq;replace hN:=hN.below hq;clear hq;go_wp2_with fail;refine (lnum_any _ 3 (-2) (by omega) (by omega) false ⟨#[3]⟩ 0 (by kernel_rfl) (by decide) false ⟨#[3]⟩ (-2) (by kernel_rfl)).mono ?_;rintro e' W11 ⟨rfl,hq⟩;replace hb:=below_next hb hq;replace hN:=hN.below hq;clear hq;go_wp2_with fail;refine (lis_det _ ⟨#[51,47,52]⟩ (by decide) false ⟨#[3]⟩ (-2) (ex_34 rfl)).mono ?_;rintro e' W12 ⟨rfl,hq⟩;replace hb:=below_next hb hq;replace hN:=hN.below hq;clear hq;go_wp2_with fail
 refine (lnum_any _ (-3) (-2) (by omega) (by omega) true ⟨#[3]⟩ 0 (by kernel_rfl) (by decide) true ⟨#[3]⟩ (-2) (by kernel_rfl)).mono ?_;rintro e' W13 ⟨rfl,hq⟩;replace hb:=below_next hb hq;replace hN:=hN.below hq;clear hq;go_wp2_with fail;refine (lis_det _ ⟨#[45,54,112,45,51]⟩ (by decide) true ⟨#[3]⟩ (-2) (ex_63 rfl)).mono ?_;rintro e' W14 ⟨rfl,hq⟩;replace hb:=below_next hb hq;replace hN:=hN.below hq;clear hq;go_wp2_with fail;refine (lnum_any _ 0 0 (by omega) (by omega) false ⟨#[]⟩ 0 (by kernel_rfl) (by decide) false ⟨#[]⟩ 0 (by kernel_rfl)).mono ?_;rintro e' W15 ⟨rfl,hq⟩;replace hb:=below_next hb hq;replace hN:=hN.below hq;clear hq;go_wp2_with fail;refine (lis_det _ ⟨#[48,112,57]⟩ (by decide) false ⟨#[]⟩ 0 (ex_09 rfl)).mono ?_;rintro e' W16 ⟨rfl,hq⟩;replace hb:=below_next hb hq;replace hN:=hN.below hq;clear hq;go_wp2_with fail;refine (lwrong_any _ ⟨#[]⟩ (by decide) 0 2 (by decide) (fun _ _ _ _ _ _ _ h1 h2=>(ex_none rfl _ _ _ _ _ _ _ h1 h2).2.2.2)).mono ?_;rintro e' W17 ⟨rfl,hq⟩;replace hb:=below_next hb hq;replace hN:=hN.below hq;clear hq;go_wp2_with fail;refine (lwrong_any _ ⟨#[49,112]⟩ (by decide) 2 2 (by decide) (fun _ _ _ _ _ _ _ h1 h2=>(ex_1p rfl _ _ _ _ _ _ _ h1 h2).2.2.2)).mono ?_;rintro e' W18 ⟨rfl,hq⟩;replace hb:=below_next hb hq;replace hN:=hN.below hq;clear hq;go_wp2_with fail;refine (lwrong_any _ ⟨#[49,47]⟩ (by decide) 2 2 (by decide) (fun _ _ _ _ _ _ _ h1 h2=>(ex_1s rfl _ _ _ _ _ _ _ h1 h2).2.2.2)).mono ?_;rintro e' W19 ⟨rfl,hq⟩;replace hb:=below_next hb hq
 replace hN:=hN.below hq;clear hq;go_wp2_with fail;refine (lwrong_any _ ⟨#[49,112,50,112,51]⟩ (by decide) 3 2 (by decide) (fun _ _ _ _ _ _ _ h1 h2=>(ex_pp rfl _ _ _ _ _ _ _ h1 h2).2.2.2)).mono ?_;rintro e' W20 ⟨rfl,hq⟩;replace hb:=below_next hb hq;replace hN:=hN.below hq;clear hq;go_wp2_with fail;refine (lwrong_any _ ⟨#[120]⟩ (by decide) 0 2 (by decide) (fun _ _ _ _ _ _ _ h1 h2=>(ex_x rfl _ _ _ _ _ _ _ h1 h2).2.2.2)).mono ?_;rintro e' W21 ⟨rfl,hq⟩;replace hb:=below_next hb hq;replace hN:=hN.below hq;clear hq;go_wp2_with fail;refine (lwrong_any _ ⟨#[45,48]⟩ (by decide) 1 2 (by decide) (fun _ _ _ _ _ _ _ h1 h2=>(ex_m0 rfl _ _ _ _ _ _ _ h1 h2).2.2.2)).mono ?_;rintro e' W22 ⟨rfl,hq⟩;replace hb:=below_next hb hq;replace hN:=hN.below hq;clear hq;go_wp2_with fail;refine (lwrong_any _ ⟨#[49,47,51]⟩ (by decide) 0 1 (by decide) (fun _ _ _ _ _ _ _ h1 h2=>(ex_13 rfl _ _ _ _ _ _ _ h1 h2).2.2.2)).mono ?_;rintro e' W23 ⟨rfl,hq⟩;replace hb:=below_next hb hq;replace hN:=hN.below hq;clear hq;go_wp2_with fail;refine (lwrong_any _ ⟨#[49,47,45,50]⟩ (by decide) 0 1 (by decide) (fun _ _ _ _ _ _ _ h1 h2=>(ex_m2 rfl _ _ _ _ _ _ _ h1 h2).2.2.2)).mono ?_;rintro e' W24 ⟨rfl,hq⟩;replace hb:=below_next hb hq;replace hN:=hN.below hq;clear hq;go_wp2_with fail;refine (lwrong_any _ ⟨#[49,112,51,50,55,54,57]⟩ (by decide) 0 3 (by decide) (fun _ _ _ _ _ _ _ h1 h2=>(ex_big rfl _ _ _ _ _ _ _ h1 h2).2.2.2)).mono ?_;rintro e' W25 ⟨rfl,hq⟩;replace hb:=below_next hb hq;replace hN:=hN.below hq;clear hq;go_wp2_with fail
 refine (lnum_any _ 1 0 (by omega) (by omega) false ⟨#[1]⟩ 0 (by kernel_rfl) (by decide) false ⟨#[1]⟩ 0 (by kernel_rfl)).mono ?_;rintro e' W26 ⟨rfl,hq⟩;replace hb:=below_next hb hq;replace hN:=hN.below hq;clear hq;go_wp2_with fail;refine (lnum_any _ 1 (-1) (by omega) (by omega) false ⟨#[1]⟩ 0 (by kernel_rfl) (by decide) false ⟨#[1]⟩ (-1) (by kernel_rfl)).mono ?_;rintro e' W27 ⟨rfl,hq⟩;replace hb:=below_next hb hq;replace hN:=hN.below hq;clear hq;go_wp2_with fail;refine (lrow_any _ (tab_below htab (hb.alloc hb.size _)) _ 2 2 [(false,⟨#[1]⟩,0),(false,⟨#[1]⟩,-1)] (NAt.new _ _ _ _ rfl) rfl (by omega) (by decide) ⟨#[49,32,49,112,45,49]⟩ (by kernel_rfl)).mono ?_;rintro e' W28 ⟨rfl,hq⟩;replace hb:=below_next (hb.alloc hb.size _) hq;replace hN:=(hN.alloc _).below hq;clear hq;go_wp2_with fail;refine (lnum_any _ 1 0 (by omega) (by omega) false ⟨#[1]⟩ 0 (by kernel_rfl) (by decide) false ⟨#[1]⟩ 0 (by kernel_rfl)).mono ?_;rintro e' W29 ⟨rfl,hq⟩;replace hb:=below_next hb hq;replace hN:=hN.below hq;clear hq;go_wp2_with fail;refine (lnum_any _ 1 (-1) (by omega) (by omega) false ⟨#[1]⟩ 0 (by kernel_rfl) (by decide) false ⟨#[1]⟩ (-1) (by kernel_rfl)).mono ?_;rintro e' W30 ⟨rfl,hq⟩;replace hb:=below_next hb hq;replace hN:=hN.below hq;clear hq;go_wp2_with fail;refine (lsame_any _ _ _ 2 _ _ [(false,⟨#[1]⟩,0),(false,⟨#[1]⟩,-1)] (hN.alloc _) (NAt.new _ _ _ _ rfl) rfl (by omega)).mono ?_;rintro e' W31 ⟨rfl,hq⟩;replace hb:=below_next (hb.alloc hb.size _) hq;replace hN:=(hN.alloc _).below hq;clear hq
 go_wp2;go_ret;exact ⟨rfl,hb⟩
end Go.Proofs.YtiddgplapodleaaGreatDoor
namespace Go.Proofs.YtiddgplapodleaaGreatDoor
open Go.RowKit Go.Shelf Go.Lib
theorem nv_moved {m z:Bool} {s o:ByteArray} {e x:Int} (k:Int) (h:df (nv m s e)=nu z o x):nv z o (x+k)=nv m s (e+k):=by
 obtain ⟨-,-,h3,-⟩:=df_parts h;have h4:=congrArg Dyadic.toRat h3;rw [nv_toRat,nv_toRat] at h4;rw [← Dyadic.toRat_inj,nv_toRat,nv_toRat,Rat.zpow_add (by decide),Rat.zpow_add (by decide)]
 grind
theorem two_form (j:Nat):df (dI ((2 ^ j:Nat):Int) 0)=nu false ⟨#[1]⟩ (j:Int):=by
 have h:dI ((2 ^ j:Nat):Int) 0=nv false ⟨#[1]⟩ (j:Int):=by
  have h1:=odd_of (o:=1) (e:=0) (k:=j) (by decide);have h2:=odd_of (o:=1) (e:=(j:Int)) (k:=0) (by decide);rw [Int.one_mul] at h1;have e1:(1:Int)*((2 ^ 0:Nat):Int)=1:=by decide
  rw [e1] at h2;show Dyadic.ofIntWithPrec _ (-0)=Dyadic.ofIntWithPrec 1 (-(j:Int));rw [h1,h2]
  congr 1
  omega
 rw [h];exact df_odd (by kernel_rfl) (by kernel_rfl)
theorem byte_low {z:Int} {b:UInt8} (h:b∈itoa z):b.toNat<128:=by
 rcases itoa_byte h with h|h <;> omega
theorem det_int {s:ByteArray} {A:Int} (hs:s.data.toList=itoa A) {z:Bool} {o:ByteArray} {x:Int} (hd:df (dI A 0)=nu z o x):Det s z o x 0 0:=by
 obtain ⟨g1,g2⟩:=itoa_good A;exact det_whole (A:=A) (fun b hb=>byte_low (by rw [hs] at hb;exact hb)) (by rw [hs];exact (partAt_whole A).1) (by rw [hs];exact g1) (by rw [hs];exact g2) hd
theorem det_up {s:ByteArray} {A k:Int} (hs:s.data.toList=itoa A++112::itoa k) (hk:-32768≤k∧k≤32768) {z:Bool} {o:ByteArray} {x:Int} (hd:df (dI A k)=nu z o x):Det s z o x 0 0:=by
 obtain ⟨g1,g2⟩:=itoa_good A;obtain ⟨g3,g4⟩:=itoa_good k;have et:(itoa A++112::itoa k).take (itoa A).length=itoa A:=List.take_left;have ed:(itoa A++112::itoa k).drop ((itoa A).length+1)=itoa k:=by
  rw [List.drop_append,List.drop_eq_nil_of_le (by omega),show (itoa A).length+1-(itoa A).length=1 by omega];rfl
 refine det_power (k0:=(itoa A).length) (A:=A) (B:=k) (fun b hb=>?_) (by rw [hs];exact (partAt_itoa A _).1) (by rw [hs];exact (partAt_itoa A _).2) (by rw [hs];simp) (by rw [hs,et];exact g1) (by rw [hs,ed];exact g3) (by rw [hs,et];exact g2) (by rw [hs,ed];exact g4) hk hd;rw [hs] at hb
 rcases List.mem_append.1 hb with hb|hb
 ·exact byte_low hb
 rcases List.mem_cons.1 hb with rfl|hb
 ·decide
 ·exact byte_low hb
theorem det_down {s:ByteArray} {A:Int} {j:Nat} (hs:s.data.toList=itoa A++47::itoa ((2 ^ j:Nat):Int)) {z:Bool} {o:ByteArray} {x:Int} (hd:df (dI A (-(j:Int)))=nu z o x):Det s z o x 0 0:=by
 obtain ⟨g1,g2⟩:=itoa_good A;obtain ⟨g3,g4⟩:=itoa_good ((2 ^ j:Nat):Int);generalize hB:((2 ^ j:Nat):Int)=B at *;have et:(itoa A++47::itoa B).take (itoa A).length=itoa A:=List.take_left;have ed:(itoa A++47::itoa B).drop ((itoa A).length+1)=itoa B:=by
  rw [List.drop_append,List.drop_eq_nil_of_le (by omega),show (itoa A).length+1-(itoa A).length=1 by omega];rfl
 refine det_slash (k0:=(itoa A).length) (A:=A) (B:=B) (e0:=(j:Int)) (fun b hb=>?_) (by rw [hs];exact (partAt_slash A _).1) (by rw [hs];exact (partAt_slash A _).2) (by rw [hs];simp) (by rw [hs,et];exact g1) (by rw [hs,ed];exact g3) (by rw [hs,et];exact g2) (by rw [hs,ed];exact g4) (by rw [← hB];exact two_form j) hd;rw [hs] at hb
 rcases List.mem_append.1 hb with hb|hb
 ·exact byte_low hb
 rcases List.mem_cons.1 hb with rfl|hb
 ·decide
 ·exact byte_low hb
theorem join_up {a b t:ByteArray} {A k:Int} (ha:(⟨(itoa A).toArray⟩:ByteArray)=a) (hb:(⟨(itoa k).toArray⟩:ByteArray)=b) (c:UInt8) (ht:a++(⟨#[c]⟩:ByteArray)++b=t):t.data.toList=itoa A++c::itoa k:=by
 rw [← ht,← ha,← hb];simp
theorem zero_text {m1:Bool} {s1:ByteArray} {e1:Int} (h:df (.ofIntWithPrec 0 0)=nu m1 s1 e1):itoa (wv m1 s1)=itoa 0:=by
 obtain ⟨h1,h2,-⟩:=nu_inj (show nu false ⟨#[]⟩ 0=nu m1 s1 e1 from h);rw [← h1,← h2];rfl
theorem two_pow_size {j:Nat} (hj:j<300):(fb (2 ^ j)).size≤38:=by
 obtain ⟨q,hq⟩:∃ q:Nat,q=38:=⟨_,rfl⟩;rw [← hq];refine fb_size_le (k:=q) ?_;have h:(256:Nat)=2 ^ 8:=rfl;rw [h,← Nat.pow_mul];exact Nat.pow_lt_pow_right (by decide) (by omega)
theorem small_size {j:Nat} (hj:j<300):(fb j).size≤2:=fb_size_le (k:=2) (by have:(256:Nat) ^ 2=65536:=rfl;omega)
theorem neg_text {k:Int} {j:Nat} (h:max k (-k)=(j:Int)):wv (decide (k<0)) (fb j)=k:=by
 rw [sI_fb];unfold sI
 by_cases hk:k<0
 ·rw [if_pos (decide_eq_true hk)];omega
 ·rw [if_neg (by rw [decide_eq_false hk];decide)];omega
theorem pow_text (j:Nat):wv false (fb (2 ^ j))=((2 ^ j:Nat):Int):=by rw [wv_false,num_fb]
theorem three_size {k:Int} {j:Nat} {t:ByteArray} (h:max k (-k)=(j:Int)) (hj:j<300) (ht:(⟨(itoa k).toArray⟩:ByteArray)=t):t.size≤8:=by
 have h1:t.size≤3*(fb j).size+2:=itoa_size (decide (k<0)) (fb j) (by rw [neg_text h];exact ht);have h2:=small_size hj;omega
theorem moved_dI {m z z2:Bool} {s o o2:ByteArray} {e x2:Int} (k:Int) (h:df (nv m s 0)=nu z o e) (h2:df (nv z o (e+k))=nu z2 o2 x2):df (dI (wv m s) k)=nu z2 o2 x2:=by
 rw [nv_moved k h,Int.zero_add] at h2;exact h2
end Go.Proofs.YtiddgplapodleaaGreatDoor
