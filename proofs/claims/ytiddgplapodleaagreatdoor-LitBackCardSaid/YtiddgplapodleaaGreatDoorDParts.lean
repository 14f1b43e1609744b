/- Package digits: parts, walked. -/
import Derived.Test.YtiddgplapodleaaGreatDoorHU
import Derived.Test.YtiddgplapodleaaGreatDoorDRef1
import Derived.WalkMore
namespace Go.Proofs.YtiddgplapodleaaGreatDoor
set_option maxRecDepth 100000
set_option maxHeartbeats 3200000
open Go.RowKit Go.Shelf Go.Lib
def rowV (l:List IV):Nat:=l.foldl (fun v x=>v*10 ^ 18+num x.2) 0
theorem rowV_snoc (l:List IV) (x:IV):rowV (l++[x])=rowV l*10 ^ 18+num x.2:=by
 unfold rowV;rw [List.foldl_append];rfl
def strP:Value→ByteArray | .string s=>s|_=>⟨#[]⟩
def partsOk (l:List IV):Prop:=∀ x∈l,x.1=false∧num x.2<10 ^ 18∧∃ m,fb m=x.2
theorem row_step {pre c:List UInt8} {row:List IV} {q:Nat} (hrv:rowV row=dV pre) (hq:q=dV c) (h:pre=[]∨c.length=18):rowV (row++[(false,fb q)])=dV (pre++c):=by
 rw [rowV_snoc,dV_append,hrv,num_fb,← hq]
 rcases h with rfl|h
 ·rw [dV_nil,Nat.zero_mul,Nat.zero_mul]
 ·rw [h]
theorem ok_step {row:List IV} {q:Nat} (h:partsOk row) (hq:q<10 ^ 18):partsOk (row++[(false,fb q)]):=by
 intro x hx;rw [List.mem_append,List.mem_singleton] at hx
 rcases hx with hx|rfl
 ·exact h x hx
 ·exact ⟨rfl,by rw [num_fb];exact hq,q,rfl⟩
theorem drop_text (t:ByteArray) (k:Nat):(t.extract k t.size).data.toList=t.data.toList.drop k:=by
 rw [ByteArray.data_extract];simp;exact List.take_of_length_le (by rw [List.length_drop];exact Nat.le_refl _)
theorem ownsRow_iter {w:World} {B:Nat} {e:TypeId} {size:Nat} {v:Value} {n:Nat} {xs:List Value} (h:w.ownsRow B e size v n xs) {k p:Nat} {s:ByteArray} (hk:w.heap[k]?=some (.stringIter s p)) (p' : Nat):(w.iterAt k s p').ownsRow B e size v n xs:=by
 refine ⟨h.1,?_⟩
 rcases h.2 with h2|⟨g,cap,cur,a,b,c,d⟩
 ·exact .inl h2
 ·refine .inr ⟨g,cap,cur,a,b,?_,d⟩;rw [Lib.iterAt_other _ _ _ _ _ (fun e=>by rw [e,hk] at c;cases c)];exact c
def PO (w wr:World) (s t:ByteArray) (lv:Value) (z:Nat) (pre:List UInt8) (row:List IV):Prop:=
 s.data.toList=pre++t.data.toList∧wr.ownsRow w.heap.size 26 2 lv row.length (icells row)∧Below w.heap.size w wr∧rowV row=dV pre∧partsOk row∧1≤z∧z≤18∧z≤t.size∧(t.size-z) % 18=0∧(pre=[]∨z=18)∧row.length≤pre.length
theorem parts_any (w:World) (s:ByteArray) (hs:s.size≤1000) (hpos:0<s.size) (hd:s.data.toList.all isDig=true) :
  Calls Tryz.prog 57 #[.string s] w fun e w'=>∃ (row:List IV) (g cap:Nat),e=.returned (.slice (some ⟨g,0,none⟩) row.length cap)∧row.length≤cap∧0<row.length∧row.length≤1000∧rowV row=dV s.data.toList∧partsOk row∧IAt w' (some ⟨g,0,none⟩) row.reverse∧Below w.heap.size w w':=by
 obtain ⟨i0,hi0,hz0,hz1,hz2⟩:=info_parts infoI4;obtain ⟨z0,hz0e⟩:∃ z0:Nat,(s.size-1) % 18+1=z0:=⟨_,rfl⟩;have hzz:((s.size:Int)-1) % 18+1=(z0:Int):=by omega
 have hP0:PO w w s s (.slice none 0 0) z0 [] []:=⟨rfl,World.ownsRow_nil w _ _ _,Below.refl _ _,rfl,(fun x h=>absurd h (List.not_mem_nil)),by omega,by omega,by omega,by omega,Or.inl rfl,Nat.le_refl _⟩;go_enter Tryz.func57,Tryz.ntmps57;have hd2:=List.all_eq_true.1 hd;have HD:=Lib.hid hd2;clear hd hd2 hz0e;go_wp2
 go_step3
 go_wp2
 go_step3
 go_wp2
 go_loopw [0,3,4] (fun tv lv zv wr=>∃ (t:ByteArray) (z:Nat) (pre:List UInt8) (row:List IV) (lo:Option Addr) (lc:Nat),tv=.string t∧lv=.slice lo row.length lc∧zv=.int .i64 z∧PO w wr s t (.slice lo row.length lc) z pre row) (fun tv _ _ _=>(strP tv).size)
 case atStart=>exact ⟨s,z0,[],[],none,0,rfl,rfl,rfl,hP0⟩
 case round =>
  clear hP0 hzz;obtain ⟨t,z,pre,row,lo,lc,rfl,rfl,rfl,hsp,hrow,hb,hrv,hok,hz1',hz18,hzt,hmod,hpz,hlen⟩:=hrel;have hts:t.size≤1000:=by
   have:=congrArg List.length hsp
   rw [List.length_append] at this;have e1:s.data.toList.length=s.size:=rfl;have e2:t.data.toList.length=t.size:=rfl;omega
  have hrl:row.length+t.size≤1000:=by
   have:=congrArg List.length hsp
   rw [List.length_append] at this;have e1:s.data.toList.length=s.size:=rfl;have e2:t.data.toList.length=t.size:=rfl;omega
  have htd:∀ b∈t.data.toList,isDig b=true:=fun b hb=>HD.out b (by rw [hsp];exact List.mem_append_right _ hb);have HS:=Lib.hid (And.intro hsp (And.intro hrv (And.intro hok (And.intro hmod (And.intro hpz (And.intro htd hlen))))));clear hsp hrv hok hpz htd hlen;go_wp2;have hI0:(wr.iter t 0).heap[wr.heap.size]?=some (.stringIter t 0):=World.iter_heap wr t 0;have hbi:Below w.heap.size w (wr.iter t 0):=hb.alloc hb.size _;have hri:(wr.iter t 0).ownsRow w.heap.size 26 2 (.slice lo row.length lc) row.length (icells row):=hrow.alloc _;have hwI:w.heap.size≤wr.heap.size:=hb.size;generalize wr.iter t 0=wi0 at *;generalize wr.heap.size=I at *;clear hb hrow
  go_loopw [0,3,4,5] (fun tv lv zv pv wq=>∃ k q:Nat,tv=.string t∧lv=.slice lo row.length lc∧zv=.int .i64 z∧pv=.int .i64 q∧q=dV (t.data.toList.take k)∧k≤z∧wq.heap[I]?=some (.stringIter t k)∧Below w.heap.size w wq∧wq.ownsRow w.heap.size 26 2 (.slice lo row.length lc) row.length (icells row)) (fun _ _ _ _ wq=>t.size-wq.iterPos I)
  case atStart=>exact ⟨0,0,rfl,rfl,rfl,rfl,rfl,Nat.zero_le _,hI0,hbi,hri⟩
  case round =>
   clear hI0 hbi hri;obtain ⟨k,q,rfl,rfl,rfl,rfl,hq,hkz,hit,hb,hrow⟩:=hrel
   by_cases hkt:k<t.size
   ·have hbd:isDig (t.data.toList[k]'hkt)=true:=HS.out.2.2.2.2.2.1 _ (List.getElem_mem _);obtain ⟨y,hy⟩:∃ y:Nat,(t[k]'hkt).toNat=y:=⟨_,rfl⟩;have hy2:48≤y∧y≤57:=by
     unfold isDig at hbd;have h2:=of_decide_eq_true hbd;have e:(t.data.toList[k]).toNat=y:=hy;omega
    have hnx:∀ ty,(Instr.next (.pointer (some ⟨I,0,none⟩)) true ty).run Tryz.prog wr=_:=fun ty=>Lib.run_next_ascii_at wr I t k ty hit hkt (by omega);rw [hy] at hnx
    by_cases hkz2:k=z
    ·subst hkz2;have hlt:=hkt;have hit2:=Lib.iterAt_heap wr I t k (k+1) hit;have hb2:=below_iterAt hb hwI t (k+1);have hr2:=ownsRow_iter hrow hit (k+1);have hq18:q<10 ^ 18:=by
      have h1:=dV_lt (t.data.toList.take k) (by rw [List.all_eq_true];exact fun b hb=>HS.out.2.2.2.2.2.1 b (List.mem_of_mem_take hb));rw [← hq,List.length_take] at h1;exact Nat.lt_of_lt_of_le h1 (Nat.pow_le_pow_right (by omega) (Nat.le_trans (Nat.min_le_left _ _) hz18))
     have HK:=Lib.hid (And.intro hq hq18);have hqi:(q:Int)≤9223372036854775807:=by omega
     clear hq hq18 hit2 hrow hb;go_wp2_with fail;refine (wof_any _ (q:Int) (by omega) hqi false (fb q) (wf_nat q)).mono ?_;rintro e Y ⟨rfl,hY⟩;replace hb2:=below_next hb2 hY;replace hr2:=ownsRow_below hr2 hY;have hr3:=hr2.alloc (.cells #[.bool false,.string (fb q)] 26);have hnew:∀ j u,[.bool false,.string (fb q)][j]?=some u→(Y.alloc (.cells #[.bool false,.string (fb q)] 26)).cell? ((⟨Y.heap.size,0,none⟩:Addr).add j)=some u:=cell_two_new Y _ _ _;have HR:=Lib.hid (And.intro hr3 hnew);clear hr2 hr3 hnew hY hnx;go_wp2_with (first|(at_builtin;refine wpList_append_own _ rfl (.tmp 22) (.tmp 25) 67 rfl w.heap.size 26 i0 (.agg #[.bool false,.string ⟨#[]⟩]) 2 24 Tryz.underlying67 hi0 hz0 hz1 hz2 rfl (by decide) _ row.length (icells row) rfl HR.out.1 ⟨Y.heap.size,0,none⟩ 1 1 [.bool false,.string (fb q)] rfl rfl HR.out.2 (by intro u hu;simp at hu;rcases hu with rfl|rfl <;> rfl) (by unfold maxLen;omega) (by omega) (by rw [World.size_alloc];have:=hb2.size;omega) ?_));intro v' w1 hown' hgrow _;have hbn:Below w.heap.size w w1:=(hb2.alloc hb2.size _).grown hgrow (by rw [World.size_alloc];have:=hb2.size;omega) (fun j hj=>(HR.out.1.lt j hj).1);have hic:icells (row++[(false,fb q)])=icells row++[.bool false,.string (fb q)]:=icells_app _ _;rw [← hic] at hown'
     rcases hown'.2 with ⟨_,h0⟩|⟨g',cap',cur',rfl,_⟩
     ·omega
     ·have HO:=Lib.hid (And.intro hown' hbn);clear hown' hgrow hbn hic;have htk:(t.data.toList.take k).length=k:=by rw [List.length_take];exact Nat.min_eq_left (Nat.le_of_lt hlt)
      have hts2:(t.extract k t.size).size=t.size-k:=by
       have:=congrArg List.length (drop_text t k)
       rw [List.length_drop] at this;exact this
      have hP:PO w w1 s (t.extract k t.size) (.slice (some ⟨g',0,none⟩) (row++[(false,fb q)]).length cap') 18 (pre++t.data.toList.take k) (row++[(false,fb q)]):=by
       refine ⟨?_,?_,HO.out.2,row_step HS.out.2.1 HK.out.1 ?_,ok_step HS.out.2.2.1 HK.out.2,by omega,by omega,by omega,by omega,.inr rfl,?_⟩
       ·rw [drop_text,List.append_assoc,List.take_append_drop];exact HS.out.1
       ·rw [List.length_append];exact HO.out.1
       ·rcases HS.out.2.2.2.2.1 with h|h
        ·exact .inl h
        ·exact .inr (by rw [htk,h])
       ·rw [List.length_append,List.length_append,htk]
        have:=HS.out.2.2.2.2.2.2
        simp;omega
      rw [List.length_append] at hP;have HP2:=Lib.hid (And.intro hP hts2);clear hP hts2 htk hmod;go_wp2;go_roundw
      case rel=>exact ⟨t.extract k t.size,18,pre++t.data.toList.take k,row++[(false,fb q)],some ⟨g',0,none⟩,cap',rfl,by rw [List.length_append];rfl,rfl,by rw [List.length_append];exact HP2.out.1⟩
      case measure =>
       show (t.extract k t.size).size<t.size;rw [HP2.out.2];omega
    ·have bz:((k:Int) == (z:Int))=false:=by rw [beq_eq_false_iff_ne];omega
     have hstep:dV (t.data.toList.take (k+1))=q*10+(y-48):=by
      rw [List.take_succ_eq_append_getElem hkt,dV_snoc,← hq];have e:(t.data.toList[k]).toNat=y:=hy;rw [e]
     have hq18:q<10 ^ k:=by
      have h1:=dV_lt (t.data.toList.take k) (by rw [List.all_eq_true];exact fun b hb=>HS.out.2.2.2.2.2.1 b (List.mem_of_mem_take hb));rw [← hq,List.length_take] at h1;exact Nat.lt_of_lt_of_le h1 (Nat.pow_le_pow_right (by omega) (Nat.min_le_left _ _))
     have hq17:q<100000000000000000:=Nat.lt_of_lt_of_le hq18 (Nat.le_trans (Nat.pow_le_pow_right (n:=10) (by omega) (show k≤17 by omega)) (by decide));have hpos1:=iterPos_of hit;have hit2:=Lib.iterAt_heap wr I t k (k+1) hit;have hpos2:=iterPos_of hit2;have HQ:=Lib.hid (And.intro hstep.symm (And.intro hit2 (And.intro (below_iterAt hb hwI t (k+1)) (And.intro (ownsRow_iter hrow hit (k+1)) (And.intro hpos1 hpos2)))));have hw1:IntKind.i64.wrap (10*(q:Int))=10*(q:Int):=by rw [IntKind.wrap_i64];omega
     clear hq hq18 hstep hit2 hpos1 hpos2 hrow hb;go_wp2;go_roundw
     case rel=>exact ⟨k+1,q*10+(y-48),rfl,rfl,rfl,by congr 1;omega,HQ.out.1,by omega,HQ.out.2.1,HQ.out.2.2.1,HQ.out.2.2.2.1⟩
     case measure=>rw [HQ.out.2.2.2.2.1,HQ.out.2.2.2.2.2];omega
   ·have hnx:∀ ty,(Instr.next (.pointer (some ⟨I,0,none⟩)) true ty).run Tryz.prog wr=_:=fun ty=>Lib.run_next_end_at wr I t k ty hit hkt;obtain rfl:k=z:=by omega
    have hb2:=hb;have hr2:=hrow;have hq18:q<10 ^ 18:=by
     have h1:=dV_lt (t.data.toList.take k) (by rw [List.all_eq_true];exact fun b hb=>HS.out.2.2.2.2.2.1 b (List.mem_of_mem_take hb));rw [← hq,List.length_take] at h1;exact Nat.lt_of_lt_of_le h1 (Nat.pow_le_pow_right (by omega) (Nat.le_trans (Nat.min_le_left _ _) hz18))
    have HK:=Lib.hid (And.intro hq hq18);have hqi:(q:Int)≤9223372036854775807:=by omega
    clear hq hq18 hrow hb;go_wp2_with fail;refine (wof_any _ (q:Int) (by omega) hqi false (fb q) (wf_nat q)).mono ?_;rintro e Y ⟨rfl,hY⟩;replace hb2:=below_next hb2 hY;replace hr2:=ownsRow_below hr2 hY;have hr3:=hr2.alloc (.cells #[.bool false,.string (fb q)] 26);have hnew:∀ j u,[.bool false,.string (fb q)][j]?=some u→(Y.alloc (.cells #[.bool false,.string (fb q)] 26)).cell? ((⟨Y.heap.size,0,none⟩:Addr).add j)=some u:=cell_two_new Y _ _ _;have HR:=Lib.hid (And.intro hr3 hnew);clear hr2 hr3 hnew hY hnx;go_wp2_with (first|(at_builtin;refine wpList_append_own _ rfl (.tmp 36) (.tmp 39) 67 rfl w.heap.size 26 i0 (.agg #[.bool false,.string ⟨#[]⟩]) 2 24 Tryz.underlying67 hi0 hz0 hz1 hz2 rfl (by decide) _ row.length (icells row) rfl HR.out.1 ⟨Y.heap.size,0,none⟩ 1 1 [.bool false,.string (fb q)] rfl rfl HR.out.2 (by intro u hu;simp at hu;rcases hu with rfl|rfl <;> rfl) (by unfold maxLen;omega) (by omega) (by rw [World.size_alloc];have:=hb2.size;omega) ?_));intro v' w1 hown' hgrow _;have hbn:Below w.heap.size w w1:=(hb2.alloc hb2.size _).grown hgrow (by rw [World.size_alloc];have:=hb2.size;omega) (fun j hj=>(HR.out.1.lt j hj).1);have hic:icells (row++[(false,fb q)])=icells row++[.bool false,.string (fb q)]:=icells_app _ _;rw [← hic] at hown'
    rcases hown'.2 with ⟨_,h0⟩|⟨g',cap',cur',rfl,_⟩
    ·omega
    ·have HO:=Lib.hid (And.intro hown' hbn);clear hown' hgrow hbn hic;have htk:t.data.toList.take k=t.data.toList:=List.take_of_length_le (by show t.data.size≤k;exact Nat.le_of_not_lt hkt);have hkl:t.data.toList.length=k:=by show t.size=k;omega
     have hsum:rowV (row++[(false,fb q)])=dV s.data.toList:=by
      rw [HS.out.1];refine row_step HS.out.2.1 (by rw [← htk];exact HK.out.1) ?_
      rcases HS.out.2.2.2.2.1 with h|h
      ·exact .inl h
      ·exact .inr (by rw [hkl,h])
     have HE:=Lib.hid (And.intro hsum (ok_step HS.out.2.2.1 HK.out.2));clear htk hkl hsum;go_wp2_with fail;refine (reverse_any w1 w.heap.size g' (row.length+1) cap' (row++[(false,fb q)]) (by rw [List.length_append];rfl) (by omega) HO.out.1).mono ?_;rintro e w2 ⟨rfl,hr4,hb4⟩;obtain ⟨od,oc,he,hoc,hI⟩:=own_row (by rw [List.length_reverse,List.length_append];rfl) hr4;simp only [Value.slice.injEq] at he;obtain ⟨rfl,_,rfl⟩:=he;have hb5:=HO.out.2.trans hb4;have HF:=Lib.hid (And.intro hoc (And.intro hI hb5));clear hoc hI hb5 hr4 hb4;go_wp2
     try rw [Exit.noGoto_ret]
     go_ret;exact ⟨row++[(false,fb q)],g',cap',by rw [List.length_append];rfl,by rw [List.length_append];exact HF.out.1,by rw [List.length_append];simp,by rw [List.length_append];simp;omega,HE.out.1,HE.out.2,HF.out.2.1,HF.out.2.2⟩
end Go.Proofs.YtiddgplapodleaaGreatDoor
