/- Layer 1, laid together: DRev, DChunk. -/
import Derived.Test.YtiddgplapodleaaGreatDoorDScale
/- slices.Reverse at a row of Ints,walked. -/
namespace Go.Proofs.YtiddgplapodleaaGreatDoor
set_option maxRecDepth 100000
set_option maxHeartbeats 2000000
open Go.RowKit Go.Shelf
theorem icells_set:∀ (l:List IV) (i:Nat) (x:IV),icells (l.set i x)=((icells l).set (i*2) (.bool x.1)).set (i*2+1) (.string x.2)
 | [],i,x=>by simp [icells]
 | y::l,0,x=>rfl
 | y::l,i+1,x=>by
  rw [List.set_cons_succ,icells,icells,icells_set l i x,show (i+1)*2=i*2+1+1 by omega];rfl
theorem ownsRow_seti {W:World} {B g n cap i:Nat} {m:List IV} (h:W.ownsRow B 26 2 (.slice (some ⟨g,0,none⟩) n cap) n (icells m)) (x:IV) :
  ((W.setCell ⟨g,i*2,none⟩ (.bool x.1)).setCell ⟨g,i*2+1,none⟩ (.string x.2)).ownsRow B 26 2 (.slice (some ⟨g,0,none⟩) n cap) n (icells (m.set i x)):=by
 have h1:=h.1;rw [icells_len] at h1;refine ⟨by rw [icells_len,List.length_set];omega,?_⟩
 rcases h.2 with ⟨h0,_⟩|⟨g',cap',cur,e,hB,hg,hc,hm,hs,ht⟩
 ·cases h0
 ·simp only [Value.slice.injEq,Option.some.injEq,Addr.mk.injEq,and_true,true_and] at e;obtain ⟨rfl,rfl⟩:=e;refine .inr ⟨g,cap,(cur.setIfInBounds (i*2) (.bool x.1)).setIfInBounds (i*2+1) (.string x.2),rfl,hB,?_,hc,hm,by simp [hs],?_⟩
  ·simp [World.setCell,Array.getElem?_modify,hg]
  ·rw [icells_set,← ht];simp [List.take_set]
theorem row_cells {W:World} {B g n cap:Nat} {m:List IV} (h:W.ownsRow B 26 2 (.slice (some ⟨g,0,none⟩) n cap) n (icells m)) (i:Nat) (hi:i<m.length) :
  W.cell? ⟨g,i*2,none⟩=some (.bool m[i].1)∧W.cell? ⟨g,i*2+1,none⟩=some (.string m[i].2)∧W.frozen? ⟨g,i*2,none⟩=false∧W.frozen? ⟨g,i*2+1,none⟩=false:=by
 have hcell:=h.cells (g:=g) rfl;have hgt:=icells_get m i hi;have ea:∀ j:Nat,(⟨g,0,none⟩:Addr).add j=⟨g,j,none⟩:=fun j=>by unfold Addr.add;split <;> simp_all
 have h1:=hcell _ _ hgt.1;have h2:=hcell _ _ hgt.2;rw [ea] at h1 h2
 rcases h.2 with ⟨h0,_⟩|⟨g',cap',cur,e,hB,hg,hc,hm,hs,ht⟩
 ·cases h0
 ·simp only [Value.slice.injEq,Option.some.injEq,Addr.mk.injEq,and_true,true_and] at e;obtain ⟨rfl,rfl⟩:=e;refine ⟨h1,h2,?_,?_⟩ <;> simp [World.frozen?,hg]
def intRv:Value→Nat | .int _ n=>n.toNat|_=>0
def RV (w wr:World) (B g cap:Nat) (l:List IV) (k:Nat):Prop:=
 ∃ m:List IV,m.length=l.length∧wr.ownsRow B 26 2 (.slice (some ⟨g,0,none⟩) l.length cap) l.length (icells m)∧Below B w wr ∧
  (∀ i:Nat,i<l.length→m[i]?=if i<k∨l.length≤i+k then l[l.length-1-i]? else l[i]?)
theorem rv_next {l m:List IV} {k j:Nat} (hm:m.length=l.length) (h:∀ i:Nat,i<l.length→m[i]?=if i<k∨l.length≤i+k then l[l.length-1-i]? else l[i]?) (hj:j+k+1=l.length) (hkj:k<j) (x y:IV) (hx:m[k]?=some x) (hy:m[j]?=some y) :
  ∀ i:Nat,i<l.length→((m.set k y).set j x)[i]?=if i<k+1∨l.length≤i+(k+1) then l[l.length-1-i]? else l[i]?:=by
 intro i hi;rw [List.getElem?_set,List.getElem?_set];have hk1:=h k (by omega);have hj1:=h j (by omega);rw [if_neg (by omega)] at hk1 hj1
 by_cases h1:j=i
 ·subst h1;rw [if_pos rfl,if_pos (by rw [List.length_set];omega),if_pos (by omega),show l.length-1-j=k by omega,← hk1,hx]
 ·rw [if_neg h1]
  by_cases h2:k=i
  ·subst h2;rw [if_pos rfl,if_pos (by omega),if_pos (by omega),show l.length-1-k=j by omega,← hj1,hy]
  ·rw [if_neg h2,h i hi]
   by_cases h3:i<k∨l.length≤i+k
   ·rw [if_pos h3,if_pos (by omega)]
   ·rw [if_neg h3,if_neg (by omega)]
theorem rv_end {l m:List IV} {k:Nat} (hm:m.length=l.length) (h:∀ i:Nat,i<l.length→m[i]?=if i<k∨l.length≤i+k then l[l.length-1-i]? else l[i]?) (hk:l.length≤2*k+1):m=l.reverse:=by
 apply List.ext_getElem?
 intro i
 rcases Nat.lt_or_ge i l.length with hi|hi
 ·rw [List.getElem?_reverse hi,h i hi]
  by_cases h3:i<k∨l.length≤i+k
  ·rw [if_pos h3]
  ·rw [if_neg h3,show l.length-1-i=i by omega]
 ·rw [List.getElem?_eq_none (by omega),List.getElem?_eq_none (by rw [List.length_reverse];omega)]
theorem reverse_any (w:World) (B g n cap:Nat) (l:List IV) (hn:l.length=n) (hmax:n≤100000) (hrow:w.ownsRow B 26 2 (.slice (some ⟨g,0,none⟩) n cap) n (icells l)) :
  Calls Tryz.prog 84 #[.slice (some ⟨g,0,none⟩) n cap] w fun e w'=>e=.returned (.tuple #[])∧w'.ownsRow B 26 2 (.slice (some ⟨g,0,none⟩) n cap) n (icells l.reverse)∧Below B w w':=by
 subst hn;go_enter Tryz.func84,Tryz.ntmps84;have hR0:RV w w B g cap l 0:=⟨l,rfl,hrow,Below.refl _ _,fun i hi=>by rw [if_neg (by omega)]⟩;have hgB:B≤g:=(hrow.lt g rfl).1;go_wp2
 go_loopw [2,3] (fun iv jv wr=>∃ (k:Nat) (jz:Int),iv=.int .i64 k∧jv=.int .i64 jz∧jz+k+1=l.length∧k≤l.length∧RV w wr B g cap l k) (fun iv _ _=>l.length-intRv iv)
 case atStart=>exact ⟨0,_,rfl,rfl,by omega,Nat.zero_le _,hR0⟩
 case round =>
  clear hR0 hrow;obtain ⟨k,jz,rfl,rfl,hjz,hkl,m,hm,hrow,hb,hel⟩:=hrel
  by_cases hlt:(k:Int)<jz
  ·obtain ⟨j,rfl⟩:∃ j:Nat,jz=(j:Int):=⟨jz.toNat,by omega⟩;have hj:j+k+1=l.length:=by omega
   have hkj:k<j:=by omega
   obtain ⟨a0,a1,a2,a3⟩:=row_cells hrow k (by omega);obtain ⟨b0,b1,b2,b3⟩:=row_cells hrow j (by omega);obtain ⟨x,hx⟩:∃ x,m[k]=x:=⟨_,rfl⟩;obtain ⟨y,hy⟩:∃ y,m[j]=y:=⟨_,rfl⟩;rw [hx] at a0 a1;rw [hy] at b0 b1;have hx2:m[k]?=some x:=by rw [List.getElem?_eq_getElem (by omega),hx]
   have hy2:m[j]?=some y:=by rw [List.getElem?_eq_getElem (by omega),hy]
   have hnext:=rv_next hm hel hj hkj x y hx2 hy2;have hr1:=ownsRow_seti (i:=k) hrow y;have hr2:=ownsRow_seti (i:=j) hr1 x;obtain ⟨xn,xs⟩:=x;obtain ⟨yn,ys⟩:=y;have HN:=Lib.hid (And.intro hnext hr2);have hjl:(j:Int)<(l.length:Int):=by omega
   have hkl2:(k:Int)<(l.length:Int):=by omega
   clear hnext hr1 hr2 hx hy hx2 hy2 hel hrow hjz;go_wp2_with fail
   go_region
   go_wp2;go_roundw
   case rel=>exact ⟨k+1,(j:Int)-1,by simp,rfl,by omega,by omega,_,by rw [List.length_set,List.length_set];exact hm,HN.out.2,((below_set2 (below_set2 hb hgB _ _ _ _) hgB _ _ _ _)).drew,HN.out.1⟩
   case measure=>simp [intRv];omega
  ·have hend:=rv_end hm hel (by omega);subst hend;clear hel hm;go_wp2;go_end0;exact ⟨rfl,hrow,hb⟩
attribute [local go_sem] Oper.semAt_some
def KC (n₀ Bs Bn:Nat) (sv:Value) (W W' : World):Prop:=Below n₀ W W'∧(Rw W Bs 67 [sv]→Rw W' Bs 67 [sv])∧(Rw W Bn 3 [.int .i64 2]→Rw W' Bn 3 [.int .i64 2])
theorem KC.refl {n₀ Bs Bn:Nat} {sv:Value} (W:World):KC n₀ Bs Bn sv W W:=⟨Below.refl _ _,id,id⟩
theorem KC.trans {n₀ Bs Bn:Nat} {sv:Value} {A B C:World} (h:KC n₀ Bs Bn sv A B) (k:KC n₀ Bs Bn sv B C):KC n₀ Bs Bn sv A C:=⟨h.1.trans k.1,fun x=>k.2.1 (h.2.1 x),fun x=>k.2.2 (h.2.2 x)⟩
theorem KC.put {n₀ Bs Bn:Nat} {sv:Value} {w:World} (hn:n₀≤w.heap.size) (hB:Bs<w.heap.size) (hN:Bn<w.heap.size) (W:World) (l:Nat) (o o' : Obj) (hl:w.heap.size≤l) (h:W.heap[l]?=some o) (h1:o.isCells=false) (h2:o.isWalk=false):KC n₀ Bs Bn sv W (W.putObj l o'):=
 ⟨belowK_b hn W l o o' hl h h1 h2,fun x=>((grownBy_putObj' W l o').block Bs x.lt (by simp;omega)).trans x,fun x=>((grownBy_putObj' W l o').block Bn x.lt (by simp;omega)).trans x⟩
def pairOf (b off len k:Nat):Value:=.slice (some ⟨b,off+2*k*2,none⟩) (min 2 (len-2*k)) (min 2 (len-2*k))
theorem chunk_in (F:Fence) (n:Nat) (hf:F.fn 114) (hro:F.round=none) (a:Option Addr) (len cap:Nat) (w:World) :
  CallsIn F n Tryz.prog 114 #[.slice a len cap,.int .i64 2] w fun e w'=>e=.returned (.func (.func 144) #[] #[.pointer (some ⟨w.heap.size,0,none⟩),.pointer (some ⟨w.heap.size+1,0,none⟩)])∧w'=(w.alloc (.cells #[.slice a len cap] 67)).alloc (.cells #[.int .i64 2] 3):=by
 refine callsIn_of_wp Tryz.func114 rfl hf ?_ hro;simp only [Tryz.ntmps114,List.size_toArray,List.length_cons,List.length_nil,Nat.reduceAdd,Nat.reduceSub,Array.replicate_succ,Array.replicate_zero,List.push_toArray,List.append_toArray,List.nil_append,List.cons_append]
 gi_wp2
 go_ret;exact ⟨rfl,rfl⟩
theorem chunk1_in (F:Fence) (n:Nat) (hf:F.fn 144) (hro:F.round=none) (hn:1≤n) (l Bs Bn n₀ b off len cap:Nat) (hlc:len≤cap) (hmax:len≤100000) (J Jx:List Nat→World→Prop) (B0:Nat) (hA:AbidesFrom B0 J)
  (hY:∀ pre x W,J pre W→2*pre.length<len→x=pre.length→YieldAt F (n-1) Tryz.prog l #[pairOf b off len x] W fun e W' =>
   (e=.returned (.bool true)∧J (pre++[x]) W'∧KC n₀ Bs Bn (.slice (some ⟨b,off,none⟩) len cap) W W')∨(e=.returned (.bool false)∧Jx (pre++[x]) W'))
  (W:World) (hBs:Rw W Bs 67 [.slice (some ⟨b,off,none⟩) len cap]) (hBn:Rw W Bn 3 [.int .i64 2]) (h0:J [] W) :
  CallsIn F n Tryz.prog 144 #[.func (.yield l) #[] #[],.pointer (some ⟨Bs,0,none⟩),.pointer (some ⟨Bn,0,none⟩)] W fun e W'=>(∃ v,e=.returned v) ∧
   ((∃ ys,ys=List.range ((len+1) / 2)∧J ys W')∨(∃ pre,(∃ k,k≤(len+1) / 2∧pre=List.range k)∧Jx pre W')):=by
 refine callsIn_of_wp Tryz.func144 rfl hf ?_ hro;simp only [Tryz.ntmps144,List.size_toArray,List.length_cons,List.length_nil,Nat.reduceAdd,Nat.reduceSub,Array.replicate_succ,Array.replicate_zero,List.push_toArray,List.append_toArray,List.nil_append,List.cons_append];have hbs:=hBs.cell 0;have hbn:=hBn.cell 0;simp only [List.getElem?_cons_zero] at hbs hbn
 gi_wp2
 gi_loopw [4] (fun i wr=>∃ (k:Nat),2*k≤len+1∧i=.int .i64 (2*(k:Int))∧J (List.range k) wr∧KC n₀ Bs Bn (.slice (some ⟨b,off,none⟩) len cap) W wr)
  (fun i _=>len+2-(intOf i).toNat)
 case atStart=>exact ⟨0,Nat.zero_le _,rfl,h0,KC.refl _⟩
 case round =>
  obtain ⟨k,hk,rfl,hJs,hnx⟩:=hrel;have hbx:=(hnx.2.1 hBs).cell 0;have hbn2:=(hnx.2.2 hBn).cell 0;simp only [List.getElem?_cons_zero] at hbx hbn2
  by_cases hlt:2*k<len
  ·have hlt2:2*(k:Int)<(len:Int):=by omega
   have hle2:2*(k:Int)≤(len:Int):=by omega
   have hle3:2*(k:Int)≤(cap:Int):=by omega
   have h02:(0:Int)≤2*(k:Int):=by omega
   obtain ⟨m,hm⟩:∃ m:Nat,min 2 (len-2*k)=m:=⟨_,rfl⟩;have hmi:min (2:Int) ((len-2*k:Nat):Int)=(m:Int):=by omega
   have hm1:1≤m:=by omega
   have hm2:2*k+m≤len:=by omega
   have hml:(2*(k:Int)+(m:Int)).toNat-2*k=m:=by omega
   have hp:pairOf b off len k=.slice (some ⟨b,off+2*k*2,none⟩) m m:=by unfold pairOf;rw [hm]
   have hJd:J (List.range k) wr.drew:=hA _ _ _ none hJs ⟨rfl,rfl,rfl,Nat.le_refl _,fun _ _ _=>rfl⟩ (fun r e=>by cases e);have hkd:KC n₀ Bs Bn (.slice (some ⟨b,off,none⟩) len cap) W wr.drew:=⟨hnx.1.drew,fun x=>hnx.2.1 x,fun x=>hnx.2.2 x⟩;have hlenk:(List.range k).length=k:=List.length_range;obtain ⟨fn,tmps,assign,body,hy,hR⟩:=hY (List.range k) k wr.drew hJd (by rw [hlenk];exact hlt) hlenk.symm;rw [hp] at hy;have hsuc:List.range (k+1)=List.range k++[k]:=List.range_succ;have HK:=Lib.hid (And.intro hkd (And.intro hsuc hJs));clear hJs hnx hJd hkd hsuc hlenk hp hm hA;have hsl:(2*(k:Int)).toNat=2*k:=by omega
   gi_wp2
   gi_region
   all_goals
    gi_wp2
    refine hR.mono ?_;rintro e W3 (⟨rfl,hJ3,hk3⟩|⟨rfl,hJx3⟩)
    ·have hbn3:=(hk3.2.2 (HK.out.1.2.2 hBn)).cell 0;simp only [List.getElem?_cons_zero] at hbn3
     gi_wp2
     go_roundw
     case rel=>exact ⟨k+1,by omega,by congr 1,by rw [HK.out.2.1];exact hJ3,HK.out.1.trans hk3⟩
     case measure=>simp [intOf];omega
    ·gi_wp2
     refine bodyPost_ret (results_none rfl _ _ _) rfl ?_;exact ⟨⟨_,rfl⟩,.inr ⟨_,⟨k+1,by omega,HK.out.2.1.symm⟩,hJx3⟩⟩
  ·have hnl:¬ (2*(k:Int)<(len:Int)):=by omega
   have hkk:k=(len+1) / 2:=by omega
   gi_wp2
   go_end0;have hJe:J (List.range ((len+1) / 2)) wr:=hkk▸hJs
   first|exact ⟨⟨_,rfl⟩,.inl ⟨_,rfl,hJe⟩⟩|exact ⟨⟨_,rfl⟩,.inl hJe⟩|exact .inl hJe
theorem chunk_stops' (F:Fence) (n:Nat) (hf:F.fn 144) (hro:F.round=none) (hn:1≤n) (Bs Bn n₀ b off len cap:Nat) (hlc:len≤cap) (hmax:len≤100000) (w:World)
  (hBs:Rw w Bs 67 [.slice (some ⟨b,off,none⟩) len cap]) (hBn:Rw w Bn 3 [.int .i64 2]) :
  SeqStopsK F n Tryz.prog 144 #[.pointer (some ⟨Bs,0,none⟩),.pointer (some ⟨Bn,0,none⟩)] (fun k:Nat=>#[pairOf b off len (min k ((len+1) / 2-1))]) (KC n₀ Bs Bn (.slice (some ⟨b,off,none⟩) len cap)) (fun ys=>ys=List.range ((len+1) / 2))
   (fun pre=>∃ k,k≤(len+1) / 2∧pre=List.range k) ((len+1) / 2) w:=fun l J Jx W hW hA _ hY h0 =>
 chunk1_in F n hf hro hn l Bs Bn n₀ b off len cap hlc hmax J Jx W.heap.size hA (fun pre x W1 hJ hl hx=>by
  have h1:=hY pre x W1 hJ (by omega);have e:min x ((len+1) / 2-1)=x:=by omega
  simp only [e] at h1;exact h1) W (hBs.below hW hBs.lt) (hBn.below hW hBn.lt) h0
end Go.Proofs.YtiddgplapodleaaGreatDoor
