/- BoxEnds, what it says on plain values (package ogeelaw11). -/
import Derived.Test.YtlmckjodahbgbaaGreatDoorBX10
import Derived.Test.YtlmckjodahbgbaaGreatDoorBXTwo
namespace Go.Proofs.YtlmckjodahbgbaaGreatDoor
open Go.RowKit Go.Shelf
theorem and255 (n:Int):∃ k:Nat,k≤255∧bits .and .i64 n 255=(k:Int):=by
 have h255:(BitVec.ofInt 64 255).toNat=2 ^ 8-1:=by decide
 have key:(BitVec.ofInt 64 n &&& BitVec.ofInt 64 255).toNat=(n % ((2 ^ 64:Nat):Int)).toNat % 2 ^ 8:=by
  rw [BitVec.toNat_and,BitVec.toNat_ofInt,h255,Nat.and_two_pow_sub_one_eq_mod]
 refine ⟨(n % ((2 ^ 64:Nat):Int)).toNat % 2 ^ 8,by omega,?_⟩;show IntKind.i64.wrap ((BitVec.ofInt 64 n &&& BitVec.ofInt 64 255).toNat:Nat)=_;rw [key,IntKind.wrap_i64];omega
def hfN:NV:=canonN (dhalf 1)
def bitsN (q n:Nat):List NV:=(List.range n).map fun i=>iN ((q / 2 ^ i % 2:Nat):Int)
def hfs (n:Nat):List NV:=(List.range n).map fun _=>hfN
theorem bits_len (q n:Nat):(bitsN q n).length=n:=by unfold bitsN;simp
theorem hfs_len (n:Nat):(hfs n).length=n:=by unfold hfs;simp
theorem bits_take {q n i:Nat} (h:i<n):(bitsN q n).take (i+1)=(bitsN q n).take i++[iN ((q / 2 ^ i % 2:Nat):Int)]:=by
 rw [List.take_succ_eq_append_getElem (by rw [bits_len];exact h)];unfold bitsN;rw [List.getElem_map,List.getElem_range]
theorem hfs_take {n i:Nat} (h:i<n):(hfs n).take (i+1)=(hfs n).take i++[hfN]:=by
 rw [List.take_succ_eq_append_getElem (by rw [hfs_len];exact h)];unfold hfs;rw [List.getElem_map]
theorem nv_one:nvl (iN 1)=1:=by unfold iN;rw [nvl_canon];exact one_of
theorem iN_zero:nvl (iN 0)=0:=by unfold iN;rw [nvl_canon];decide +kernel
theorem bits_gd (q n:Nat):∀ y∈bitsN q n,Gd 80 200 y:=by
 intro y hy;unfold bitsN at hy;obtain ⟨i,-,rfl⟩:=List.mem_map.1 hy
 rcases (show q / 2 ^ i % 2=0∨q / 2 ^ i % 2=1 by omega) with h|h <;> rw [h]
 ·exact iN_gd 0 (by unfold Raw;decide +kernel)
 ·exact iN_gd 1 (by unfold Raw;decide +kernel)
theorem hfs_gd (n:Nat):∀ y∈hfs n,Gd 80 200 y:=by
 intro y hy;unfold hfs at hy;obtain ⟨i,-,rfl⟩:=List.mem_map.1 hy;exact Raw.gd (by unfold Raw hfN;decide +kernel)
theorem half_rat:(dhalf 1).toRat=1 / 2:=by rw [show (1:Rat) / 2=(1:Dyadic).toRat / 2 by rw [show (1:Dyadic).toRat=1 by decide +kernel]];unfold dhalf;rw [Dyadic.toRat_mul,ofI_toRat,show (2:Rat) ^ (-(1:Int))=1 / 2 by rw [Rat.zpow_neg,Rat.zpow_one];grind];grind
theorem corner_place (q:Nat) (l:List SV) (h8:l.length≤8):(l.zipIdx.map fun x=>cornN q x.2 (fS x.1))=l.zipIdx.map fun x=>placN (bitsN q l.length) x.2 (fS x.1):=by
 apply List.ext_getElem
 ·simp
 intro i h1 h2;have hi:i<l.length:=by simpa using h1
 rw [List.getElem_map,List.getElem_map,List.getElem_zipIdx];simp only [Nat.zero_add];unfold cornN placN bitB;rw [dif_pos (by rw [bits_len];exact hi),decide_eq_true (show i<62 by omega)];have hb:(bitsN q l.length)[i]'(by rw [bits_len];exact hi)=iN ((q / 2 ^ i % 2:Nat):Int):=by unfold bitsN;rw [List.getElem_map,List.getElem_range]
 rw [hb,wS_fS]
 rcases (show q / 2 ^ i % 2=0∨q / 2 ^ i % 2=1 by omega) with h|h <;> rw [h]
 ·show canonN (loS l[i])=canonN (nvl (canonN (loS l[i]))+nvl (iN 0)*wS l[i]);rw [canon_eq,nvl_canon,iN_zero,← Dyadic.toRat_inj,Dyadic.toRat_add,Dyadic.toRat_mul,show (0:Dyadic).toRat=0 by decide +kernel]
  grind
 ·show canonN (hiS l[i])=canonN (nvl (canonN (loS l[i]))+nvl (iN 1)*wS l[i]);rw [canon_eq,nvl_canon,nv_one,← Dyadic.toRat_inj,Dyadic.toRat_add,Dyadic.toRat_mul,wS_rat,show (1:Dyadic).toRat=1 by decide +kernel]
  grind
theorem mid_place (l:List SV):(l.map fun x=>canonN (mS x))=l.zipIdx.map fun x=>placN (hfs l.length) x.2 (fS x.1):=by
 apply List.ext_getElem
 ·simp
 intro i h1 h2;have hi:i<l.length:=by simpa using h1
 rw [List.getElem_map,List.getElem_map,List.getElem_zipIdx];simp only [Nat.zero_add];unfold placN;rw [dif_pos (by rw [hfs_len];exact hi)];have hb:(hfs l.length)[i]'(by rw [hfs_len];exact hi)=hfN:=by unfold hfs;rw [List.getElem_map]
 rw [hb,wS_fS];show canonN (mS l[i])=canonN (nvl (canonN (loS l[i]))+nvl (canonN (dhalf 1))*wS l[i]);rw [canon_eq,nvl_canon,nvl_canon,← Dyadic.toRat_inj,Dyadic.toRat_add,Dyadic.toRat_mul,wS_rat,mS_rat,half_rat]
 grind
theorem corner_has (q:Nat) (l:List SV):hasB l (l.zipIdx.map fun x=>cornN q x.2 (fS x.1))=true:=by
 rw [hasB_iff];refine ⟨by simp,fun i h1 h2=>?_⟩;rw [List.getElem_map,List.getElem_zipIdx,inS_iff];simp only [Nat.zero_add];have h:=lo_le_hi l[i];unfold cornN
 split
 ·show (loS l[i]).toRat≤(nvl (canonN (hiS l[i]))).toRat∧(nvl (canonN (hiS l[i]))).toRat≤(hiS l[i]).toRat;rw [nvl_canon]
  grind
 ·show (loS l[i]).toRat≤(nvl (canonN (loS l[i]))).toRat∧(nvl (canonN (loS l[i]))).toRat≤(hiS l[i]).toRat;rw [nvl_canon]
  grind
theorem mid_has0 (l:List SV):hasB l (l.map fun x=>canonN (mS x))=true:=by
 rw [hasB_iff];refine ⟨by simp,fun i h1 h2=>?_⟩;rw [List.getElem_map,inS_iff,nvl_canon];exact mid_between _
theorem flat_form (x:SV):flatS (fS x)=true↔¬ 0<(wS x).toRat:=by
 unfold flatS;rw [decide_eq_true_iff,wS_rat];show 0≤dsg (nvl (canonN (loS x))-nvl (canonN (hiS x)))↔_;rw [nvl_canon,nvl_canon];have h:=dsg_sub_neg (x:=loS x) (y:=hiS x)
 constructor
 ·intro h1 h2
  have:=h.2 (by grind)
  omega
 ·intro h1
  rcases Int.lt_or_le (dsg (loS x-hiS x)) 0 with h2|h2
  ·exact absurd (h.1 h2) (by intro h3;exact h1 (by grind))
  ·exact h2
theorem room_vol (l:List SV) (h0:l≠[]):(checkB (l.map fS)=0↔0<dsg (volD l))∧0≤dsg (volD l):=by
 have h1:0≤dsg (volD l):=by
  rcases Int.lt_or_le (dsg (volD l)) 0 with h2|h2
  ·have:=dsg_neg'.1 h2
   rw [vol_rat] at this;exact absurd this (Rat.not_lt.2 (vr_nonneg l))
  ·exact h2
 refine ⟨?_,h1⟩;rw [dsg_pos,vol_rat,vr_pos];unfold checkB;rw [if_neg (by simpa using h0)]
 constructor
 ·intro h x hx
  split at h
  ·omega
  ·rename_i hany
   rw [Bool.not_eq_true,List.any_eq_false] at hany
   have:=hany (fS x) (List.mem_map.2 ⟨x,hx,rfl⟩)
   rw [flat_form] at this;exact Decidable.of_not_not this
 ·intro h;rw [if_neg];rw [Bool.not_eq_true,List.any_eq_false];intro y hy;obtain ⟨x,hx,rfl⟩:=List.mem_map.1 hy;rw [flat_form];exact fun h3=>h3 (h x hx)
theorem bnd_prod2:∀ (l:List SV) (a:Dyadic) (A F B E:Nat),Bnd a A F→(∀ x∈l,GS B E x)→Bnd ((l.map wS).foldl (·*·) a) (A+l.length*(B+1)) (F+l.length*E)
 | [],a,A,F,B,E,h,_=>by simpa using h
 | x::l,a,A,F,B,E,h,k=>by
  rw [List.map_cons,List.foldl_cons];have h1:=bnd_prod2 l (a*wS x) (A+(B+1)) (F+E) B E (h.mul (k x List.mem_cons_self).width) (fun y hy=>k y (List.mem_cons_of_mem _ hy));rw [List.length_cons,Nat.add_mul,Nat.add_mul,Nat.one_mul,Nat.one_mul]
  rwa [show A+(l.length*(B+1)+(B+1))=A+(B+1)+l.length*(B+1) by omega,show F+(l.length*E+E)=F+E+l.length*E by omega]
theorem bnd_vol2 {l:List SV} {B E:Nat} (h:∀ x∈l,GS B E x) (h8:l.length≤8∧B≤120∧E≤300):(canonN (volD l)).2.1.size≤1000∧-10000≤(canonN (volD l)).2.2∧(canonN (volD l)).2.2≤10000:=by
 have h1:=(bnd_prod2 l 1 1 1 B E Bnd.one h).canon;have h2:l.length*(B+1)≤8*121:=Nat.mul_le_mul h8.1 (by omega);have h3:l.length*E≤8*300:=Nat.mul_le_mul h8.1 h8.2.2;unfold volD;omega
end Go.Proofs.YtlmckjodahbgbaaGreatDoor
