/- Boxes as rows of spans, on plain values: a span as it counts, its width, its middle, its halves; of no function. -/
import Derived.Test.YtlmckjodahbgbaaGreatDoorS3
import Derived.Test.YtlmckjodahbgbaaGreatDoorS4
import Derived.Test.YtlmckjodahbgbaaGreatDoorHB
import Derived.Test.YtlmckjodahbgbaaGreatDoorYBnd
import Derived.Test.YtlmckjodahbgbaaGreatDoorYRat
namespace Go.Proofs.YtlmckjodahbgbaaGreatDoor
open Go.RowKit Go.Shelf
def canonN (d:Dyadic):NV:=(decide (dm d<0),fb (dm d).natAbs,de d)
theorem canonN_df (d:Dyadic):df d=nu (canonN d).1 (canonN d).2.1 (canonN d).2.2:=rfl
theorem nvl_canon (d:Dyadic):nvl (canonN d)=d:=(df_parts (canonN_df d)).2.2.1
theorem canon_eq {x y:Dyadic}:canonN x=canonN y↔x=y:=⟨fun h=>by rw [← nvl_canon x,h,nvl_canon],fun h=>by rw [h]⟩
theorem df_canon {x:Dyadic} {a:NV} (h:canonN x=a):df x=nu a.1 a.2.1 a.2.2:=by rw [← h];exact canonN_df x
theorem canon_of_df {x:Dyadic} {m:Bool} {s:ByteArray} {e:Int} (h:df x=nu m s e):canonN x=(m,s,e):=nu_tuple h
def nagg (x:NV):Value:=.agg #[.bool x.1,.string x.2.1,.int .i64 x.2.2]
def sagg (x:SV):Value:=.agg #[.bool x.1.1,.string x.1.2.1,.int .i64 x.1.2.2,.bool x.2.1,.string x.2.2.1,.int .i64 x.2.2.2]
def loS (x:SV):Dyadic:=dlo (nvl x.1) (nvl x.2)
def hiS (x:SV):Dyadic:=dhi (nvl x.1) (nvl x.2)
def fS (x:SV):SV:=(canonN (loS x),canonN (hiS x))
def wS (x:SV):Dyadic:=dabs (nvl x.2-nvl x.1)
def mS (x:SV):Dyadic:=dhalf (nvl x.1+nvl x.2)
def inS (x:SV) (p:NV):Bool:=hasD (loS x) (hiS x) (nvl p)
def wiS (x y:SV):Bool:=hasD (loS y) (hiS y) (nvl x.1) && hasD (loS y) (hiS y) (nvl x.2)
theorem lo_le_hi (x:SV):(loS x).toRat≤(hiS x).toRat:=dlo_dhi _ _
theorem lo_fS (x:SV):loS (fS x)=loS x:=by
 unfold loS fS;simp only [nvl_canon];exact (dlo_self (lo_le_hi x)).1
theorem hi_fS (x:SV):hiS (fS x)=hiS x:=by
 show dhi (nvl (canonN (loS x))) (nvl (canonN (hiS x)))=_;simp only [nvl_canon];exact (dlo_self (lo_le_hi x)).2
theorem fS_fS (x:SV):fS (fS x)=fS x:=by
 show (canonN (loS (fS x)),canonN (hiS (fS x)))=_;rw [lo_fS,hi_fS];rfl
theorem lo_hi_sum (x:SV):loS x+hiS x=nvl x.1+nvl x.2:=by
 unfold loS hiS dlo dhi
 split
 ·exact Dyadic.add_comm _ _
 ·rfl
theorem mS_fS (x:SV):mS (fS x)=mS x:=by
 unfold mS;show dhalf (nvl (canonN (loS x))+nvl (canonN (hiS x)))=_;rw [nvl_canon,nvl_canon,lo_hi_sum]
theorem toRat_dabs (x:Dyadic):(dabs x).toRat=if x.toRat<0 then -x.toRat else x.toRat:=by
 unfold dabs
 by_cases h:dsg x<0
 ·rw [if_pos h,if_pos (dsg_neg'.1 h),Dyadic.toRat_neg]
 ·rw [if_neg h,if_neg (fun k=>h (dsg_neg'.2 k))]
theorem wS_rat (x:SV):(wS x).toRat=(hiS x).toRat-(loS x).toRat:=by
 unfold wS loS hiS;rw [toRat_dabs,Dyadic.toRat_sub];have h1:=dlo_spec (nvl x.1) (nvl x.2);have h2:=dhi_spec (nvl x.1) (nvl x.2);have hs:(dlo (nvl x.1) (nvl x.2)).toRat+(dhi (nvl x.1) (nvl x.2)).toRat=(nvl x.1).toRat+(nvl x.2).toRat:=by
  rw [← Dyadic.toRat_add,← Dyadic.toRat_add];exact congrArg _ (lo_hi_sum x)
 rcases h1 with ⟨h1,h1',h3⟩
 rcases h2 with ⟨h2,h2',_⟩
 have h5:(dlo (nvl x.1) (nvl x.2)).toRat=(nvl x.1).toRat∨(dlo (nvl x.1) (nvl x.2)).toRat=(nvl x.2).toRat:=h3.imp (fun e=>by rw [e]) (fun e=>by rw [e]);generalize (dlo (nvl x.1) (nvl x.2)).toRat=a at *;generalize (dhi (nvl x.1) (nvl x.2)).toRat=b at *;clear h3
 grind
theorem wS_fS (x:SV):wS (fS x)=wS x:=by
 rw [← Dyadic.toRat_inj,wS_rat,wS_rat,lo_fS,hi_fS]
theorem wS_nonneg (x:SV):0≤(wS x).toRat:=by rw [wS_rat];have:=lo_le_hi x;grind
theorem mS_rat (x:SV):(mS x).toRat=((loS x).toRat+(hiS x).toRat) / 2:=by
 unfold mS dhalf;rw [← lo_hi_sum,Dyadic.toRat_mul,Dyadic.toRat_add,ofI_toRat];rw [show (2:Rat) ^ (-(1:Int))=1 / 2 by rw [Rat.zpow_neg,Rat.zpow_one];grind]
 grind
/-! Sizes. -/
def Gd (B E:Nat) (x:NV):Prop:=Ok2 x.2.1 x.2.2∧Bnd (nvl x) B E
def GS (B E:Nat) (x:SV):Prop:=Gd B E x.1∧Gd B E x.2
def Raw (x:NV):Prop:=x.2.1.size≤30∧-200≤x.2.2∧x.2.2≤200
theorem Raw.gd {x:NV} (h:Raw x):Gd 80 200 x:=⟨by unfold Ok2;unfold Raw at h;omega,Bnd.of (B:=30) (K:=50) 200 h.1 h.2.1 (by have:=h.2.2;omega)⟩
theorem Bnd.one:Bnd (1:Dyadic) 1 1:=⟨false,⟨#[2]⟩,by
 show (1:Dyadic)=.ofIntWithPrec (wv false ⟨#[2]⟩) _
 decide +kernel,by decide⟩
theorem Bnd.finer {x:Dyadic} {B E:Nat} (h:Bnd x B E):Bnd x (B+1) (E+1):=by
 have:=h.mul Bnd.one
 rwa [Dyadic.mul_one] at this
theorem Bnd.half {x:Dyadic} {B E:Nat} (h:Bnd x B E):Bnd (dhalf x) B (E+1):=by
 obtain ⟨z,o,rfl,k⟩:=h;refine ⟨z,o,?_,k⟩;rw [← nv_halved]
 congr 1
 omega
theorem Bnd.lo {x y:Dyadic} {B E:Nat} (h:Bnd x B E) (k:Bnd y B E):Bnd (dlo x y) B E:=by rcases (dlo_spec x y).2.2 with e|e <;> rw [e] <;> assumption
theorem Bnd.hi {x y:Dyadic} {B E:Nat} (h:Bnd x B E) (k:Bnd y B E):Bnd (dhi x y) B E:=by rcases (dhi_spec x y).2.2 with e|e <;> rw [e] <;> assumption
theorem Bnd.sub {x y:Dyadic} {B E:Nat} (h:Bnd x B E) (k:Bnd y B E):Bnd (x-y) (B+1) E:=by
 rw [show x-y=x+-y by rw [← Dyadic.toRat_inj,Dyadic.toRat_sub,Dyadic.toRat_add,Dyadic.toRat_neg];grind];exact h.add k.neg
theorem Bnd.abs {x:Dyadic} {B E:Nat} (h:Bnd x B E):Bnd (dabs x) B E:=by unfold dabs;split;exact h.neg;exact h
theorem Bnd.canon {x:Dyadic} {B E:Nat} (h:Bnd x B E):(canonN x).2.1.size≤B∧-(E:Int)≤(canonN x).2.2∧(canonN x).2.2≤8*B:=h.form (canonN_df x)
theorem Bnd.gd {x:Dyadic} {B E:Nat} (h:Bnd x B E) (hB:B≤375) (hE:E≤3000):Gd B E (canonN x):=⟨by have:=h.canon;unfold Ok2;omega,by rw [nvl_canon];exact h⟩
theorem Gd.finer {x:NV} {B E:Nat} (h:Gd B E x):Gd (B+1) (E+1) x:=⟨h.1,h.2.finer⟩
theorem GS.finer {x:SV} {B E:Nat} (h:GS B E x):GS (B+1) (E+1) x:=⟨h.1.finer,h.2.finer⟩
theorem GS.lo {x:SV} {B E:Nat} (h:GS B E x):Bnd (loS x) B E:=h.1.2.lo h.2.2
theorem GS.hi {x:SV} {B E:Nat} (h:GS B E x):Bnd (hiS x) B E:=h.1.2.hi h.2.2
theorem GS.form {x:SV} {B E:Nat} (h:GS B E x) (hB:B≤375) (hE:E≤3000):GS B E (fS x):=⟨h.lo.gd hB hE,h.hi.gd hB hE⟩
theorem GS.mid {x:SV} {B E:Nat} (h:GS B E x):Bnd (mS x) (B+1) (E+1):=(h.1.2.add h.2.2).half
theorem GS.width {x:SV} {B E:Nat} (h:GS B E x):Bnd (wS x) (B+1) E:=(h.2.2.sub h.1.2).abs
end Go.Proofs.YtlmckjodahbgbaaGreatDoor
