/- Quotients between two numbers of a grid; no function is walked in this text. -/
import Derived.Test.YteofihmlgiepfaaGreatDoorYRat
namespace Go.Proofs.YteofihmlgiepfaaGreatDoor
open Go.RowKit Go.Shelf
theorem floor_quo {r:Rat} {A m:Int} (hm:0<m) (h:r*m=A):r.floor=A / m:=by
 have hm' : (0:Rat)<(m:Rat):=by exact_mod_cast hm
 have h1:A / m*m≤A:=Int.ediv_mul_le A (by omega);have h2:A<(A / m+1)*m:=by
  have:=Int.lt_ediv_add_one_mul_self A hm
  exact this
 generalize A / m=n at *;have h1' : (n:Rat)*m≤A:=by exact_mod_cast h1
 have h2' : (A:Rat)<(n+1)*m:=by exact_mod_cast h2
 have g1:n≤r.floor:=by
  rw [Rat.le_floor_iff];rw [← h] at h1';exact Rat.le_of_mul_le_mul_right h1' hm'
 have g2:r.floor<n+1:=by
  rw [Rat.floor_lt_iff];rw [← h] at h2'
  have:=Rat.lt_of_mul_lt_mul_right h2' (Rat.le_of_lt hm')
  rw [Rat.intCast_add];exact this
 omega
theorem ofI_toRat (n p:Int):(Dyadic.ofIntWithPrec n p).toRat=(n:Rat)*2 ^ (-p):=Dyadic.toRat_ofIntWithPrec_eq_mul_two_pow
def qlo (a b:Dyadic) (p:Int):Dyadic:=.ofIntWithPrec (a.toRat / b.toRat*2 ^ p).floor p
def qhi (a b:Dyadic) (p:Int):Dyadic:=-(qlo (-a) b p)
theorem zpow_cancel (p:Int):(2:Rat) ^ p*2 ^ (-p)=1:=by
 rw [← Rat.zpow_add (by decide)];rw [show p+-p=0 by omega];rfl
theorem qlo_le (a b:Dyadic) (p:Int):(qlo a b p).toRat≤a.toRat / b.toRat:=by
 unfold qlo;rw [ofI_toRat];have h:=Rat.floor_le (a.toRat / b.toRat*2 ^ p);have h2:=two_zpow_pos (-p);have h3:=Rat.mul_le_mul_of_nonneg_right h (Rat.le_of_lt h2);rw [Rat.mul_assoc,zpow_cancel,Rat.mul_one] at h3;exact h3
theorem qlo_lt (a b:Dyadic) (p:Int):a.toRat / b.toRat<(qlo a b p).toRat+2 ^ (-p):=by
 unfold qlo;rw [ofI_toRat];have h:(a.toRat / b.toRat*2 ^ p)-1<((a.toRat / b.toRat*2 ^ p).floor:Rat):=Rat.lt_floor;have h2:=two_zpow_pos (-p);have h4:a.toRat / b.toRat*2 ^ p<((a.toRat / b.toRat*2 ^ p).floor:Rat)+1:=by grind
 have h3:=Rat.mul_lt_mul_of_pos_right h4 h2;rw [Rat.mul_assoc,zpow_cancel,Rat.mul_one] at h3
 grind
theorem neg_floor_neg (x:Rat):-((-x).floor)=if (x.floor:Rat)=x then x.floor else x.floor+1:=by
 have h1:(x.floor:Rat)≤x:=Rat.floor_le x;have h2:x-1<(x.floor:Rat):=Rat.lt_floor;generalize hk:(-x).floor=k;generalize x.floor=n at *
 split
 ·rename_i h
  have a1:-n≤k:=by rw [← hk,Rat.le_floor_iff,Rat.intCast_neg];grind
  have a2:k < -n+1:=by
   rw [← hk,Rat.floor_lt_iff,Rat.intCast_add,Rat.intCast_neg]
   have:((1:Int):Rat)=1:=rfl
   grind
  omega
 ·rename_i h
  have a1:-(n+1)≤k:=by
   rw [← hk,Rat.le_floor_iff,Rat.intCast_neg,Rat.intCast_add]
   have:((1:Int):Rat)=1:=rfl
   grind
  have a2:k < -n:=by
   rw [← hk,Rat.floor_lt_iff,Rat.intCast_neg]
   grind
  omega
theorem of_neg (n p:Int):-(Dyadic.ofIntWithPrec n p)=.ofIntWithPrec (-n) p:=by
 rw [← Dyadic.toRat_inj,Dyadic.toRat_neg,ofI_toRat,ofI_toRat,Rat.intCast_neg,Rat.neg_mul]
theorem neg_quo (a b:Dyadic) (p:Int):(-a).toRat / b.toRat*2 ^ p=-(a.toRat / b.toRat*2 ^ p):=by
 rw [Dyadic.toRat_neg,Rat.div_def,Rat.div_def,Rat.neg_mul,Rat.neg_mul]
theorem grid_eq {n:Int} {r:Rat} {p:Int}:(n:Rat)*2 ^ (-p)=r↔(n:Rat)=r*2 ^ p:=by
 have h:=zpow_cancel p
 constructor
 ·intro e;rw [← e,Rat.mul_assoc,Rat.mul_comm (2 ^ (-p)),h,Rat.mul_one]
 ·intro e;rw [e,Rat.mul_assoc,h,Rat.mul_one]
theorem qhi_same {a b:Dyadic} {p:Int} (h:(qlo a b p).toRat=a.toRat / b.toRat):qhi a b p=qlo a b p:=by
 unfold qhi qlo at *;rw [ofI_toRat,grid_eq] at h;rw [neg_quo,of_neg,neg_floor_neg,if_pos h]
theorem qhi_next {a b:Dyadic} {p:Int} (h:(qlo a b p).toRat≠a.toRat / b.toRat):qhi a b p=.ofIntWithPrec ((a.toRat / b.toRat*2 ^ p).floor+1) p∧(qhi a b p).toRat=(qlo a b p).toRat+2 ^ (-p):=by
 have h1:qhi a b p=.ofIntWithPrec ((a.toRat / b.toRat*2 ^ p).floor+1) p:=by
  unfold qhi qlo at *;rw [Ne,ofI_toRat,grid_eq] at h;rw [neg_quo,of_neg,neg_floor_neg,if_neg h]
 refine ⟨h1,?_⟩;rw [h1];unfold qlo;rw [ofI_toRat,ofI_toRat,Rat.intCast_add,Rat.add_mul];rw [show ((1:Int):Rat)=1 from rfl,Rat.one_mul]
theorem qhi_ge (a b:Dyadic) (p:Int):a.toRat / b.toRat≤(qhi a b p).toRat:=by
 unfold qhi;have h:=qlo_le (-a) b p;rw [Dyadic.toRat_neg] at *;rw [Rat.div_def,Rat.neg_mul,← Rat.div_def] at h
 grind
theorem qlo_mono {a b c d:Dyadic} (p:Int) (h:a.toRat / b.toRat≤c.toRat / d.toRat):(qlo a b p).toRat≤(qlo c d p).toRat:=by
 unfold qlo;rw [ofI_toRat,ofI_toRat];refine Rat.mul_le_mul_of_nonneg_right ?_ (Rat.le_of_lt (two_zpow_pos _));have h2:=Rat.mul_le_mul_of_nonneg_right h (Rat.le_of_lt (two_zpow_pos p));have h3:(a.toRat / b.toRat*2 ^ p).floor≤(c.toRat / d.toRat*2 ^ p).floor:=by
  rw [Rat.le_floor_iff];exact Rat.le_trans (Rat.floor_le _) h2
 exact_mod_cast h3
theorem qhi_mono {a b c d:Dyadic} (p:Int) (h:a.toRat / b.toRat≤c.toRat / d.toRat):(qhi a b p).toRat≤(qhi c d p).toRat:=by
 unfold qhi;have h2:=qlo_mono (a:=-c) (b:=d) (c:=-a) (d:=b) p (by
  rw [Dyadic.toRat_neg,Dyadic.toRat_neg,Rat.div_def,Rat.div_def,Rat.neg_mul,Rat.neg_mul,← Rat.div_def,← Rat.div_def]
  grind)
 rw [Dyadic.toRat_neg,Dyadic.toRat_neg]
 grind
theorem mul_low {L a b c d x y:Rat} (h1:L≤a*c) (h2:L≤a*d) (h3:L≤b*c) (h4:L≤b*d) (ha:a≤x) (hb:x≤b) (hc:c≤y) (hd:y≤d):L≤x*y:=by
 have key:∀ z:Rat,L≤z*c→L≤z*d→L≤z*y:=by
  intro z k1 k2
  rcases Rat.le_total (a:=0) (b:=z) with hz|hz
  ·have:=Rat.mul_le_mul_of_nonneg_left hc hz
   grind
  ·have:=Rat.mul_le_mul_of_nonneg_left hd (show 0≤-z by grind)
   grind
 have ka:=key a h1 h2;have kb:=key b h3 h4
 rcases Rat.le_total (a:=0) (b:=y) with hz|hz
 ·have:=Rat.mul_le_mul_of_nonneg_right ha hz
  grind
 ·have:=Rat.mul_le_mul_of_nonneg_right hb (show 0≤-y by grind)
  grind
theorem mul_high {U a b c d x y:Rat} (h1:a*c≤U) (h2:a*d≤U) (h3:b*c≤U) (h4:b*d≤U) (ha:a≤x) (hb:x≤b) (hc:c≤y) (hd:y≤d):x*y≤U:=by
 have:=mul_low (L:=-U) (a:=-b) (b:=-a) (c:=c) (d:=d) (x:=-x) (y:=y) (by grind) (by grind) (by grind) (by grind) (by grind) (by grind) hc hd
 grind
end Go.Proofs.YteofihmlgiepfaaGreatDoor
