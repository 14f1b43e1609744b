/- The lower and the upper of two numbers, in order; no function is walked in this text. -/
import Derived.Test.YteofihmlgiepfaaGreatDoorSMem
import Derived.Test.YteofihmlgiepfaaGreatDoorYRat
namespace Go.Proofs.YteofihmlgiepfaaGreatDoor
open Go.RowKit Go.Shelf
theorem dlo_spec (x y:Dyadic):(dlo x y).toRat≤x.toRat∧(dlo x y).toRat≤y.toRat∧(dlo x y=x∨dlo x y=y):=by
 unfold dlo
 by_cases h:0<dsg (x-y)
 ·rw [if_pos h];rw [dsg_sub_pos] at h;exact ⟨by grind,by grind,.inr rfl⟩
 ·rw [if_neg h];rw [dsg_sub_pos] at h;exact ⟨by grind,by grind,.inl rfl⟩
theorem dhi_spec (x y:Dyadic):x.toRat≤(dhi x y).toRat∧y.toRat≤(dhi x y).toRat∧(dhi x y=x∨dhi x y=y):=by
 unfold dhi
 by_cases h:0<dsg (x-y)
 ·rw [if_pos h];rw [dsg_sub_pos] at h;exact ⟨by grind,by grind,.inl rfl⟩
 ·rw [if_neg h];rw [dsg_sub_pos] at h;exact ⟨by grind,by grind,.inr rfl⟩
theorem dlo_dhi (x y:Dyadic):(dlo x y).toRat≤(dhi x y).toRat:=by
 have h1:=dlo_spec x y;have h2:=dhi_spec x y
 grind
theorem dlo_self {x y:Dyadic} (h:x.toRat≤y.toRat):dlo x y=x∧dhi x y=y:=by
 unfold dlo dhi;have h1:¬ 0<dsg (x-y):=by rw [dsg_sub_pos];grind
 rw [if_neg h1,if_neg h1];exact ⟨rfl,rfl⟩
def hasD (x y a:Dyadic):Bool:=decide (dsg (x-a)≤0) && decide (dsg (a-y)≤0)
theorem hasD_iff (x y a:Dyadic):hasD x y a=true↔x.toRat≤a.toRat∧a.toRat≤y.toRat:=by
 unfold hasD;rw [Bool.and_eq_true,decide_eq_true_iff,decide_eq_true_iff];have h1:=dsg_sub_pos (x:=x) (y:=a);have h2:=dsg_sub_pos (x:=a) (y:=y)
 constructor
 ·rintro ⟨h3,h4⟩;have h5:¬ 0<dsg (x-a):=by omega
  have h6:¬ 0<dsg (a-y):=by omega
  rw [h1] at h5;rw [h2] at h6;exact ⟨by grind,by grind⟩
 ·rintro ⟨h3,h4⟩;have h5:¬ 0<dsg (x-a):=by rw [h1];grind
  have h6:¬ 0<dsg (a-y):=by rw [h2];grind
  exact ⟨by omega,by omega⟩
end Go.Proofs.YteofihmlgiepfaaGreatDoor
