/- The order of dyadic numbers by their rationals; the least and the greatest of three. No function is walked in this text. -/
import Derived.Test.YteofihmlgiepfaaGreatDoorY16
namespace Go.Proofs.YteofihmlgiepfaaGreatDoor
open Go.RowKit Go.Shelf
theorem toRat_parts (x:Dyadic):x.toRat=(dm x:Rat)*2 ^ de x:=by
 have h:(Dyadic.ofIntWithPrec (dm x) (-(de x))).toRat=(dm x:Rat)*2 ^ (- -(de x)):=Dyadic.toRat_ofIntWithPrec_eq_mul_two_pow;rw [nv_df,Int.neg_neg] at h;exact h
theorem two_zpow_pos (e:Int):(0:Rat)<2 ^ e:=Rat.zpow_pos (by decide)
theorem dsg_pos {x:Dyadic}:0<dsg x↔0<x.toRat:=by
 rw [toRat_parts];have h:=two_zpow_pos (de x);rw [Rat.mul_comm,Rat.mul_pos_iff_of_pos_left h];rw [show (0:Rat)<(dm x:Rat)↔0<dm x from Rat.intCast_pos];have h9:dsg x=sg (dm x):=rfl;rw [h9]
 rcases sg_cases (dm x) with ⟨_,h8⟩|⟨_,h8⟩|⟨_,h8⟩ <;> omega
theorem dsg_neg' {x:Dyadic}:dsg x<0↔x.toRat<0:=by
 rw [toRat_parts];have h:=two_zpow_pos (de x);have h2:((dm x:Rat)*2 ^ de x<0)↔dm x<0:=by
  constructor
  ·intro h3
   by_cases h4:dm x<0
   ·exact h4
   ·exfalso
    have h5:(0:Rat)≤(dm x:Rat):=by exact_mod_cast (show 0≤dm x by omega)
    have:=Rat.mul_nonneg h5 (Rat.le_of_lt h)
    grind
  ·intro h3;have h5:(dm x:Rat)<0:=by exact_mod_cast h3
   have h6:0 < -(dm x:Rat):=by grind
   have:=Rat.mul_pos h6 h
   grind
 rw [h2];have h9:dsg x=sg (dm x):=rfl;rw [h9]
 rcases sg_cases (dm x) with ⟨_,h8⟩|⟨_,h8⟩|⟨_,h8⟩ <;> omega
theorem dsg_sub_pos {x y:Dyadic}:0<dsg (x-y)↔y.toRat<x.toRat:=by
 rw [dsg_pos,Dyadic.toRat_sub];constructor <;> intro h <;> grind
theorem dsg_sub_neg {x y:Dyadic}:dsg (x-y)<0↔x.toRat<y.toRat:=by
 rw [dsg_neg',Dyadic.toRat_sub];constructor <;> intro h <;> grind
def f2 (side:Int) (x y:Dyadic):Dyadic:=if 0<side*dsg (y-x) then y else x
theorem df_form {x:Dyadic} {z:Bool} {o:ByteArray} {e:Int} (h:df x=nu z o e):df (nv z o e)=nu z o e:=by rw [(df_parts h).2.2.1,h]
end Go.Proofs.YteofihmlgiepfaaGreatDoor
