/- The order of dyadic numbers by their rationals; the least and the greatest of three. No function is walked in this text. -/
import Derived.Test.YtbijggomdpaknaaGreatDoorY16
namespace Go.Proofs.YtbijggomdpaknaaGreatDoor
open Go.RowKit Go.Shelf
theorem toRat_parts (x:Dyadic):x.toRat=(dm x:Rat)*2 ^ de x:=by
 have h:(Dyadic.ofIntWithPrec (dm x) (-(de x))).toRat=(dm x:Rat)*2 ^ (- -(de x)):=Dyadic.toRat_ofIntWithPrec_eq_mul_two_pow;rw [nv_df,Int.neg_neg] at h;exact h
theorem two_zpow_pos (e:Int):(0:Rat)<2 ^ e:=Rat.zpow_pos (by decide)
theorem dsg_pos {x:Dyadic}:0<dsg x↔0<x.toRat:=by
 rw [toRat_parts];have h:=two_zpow_pos (de x);rw [Rat.mul_comm,Rat.mul_pos_iff_of_pos_left h];rw [show (0:Rat)<(dm x:Rat)↔0<dm x from Rat.intCast_pos];have h9:dsg x=sg (dm x):=rfl;rw [h9]
 rcases sg_cases (dm x) with ⟨_,h8⟩|⟨_,h8⟩|⟨_,h8⟩ <;> omega
theorem dsg_neg' {x:Dyadic}:dsg x<0↔x.toRat<0:=by
 rw [toRat_parts];have h:=two_zpow_pos (de x);have h2:((dm x:Rat)*2 ^ de x<0)↔dm x<0:=by
  constructor
  ·intro h3
   by_cases h4:dm x<0
   ·exact h4
   ·exfalso
    have h5:(0:Rat)≤(dm x:Rat):=by exact_mod_cast (show 0≤dm x by omega)
    have:=Rat.mul_nonneg h5 (Rat.le_of_lt h)
    grind
  ·intro h3;have h5:(dm x:Rat)<0:=by exact_mod_cast h3
   have h6:0 < -(dm x:Rat):=by grind
   have:=Rat.mul_pos h6 h
   grind
 rw [h2];have h9:dsg x=sg (dm x):=rfl;rw [h9]
 rcases sg_cases (dm x) with ⟨_,h8⟩|⟨_,h8⟩|⟨_,h8⟩ <;> omega
theorem dsg_sub_pos {x y:Dyadic}:0<dsg (x-y)↔y.toRat<x.toRat:=by
 rw [dsg_pos,Dyadic.toRat_sub];constructor <;> intro h <;> grind
theorem dsg_sub_neg {x y:Dyadic}:dsg (x-y)<0↔x.toRat<y.toRat:=by
 rw [dsg_neg',Dyadic.toRat_sub];constructor <;> intro h <;> grind
def f2 (side:Int) (x y:Dyadic):Dyadic:=if 0<side*dsg (y-x) then y else x
theorem f2_low (x y:Dyadic):(f2 (-1) x y).toRat≤x.toRat∧(f2 (-1) x y).toRat≤y.toRat∧(f2 (-1) x y=x∨f2 (-1) x y=y):=by
 unfold f2
 by_cases h:0 < -1*dsg (y-x)
 ·rw [if_pos h];have h1:dsg (y-x)<0:=by omega
  rw [dsg_sub_neg] at h1;exact ⟨by grind,by grind,.inr rfl⟩
 ·rw [if_neg h];have h1:¬ dsg (y-x)<0:=by omega
  rw [dsg_sub_neg] at h1;exact ⟨by grind,by grind,.inl rfl⟩
theorem f2_high (x y:Dyadic):x.toRat≤(f2 1 x y).toRat∧y.toRat≤(f2 1 x y).toRat∧(f2 1 x y=x∨f2 1 x y=y):=by
 unfold f2
 by_cases h:0<1*dsg (y-x)
 ·rw [if_pos h];have h1:0<dsg (y-x):=by omega
  rw [dsg_sub_pos] at h1;exact ⟨by grind,by grind,.inr rfl⟩
 ·rw [if_neg h];have h1:¬ 0<dsg (y-x):=by omega
  rw [dsg_sub_pos] at h1;exact ⟨by grind,by grind,.inl rfl⟩
theorem le_of_dsg {x y:Dyadic} (h:x.toRat≤y.toRat):decide (0<dsg (x-y))=false:=by
 rw [decide_eq_false_iff_not,dsg_sub_pos]
 grind
theorem ge_of_dsg {x y:Dyadic} (h:y.toRat≤x.toRat):decide (dsg (x-y)<0)=false:=by
 rw [decide_eq_false_iff_not,dsg_sub_neg]
 grind
theorem far3_low (a b c:NV):(farD (-1) [a,b,c] 3).toRat≤(nvl a).toRat∧(farD (-1) [a,b,c] 3).toRat≤(nvl b).toRat∧(farD (-1) [a,b,c] 3).toRat≤(nvl c).toRat∧(farD (-1) [a,b,c] 3=nvl a∨farD (-1) [a,b,c] 3=nvl b∨farD (-1) [a,b,c] 3=nvl c):=by
 have h:farD (-1) [a,b,c] 3=f2 (-1) (f2 (-1) (nvl a) (nvl b)) (nvl c):=rfl;rw [h];obtain ⟨h1,h2,h3⟩:=f2_low (nvl a) (nvl b);obtain ⟨h4,h5,h6⟩:=f2_low (f2 (-1) (nvl a) (nvl b)) (nvl c);refine ⟨by grind,by grind,h5,?_⟩
 rcases h6 with h6|h6
 ·rcases h3 with h3|h3
  ·exact .inl (h6.trans h3)
  ·exact .inr (.inl (h6.trans h3))
 ·exact .inr (.inr h6)
theorem far3_high (a b c:NV):(nvl a).toRat≤(farD 1 [a,b,c] 3).toRat∧(nvl b).toRat≤(farD 1 [a,b,c] 3).toRat∧(nvl c).toRat≤(farD 1 [a,b,c] 3).toRat∧(farD 1 [a,b,c] 3=nvl a∨farD 1 [a,b,c] 3=nvl b∨farD 1 [a,b,c] 3=nvl c):=by
 have h:farD 1 [a,b,c] 3=f2 1 (f2 1 (nvl a) (nvl b)) (nvl c):=rfl;rw [h];obtain ⟨h1,h2,h3⟩:=f2_high (nvl a) (nvl b);obtain ⟨h4,h5,h6⟩:=f2_high (f2 1 (nvl a) (nvl b)) (nvl c);refine ⟨by grind,by grind,h5,?_⟩
 rcases h6 with h6|h6
 ·rcases h3 with h3|h3
  ·exact .inl (h6.trans h3)
  ·exact .inr (.inl (h6.trans h3))
 ·exact .inr (.inr h6)
theorem nu_tuple {x:NV} {z:Bool} {o:ByteArray} {e:Int} (h:nu x.1 x.2.1 x.2.2=nu z o e):x=(z,o,e):=by
 obtain ⟨m,s,d⟩:=x;obtain ⟨h1,h2,h3⟩:=nu_inj h;simp only at h1 h2 h3;rw [h1,h2,h3]
theorem df_form {x:Dyadic} {z:Bool} {o:ByteArray} {e:Int} (h:df x=nu z o e):df (nv z o e)=nu z o e:=by rw [(df_parts h).2.2.1,h]
theorem order_facts {a b c:NV} {z3 z4 z9 z10 z11:Bool} {o3 o4 o9 o10 o11:ByteArray} {e3 e4 e9 e10 e11:Int} (k3:df (farD (-1) [a,b,c] 3)=nu z3 o3 e3) (k4:df (farD 1 [a,b,c] 3)=nu z4 o4 e4)
  (k9:df (nvl a)=nu z9 o9 e9) (k10:df (nvl b)=nu z10 o10 e10) (k11:df (nvl c)=nu z11 o11 e11) (L:List NV) (hL:L=[(z9,o9,e9),(z10,o10,e10),(z11,o11,e11)]) :
  (∀ x∈L,decide (0<dsg (nv z3 o3 e3-nvl x))=false∧decide (dsg (nv z4 o4 e4-nvl x)<0)=false)∧(z3,o3,e3)∈L∧(z4,o4,e4)∈L:=by
 subst hL;obtain ⟨l1,l2,l3,l4⟩:=far3_low a b c;obtain ⟨g1,g2,g3,g4⟩:=far3_high a b c;have v3:=(df_parts k3).2.2.1;have v4:=(df_parts k4).2.2.1;have v9:=(df_parts k9).2.2.1;have v10:=(df_parts k10).2.2.1;have v11:=(df_parts k11).2.2.1;refine ⟨?_,?_,?_⟩
 ·intro x hx;simp only [List.mem_cons,List.not_mem_nil,or_false] at hx
  rcases hx with rfl|rfl|rfl
  ·show decide (0<dsg (nv z3 o3 e3-nv z9 o9 e9))=false∧decide (dsg (nv z4 o4 e4-nv z9 o9 e9)<0)=false;rw [v3,v4,v9];exact ⟨le_of_dsg l1,ge_of_dsg g1⟩
  ·show decide (0<dsg (nv z3 o3 e3-nv z10 o10 e10))=false∧decide (dsg (nv z4 o4 e4-nv z10 o10 e10)<0)=false;rw [v3,v4,v10];exact ⟨le_of_dsg l2,ge_of_dsg g2⟩
  ·show decide (0<dsg (nv z3 o3 e3-nv z11 o11 e11))=false∧decide (dsg (nv z4 o4 e4-nv z11 o11 e11)<0)=false;rw [v3,v4,v11];exact ⟨le_of_dsg l3,ge_of_dsg g3⟩
 ·simp only [List.mem_cons,List.not_mem_nil,or_false]
  rcases l4 with h|h|h
  ·rw [h,k9] at k3;obtain ⟨h1,h2,h3⟩:=nu_inj k3;rw [h1,h2,h3];exact .inl rfl
  ·rw [h,k10] at k3;obtain ⟨h1,h2,h3⟩:=nu_inj k3;rw [h1,h2,h3];exact .inr (.inl rfl)
  ·rw [h,k11] at k3;obtain ⟨h1,h2,h3⟩:=nu_inj k3;rw [h1,h2,h3];exact .inr (.inr rfl)
 ·simp only [List.mem_cons,List.not_mem_nil,or_false]
  rcases g4 with h|h|h
  ·rw [h,k9] at k4;obtain ⟨h1,h2,h3⟩:=nu_inj k4;rw [h1,h2,h3];exact .inl rfl
  ·rw [h,k10] at k4;obtain ⟨h1,h2,h3⟩:=nu_inj k4;rw [h1,h2,h3];exact .inr (.inl rfl)
  ·rw [h,k11] at k4;obtain ⟨h1,h2,h3⟩:=nu_inj k4;rw [h1,h2,h3];exact .inr (.inr rfl)
end Go.Proofs.YtbijggomdpaknaaGreatDoor
