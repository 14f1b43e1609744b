/- What SpanTight says, of dyadic numbers; no function is walked in this text. -/
import Derived.Test.YthggjlkeadjhcaaGreatDoorSQuo2
import Derived.Test.YthggjlkeadjhcaaGreatDoorS4
namespace Go.Proofs.YthggjlkeadjhcaaGreatDoor
open Go.RowKit Go.Shelf
theorem half_rat (x:Dyadic):(dhalf x).toRat*2=x.toRat:=by
 unfold dhalf;rw [Dyadic.toRat_mul,ofI_toRat,Rat.mul_assoc,Rat.mul_assoc];have h:(2:Rat) ^ (-(1:Int))*2=1:=by decide +kernel
 rw [h];simp
theorem width_abs (x y:Dyadic):(dabs (y-x)).toRat=(dhi x y).toRat-(dlo x y).toRat:=by
 unfold dabs dhi dlo
 by_cases h:0<dsg (x-y)
 ·rw [if_pos h,if_pos h];rw [dsg_sub_pos] at h;have h2:dsg (y-x)<0:=by rw [dsg_sub_neg];exact h
  rw [if_pos h2,Dyadic.toRat_neg,Dyadic.toRat_sub]
  grind
 ·rw [if_neg h,if_neg h];rw [dsg_sub_pos] at h;have h2:¬dsg (y-x)<0:=by rw [dsg_sub_neg];exact h
  rw [if_neg h2,Dyadic.toRat_sub]
theorem ends_sum (x y:Dyadic):(dlo x y).toRat+(dhi x y).toRat=x.toRat+y.toRat:=by
 unfold dhi dlo
 by_cases h:0<dsg (x-y)
 ·rw [if_pos h,if_pos h];grind
 ·rw [if_neg h,if_neg h]
theorem tight_mid (x y:Dyadic):(dhalf (x+y)-dlo x y)+(dhi x y-dhalf (x+y))=dabs (y-x):=by
 rw [← Dyadic.toRat_inj,width_abs,Dyadic.toRat_add,Dyadic.toRat_sub,Dyadic.toRat_sub]
 grind
theorem tight_half (x y:Dyadic):dhalf (x+y)-dlo x y=dhalf (dabs (y-x)):=by
 have h1:=half_rat (x+y);have h2:=half_rat (dabs (y-x));have h3:=ends_sum x y;have h4:=width_abs x y;rw [← Dyadic.toRat_inj,Dyadic.toRat_sub];rw [Dyadic.toRat_add] at h1
 grind
theorem dsg_three (x:Dyadic):-1≤dsg x∧dsg x≤1:=sg_three _
theorem tight_sign {q a b:Dyadic} {r:Rat} (hr:r*b.toRat=a.toRat) (hb:b.toRat≠0) :
  (q.toRat<r→dsg (q*b-a)*dsg b=-1)∧(q.toRat=r→dsg (q*b-a)*dsg b=0)∧(r<q.toRat→dsg (q*b-a)*dsg b=1):=by
 have e:(q*b).toRat=q.toRat*b.toRat:=Dyadic.toRat_mul _ _;have t1:=dsg_three (q*b-a);have t2:=dsg_three b;have p1:=dsg_sub_pos (x:=q*b) (y:=a);have p2:=dsg_sub_neg (x:=q*b) (y:=a);have p3:=dsg_pos (x:=b);have p4:=dsg_neg' (x:=b);rw [e] at p1 p2;have hcase:0<b.toRat∨b.toRat<0:=by grind
 rcases hcase with hpos|hneg
 ·have d2:dsg b=1:=by have:=p3.2 hpos;omega
  rw [d2];refine ⟨fun h=>?_,fun h=>?_,fun h=>?_⟩
  ·have h1:q.toRat*b.toRat<a.toRat:=by rw [← hr];exact Rat.mul_lt_mul_of_pos_right h hpos
   have:=p2.2 h1
   omega
  ·have h1:q.toRat*b.toRat=a.toRat:=by rw [h,hr]
   have n1:¬0<dsg (q*b-a):=by rw [p1,h1];grind
   have n2:¬dsg (q*b-a)<0:=by rw [p2,h1];grind
   omega
  ·have h1:a.toRat<q.toRat*b.toRat:=by rw [← hr];exact Rat.mul_lt_mul_of_pos_right h hpos
   have:=p1.2 h1
   omega
 ·have d2:dsg b=-1:=by have:=p4.2 hneg;omega
  rw [d2];have hn:0 < -b.toRat:=by grind
  refine ⟨fun h=>?_,fun h=>?_,fun h=>?_⟩
  ·have h1:a.toRat<q.toRat*b.toRat:=by
    have:=Rat.mul_lt_mul_of_pos_right h hn
    rw [← hr];grind
   have:=p1.2 h1
   omega
  ·have h1:q.toRat*b.toRat=a.toRat:=by rw [h,hr]
   have n1:¬0<dsg (q*b-a):=by rw [p1,h1];grind
   have n2:¬dsg (q*b-a)<0:=by rw [p2,h1];grind
   omega
  ·have h1:q.toRat*b.toRat<a.toRat:=by
    have:=Rat.mul_lt_mul_of_pos_right h hn
    rw [← hr];grind
   have:=p2.2 h1
   omega
theorem tight_quo {a b:Dyadic} (p:Int) (hb:b.toRat≠0) :
  (qhi a b p=qlo a b p∧dsg (qlo a b p*b-a)*dsg b=0∧dsg (qhi a b p*b-a)*dsg b=0) ∨
  (qlo a b p≠qhi a b p∧dsg (qlo a b p*b-a)*dsg b=-1∧dsg (qhi a b p*b-a)*dsg b=1∧qhi a b p-qlo a b p=.ofIntWithPrec 1 p):=by
 have hr:a.toRat / b.toRat*b.toRat=a.toRat:=Rat.div_mul_cancel hb;have h1:=qlo_le a b p
 by_cases h:(qlo a b p).toRat=a.toRat / b.toRat
 ·have h2:=qhi_same h;have h3:=(tight_sign (q:=qlo a b p) hr hb).2.1 h;exact .inl ⟨h2,h3,by rw [h2];exact h3⟩
 ·obtain ⟨_,h2⟩:=qhi_next h;have h3:=qlo_lt a b p;have h4:=two_zpow_pos (-p);refine .inr ⟨?_,(tight_sign hr hb).1 (by grind),(tight_sign hr hb).2.2 (by rw [h2];exact h3),?_⟩
  ·intro h5;rw [← h5] at h2
   grind
  ·rw [← Dyadic.toRat_inj,Dyadic.toRat_sub,h2,ofI_toRat];rw [show ((1:Int):Rat)=1 from rfl]
   grind
end Go.Proofs.YthggjlkeadjhcaaGreatDoor
