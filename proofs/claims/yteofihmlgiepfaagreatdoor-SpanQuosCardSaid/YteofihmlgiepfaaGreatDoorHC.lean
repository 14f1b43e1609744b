/- Layer 1, laid together: SQuo, SQuo2. -/
import Derived.Test.YteofihmlgiepfaaGreatDoorYRat
import Derived.Test.YteofihmlgiepfaaGreatDoorYGrid0
/- Quotients between two numbers of a grid;no function is walked in this text. -/
namespace Go.Proofs.YteofihmlgiepfaaGreatDoor
open Go.RowKit Go.Shelf
theorem floor_quo {r:Rat} {A m:Int} (hm:0<m) (h:r*m=A):r.floor=A / m:=by
 have hm' : (0:Rat)<(m:Rat):=by exact_mod_cast hm
 have h1:A / m*m≤A:=Int.ediv_mul_le A (by omega);have h2:A<(A / m+1)*m:=by
  have:=Int.lt_ediv_add_one_mul_self A hm
  exact this
 generalize A / m=n at *;have h1' : (n:Rat)*m≤A:=by exact_mod_cast h1
 have h2' : (A:Rat)<(n+1)*m:=by exact_mod_cast h2
 have g1:n≤r.floor:=by
  rw [Rat.le_floor_iff];rw [← h] at h1';exact Rat.le_of_mul_le_mul_right h1' hm'
 have g2:r.floor<n+1:=by
  rw [Rat.floor_lt_iff];rw [← h] at h2'
  have:=Rat.lt_of_mul_lt_mul_right h2' (Rat.le_of_lt hm')
  rw [Rat.intCast_add];exact this
 omega
theorem ofI_toRat (n p:Int):(Dyadic.ofIntWithPrec n p).toRat=(n:Rat)*2 ^ (-p):=Dyadic.toRat_ofIntWithPrec_eq_mul_two_pow
def qlo (a b:Dyadic) (p:Int):Dyadic:=.ofIntWithPrec (a.toRat / b.toRat*2 ^ p).floor p
def qhi (a b:Dyadic) (p:Int):Dyadic:=-(qlo (-a) b p)
theorem zpow_cancel (p:Int):(2:Rat) ^ p*2 ^ (-p)=1:=by
 rw [← Rat.zpow_add (by decide)];rw [show p+-p=0 by omega];rfl
theorem neg_floor_neg (x:Rat):-((-x).floor)=if (x.floor:Rat)=x then x.floor else x.floor+1:=by
 have h1:(x.floor:Rat)≤x:=Rat.floor_le x;have h2:x-1<(x.floor:Rat):=Rat.lt_floor;generalize hk:(-x).floor=k;generalize x.floor=n at *
 split
 ·rename_i h
  have a1:-n≤k:=by rw [← hk,Rat.le_floor_iff,Rat.intCast_neg];grind
  have a2:k < -n+1:=by
   rw [← hk,Rat.floor_lt_iff,Rat.intCast_add,Rat.intCast_neg]
   have:((1:Int):Rat)=1:=rfl
   grind
  omega
 ·rename_i h
  have a1:-(n+1)≤k:=by
   rw [← hk,Rat.le_floor_iff,Rat.intCast_neg,Rat.intCast_add]
   have:((1:Int):Rat)=1:=rfl
   grind
  have a2:k < -n:=by
   rw [← hk,Rat.floor_lt_iff,Rat.intCast_neg]
   grind
  omega
theorem of_neg (n p:Int):-(Dyadic.ofIntWithPrec n p)=.ofIntWithPrec (-n) p:=by
 rw [← Dyadic.toRat_inj,Dyadic.toRat_neg,ofI_toRat,ofI_toRat,Rat.intCast_neg,Rat.neg_mul]
theorem neg_quo (a b:Dyadic) (p:Int):(-a).toRat / b.toRat*2 ^ p=-(a.toRat / b.toRat*2 ^ p):=by
 rw [Dyadic.toRat_neg,Rat.div_def,Rat.div_def,Rat.neg_mul,Rat.neg_mul]
theorem grid_eq {n:Int} {r:Rat} {p:Int}:(n:Rat)*2 ^ (-p)=r↔(n:Rat)=r*2 ^ p:=by
 have h:=zpow_cancel p
 constructor
 ·intro e;rw [← e,Rat.mul_assoc,Rat.mul_comm (2 ^ (-p)),h,Rat.mul_one]
 ·intro e;rw [e,Rat.mul_assoc,h,Rat.mul_one]
theorem qhi_same {a b:Dyadic} {p:Int} (h:(qlo a b p).toRat=a.toRat / b.toRat):qhi a b p=qlo a b p:=by
 unfold qhi qlo at *;rw [ofI_toRat,grid_eq] at h;rw [neg_quo,of_neg,neg_floor_neg,if_pos h]
theorem qhi_next {a b:Dyadic} {p:Int} (h:(qlo a b p).toRat≠a.toRat / b.toRat):qhi a b p=.ofIntWithPrec ((a.toRat / b.toRat*2 ^ p).floor+1) p∧(qhi a b p).toRat=(qlo a b p).toRat+2 ^ (-p):=by
 have h1:qhi a b p=.ofIntWithPrec ((a.toRat / b.toRat*2 ^ p).floor+1) p:=by
  unfold qhi qlo at *;rw [Ne,ofI_toRat,grid_eq] at h;rw [neg_quo,of_neg,neg_floor_neg,if_neg h]
 refine ⟨h1,?_⟩;rw [h1];unfold qlo;rw [ofI_toRat,ofI_toRat,Rat.intCast_add,Rat.add_mul];rw [show ((1:Int):Rat)=1 from rfl,Rat.one_mul]
theorem two_pow_rat (k:Nat):(((2 ^ k:Nat):Int):Rat)=(2:Rat) ^ (k:Int):=by
 rw [Rat.zpow_natCast,Rat.intCast_natCast,Rat.natCast_pow];rfl
theorem rd_floor (x:Dyadic) (p:Int):x.roundDown p=.ofIntWithPrec (x.toRat*2 ^ p).floor p:=by
 obtain ⟨m,s,e,hd⟩:=df_some x;have hx:=(df_parts hd).2.2.1;rw [← hx]
 rcases Int.lt_or_le (e+p) 0 with h|h
 ·obtain ⟨k,hk⟩:∃ k:Nat,e+p=-(k:Int):=⟨(-(e+p)).toNat,by omega⟩;rw [floor_nv k hk]
  congr 1
  refine (floor_quo (Int.ofNat_lt.2 (Nat.two_pow_pos k)) ?_).symm;rw [nv_toRat,two_pow_rat,Rat.mul_assoc,Rat.mul_assoc,← Rat.zpow_add (by decide),← Rat.zpow_add (by decide),show e+(p+(k:Int))=0 by omega,Rat.zpow_zero,Rat.mul_one]
 ·obtain ⟨k,hk⟩:∃ k:Nat,e+p=(k:Int):=⟨(e+p).toNat,by omega⟩;rw [floor_self h];have h1:(nv m s e).toRat*2 ^ p=((wv m s*((2 ^ k:Nat):Int):Int):Rat):=by
   rw [nv_toRat,Rat.mul_assoc,← Rat.zpow_add (by decide),hk,Rat.intCast_mul,two_pow_rat]
  rw [h1,Rat.floor_intCast,← Dyadic.toRat_inj,ofI_toRat,← h1,Rat.mul_assoc,zpow_cancel,Rat.mul_one]
theorem neg_quo_int (A N:Int) (hN:0<N):(-A) / N=-(A / N+if A % N=0 then 0 else 1):=by
 have h1:=Int.emod_add_mul_ediv A N;have h2:=Int.emod_nonneg A (show N≠0 by omega);have h3:=Int.emod_lt_of_pos A hN;generalize A % N=r at *;generalize A / N=q at *;subst h1
 split
 ·rename_i h
  subst h;rw [Int.zero_add,Int.add_zero,← Int.mul_neg,Int.mul_ediv_cancel_left _ (by omega)]
 ·rename_i h
  have e:-(r+N*q)=(N-r)+N*(-(q+1)):=by grind
  rw [e,Int.add_mul_ediv_left _ _ (by omega),Int.ediv_eq_zero_of_lt (by omega) (by omega),Int.zero_add]
theorem quo_down {a b:Dyadic} {M N E p:Int} {k:Nat} (hN:0<N) (hr:a.toRat / b.toRat*(N:Rat)=(M:Rat)*2 ^ E) (hk:(k:Int)=max (E+p) 0) :
  (Dyadic.ofIntWithPrec (M*((2 ^ k:Nat):Int) / N) (k-E)).roundDown p=qlo a b p:=by
 rw [rd_floor];unfold qlo
 congr 1
 rw [ofI_toRat,Rat.mul_assoc,← Rat.zpow_add (by decide)];have hz:(2:Rat)≠0:=by decide
 rcases Int.lt_or_le (E+p) 0 with h|h
 ·have hk0:k=0:=by omega
  subst hk0;obtain ⟨j,hj⟩:∃ j:Nat,E+p=-(j:Int):=⟨(-(E+p)).toNat,by omega⟩;have hj0:(0:Int)<((2 ^ j:Nat):Int):=Int.ofNat_lt.2 (Nat.two_pow_pos j);rw [show M*((2 ^ 0:Nat):Int)=M by simp,show -(((0:Nat):Int)-E)+p=-(j:Int) by omega];rw [floor_quo (A:=M / N) hj0 (by rw [two_pow_rat,Rat.mul_assoc,← Rat.zpow_add hz,show -(j:Int)+(j:Int)=0 by omega,Rat.zpow_zero,Rat.mul_one])];rw [Int.ediv_ediv_of_nonneg (by omega)];refine (floor_quo (Int.mul_pos hN hj0) ?_).symm;rw [Rat.intCast_mul,two_pow_rat];have h1:a.toRat / b.toRat*2 ^ p*((N:Rat)*2 ^ (j:Int))=a.toRat / b.toRat*(N:Rat)*(2 ^ p*2 ^ (j:Int)):=by grind
  rw [h1,hr,Rat.mul_assoc,← Rat.zpow_add hz,← Rat.zpow_add hz,show E+(p+(j:Int))=0 by omega,Rat.zpow_zero,Rat.mul_one]
 ·have hk0:(k:Int)=E+p:=by omega
  rw [show -((k:Int)-E)+p=0 by omega,Rat.zpow_zero,Rat.mul_one,Rat.floor_intCast];refine (floor_quo hN ?_).symm;have h1:a.toRat / b.toRat*2 ^ p*(N:Rat)=a.toRat / b.toRat*(N:Rat)*2 ^ p:=by grind
  rw [h1,hr,Rat.mul_assoc,← Rat.zpow_add hz,Rat.intCast_mul,two_pow_rat,hk0]
theorem quo_up {a b:Dyadic} {M N E p:Int} {k:Nat} (hN:0<N) (hr:a.toRat / b.toRat*(N:Rat)=(M:Rat)*2 ^ E) (hk:(k:Int)=max (E+p) 0) :
  ceilD (.ofIntWithPrec (M*((2 ^ k:Nat):Int) / N+if M*((2 ^ k:Nat):Int) % N=0 then 0 else 1) (k-E)) p=qhi a b p:=by
 unfold ceilD qhi;rw [of_neg,← neg_quo_int _ _ hN,← Int.neg_mul]
 congr 1
 refine quo_down hN ?_ hk;rw [Dyadic.toRat_neg,Rat.div_def,Rat.neg_mul,← Rat.div_def,Rat.neg_mul,hr,Rat.intCast_neg,Rat.neg_mul]
end Go.Proofs.YteofihmlgiepfaaGreatDoor
