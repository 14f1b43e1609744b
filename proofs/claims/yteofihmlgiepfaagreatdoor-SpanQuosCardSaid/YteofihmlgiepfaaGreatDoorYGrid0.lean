/- Numbers between their Floor and their Ceil; no function is walked in this text. -/
import Derived.Test.YteofihmlgiepfaaGreatDoorYBnd
namespace Go.Proofs.YteofihmlgiepfaaGreatDoor
open Go.RowKit Go.Shelf
def ceilD (x:Dyadic) (p:Int):Dyadic:=-((-x).roundDown p)
theorem df_neg {x:Dyadic} {m:Bool} {s:ByteArray} {e c:Int} (h:df x=nu m s e) (hc:sg (wv m s)=c):df (-x)=nu (decide (0<c)) s e:=by
 obtain ⟨h1,h2,h3,h4⟩:=df_parts h;have h5:=(nu_inj h).2.1;subst hc
 cases x with
 | zero =>
  obtain ⟨rfl,rfl,rfl⟩:=nu_inj (show nu false ⟨#[]⟩ 0=nu m s e from h);rfl
 | ofOdd n k hn =>
  have e1:dm (Dyadic.ofOdd n k hn)=n:=rfl;rw [e1] at h1;have hneg:-(Dyadic.ofOdd n k hn)=Dyadic.ofOdd (-n) k (by omega):=rfl;rw [hneg];unfold df;have e2:dm (Dyadic.ofOdd (-n) k (by omega))=-n:=rfl;have e3:de (Dyadic.ofOdd (-n) k (by omega))=de (Dyadic.ofOdd n k hn):=rfl;rw [e2,e3,Int.natAbs_neg,h1,← h2];have h6:fb n.natAbs=s:=h5;rw [h6];unfold nu
  congr 2
  have h7:decide (-n<0)=decide (0<sg n):=by
   rcases sg_cases n with ⟨h8,h9⟩|⟨h8,h9⟩|⟨h8,h9⟩
   ·omega
   ·rw [decide_eq_false (by omega),decide_eq_false (by omega)]
   ·rw [decide_eq_true (by omega),decide_eq_true (by omega)]
  rw [h7]
theorem neg_of (z p:Int):-(Dyadic.ofIntWithPrec z p)=.ofIntWithPrec (-z) p:=by
 rw [← Dyadic.toRat_inj,Dyadic.toRat_neg,Dyadic.toRat_ofIntWithPrec_eq_mul_two_pow,Dyadic.toRat_ofIntWithPrec_eq_mul_two_pow,Rat.intCast_neg]
 grind
theorem neg_ediv {X:Int} {k:Nat} (hr:X % ((2 ^ k:Nat):Int)≠0):-(-X / ((2 ^ k:Nat):Int))=X / ((2 ^ k:Nat):Int)+1:=by
 have hp:(0:Int)<((2 ^ k:Nat):Int):=Int.ofNat_lt.2 (Nat.two_pow_pos k);generalize ((2 ^ k:Nat):Int)=P at *;have h1:=Int.emod_add_mul_ediv X P;have h2:=Int.emod_nonneg X (Int.ne_of_gt hp);have h3:=Int.emod_lt_of_pos X hp;have h4:-X / P=-(X / P)-1:=by
  rw [Int.ediv_eq_iff_of_pos hp]
  constructor
  ·rw [Int.sub_mul,Int.neg_mul,Int.one_mul,Int.mul_comm (X / P) P];omega
  ·rw [Int.sub_mul,Int.neg_mul,Int.one_mul,Int.mul_comm (X / P) P];omega
 omega
theorem use_yceil {w:World} {m:Bool} {s:ByteArray} {e p:Int} (hs:s.size≤100000) (he:-1000000≤e∧e≤1000000) (hp:-1000000≤p∧p≤1000000) {z:Bool} {o:ByteArray} {e2:Int} (hd:df (ceilD (nv m s e) p)=nu z o e2) :
  Calls Tryz.prog 87 #[nu m s e,.int .i64 p] w (Ret (.agg #[.bool z,.string o,.int .i64 e2]) w):=by
 obtain ⟨m1,s1,e1,h1⟩:=df_some ((nv (!m) s e).roundDown p);have h2:=df_neg h1 rfl;have h3:ceilD (nv m s e) p=-((nv (!m) s e).roundDown p):=by unfold ceilD;rw [nv_neg]
 rw [h3,h2] at hd;obtain ⟨rfl,rfl,rfl⟩:=nu_inj hd;exact yceil_any w m s e p hs he hp m1 s1 e1 h1 _ rfl
theorem of_inj {a b p:Int} (h:Dyadic.ofIntWithPrec a p=.ofIntWithPrec b p):a=b:=by
 have h1:dsg (.ofIntWithPrec a p - .ofIntWithPrec b p)=0:=by rw [h,of_sub,Int.sub_self];rfl
 rw [of_sub,dsg_of] at h1
 rcases sg_cases (a-b) with ⟨h2,_⟩|⟨_,h3⟩|⟨_,h3⟩ <;> omega
theorem coarse {Y p e:Int} {k:Nat} (hk:e+p=-(k:Int)):Dyadic.ofIntWithPrec Y p=.ofIntWithPrec (Y*((2 ^ k:Nat):Int)) (-e):=by
 have h:=nv_at (m:=decide (Y<0)) (s:=fb Y.natAbs) (d:=-p) (E:=e) (by omega);have hw:wv (decide (Y<0)) (fb Y.natAbs)=Y:=by
  rw [sI_fb];unfold sI
  by_cases hn:Y<0
  ·rw [decide_eq_true hn];simp;omega
  ·rw [decide_eq_false hn];simp;omega
 unfold nv at h;rw [hw,Int.neg_neg,show (-p-e).toNat=k by omega] at h;exact h
theorem grid_cases (m:Bool) (s:ByteArray) (e p:Int) :
  ((nv m s e).roundDown p=nv m s e∧ceilD (nv m s e) p=nv m s e∧∃ Y:Int,nv m s e=.ofIntWithPrec Y p) ∨
  (∃ q:Int,(nv m s e).roundDown p=.ofIntWithPrec q p∧ceilD (nv m s e) p=.ofIntWithPrec (q+1) p∧dsg (.ofIntWithPrec q p-nv m s e)≤0∧dsg (nv m s e - .ofIntWithPrec (q+1) p)≤0∧∀ Y:Int,nv m s e≠.ofIntWithPrec Y p):=by
 have hneg:-nv m s e=nv (!m) s e:=nv_neg _ _ _
 by_cases h:0≤e+p
 ·left
  refine ⟨floor_self h,?_,wv m s*((2 ^ (e - -p).toNat:Nat):Int),?_⟩
  ·unfold ceilD;rw [hneg,floor_self h,nv_neg,Bool.not_not]
  ·rw [nv_at (show -p≤e by omega),Int.neg_neg]
 ·obtain ⟨k,hk⟩:∃ k:Nat,e+p=-(k:Int):=⟨(-(e+p)).toNat,by omega⟩;have hp:(0:Int)<((2 ^ k:Nat):Int):=Int.ofNat_lt.2 (Nat.two_pow_pos k);have hw:wv (!m) s=-wv m s:=by cases m <;> simp [wv]
  have hfl:=floor_nv (m:=m) (s:=s) k hk;have hcl:ceilD (nv m s e) p=.ofIntWithPrec (-(-wv m s / ((2 ^ k:Nat):Int))) p:=by
   unfold ceilD;rw [hneg,floor_nv k hk,hw,neg_of]
  by_cases hr:wv m s % ((2 ^ k:Nat):Int)=0
  ·left
   have hq:=Int.emod_add_mul_ediv (wv m s) ((2 ^ k:Nat):Int);rw [hr,Int.zero_add] at hq;have hx:nv m s e=.ofIntWithPrec (wv m s / ((2 ^ k:Nat):Int)) p:=by
    rw [coarse hk,Int.mul_comm,hq];rfl
   have hq2:-(-wv m s / ((2 ^ k:Nat):Int))=wv m s / ((2 ^ k:Nat):Int):=by
    rw [Int.neg_ediv_of_dvd (Int.dvd_of_emod_eq_zero hr),Int.neg_neg]
   exact ⟨by rw [hfl,← hx],by rw [hcl,hq2,← hx],_,hx⟩
  ·right
   have h1:=Int.emod_add_mul_ediv (wv m s) ((2 ^ k:Nat):Int);have h2:=Int.emod_nonneg (wv m s) (Int.ne_of_gt hp);have h3:=Int.emod_lt_of_pos (wv m s) hp;refine ⟨wv m s / ((2 ^ k:Nat):Int),hfl,by rw [hcl,neg_ediv hr],?_,?_,?_⟩
   ·rw [coarse hk];unfold nv;rw [of_sub,dsg_of,Int.mul_comm];generalize ((2 ^ k:Nat):Int)*(wv m s / ((2 ^ k:Nat):Int))=t at *
    rcases sg_cases (t-wv m s) with ⟨_,h5⟩|⟨_,h5⟩|⟨h4,h5⟩ <;> omega
   ·rw [coarse hk];unfold nv;rw [of_sub,dsg_of,Int.add_mul,Int.one_mul,Int.mul_comm (_ / _)];generalize ((2 ^ k:Nat):Int)*(wv m s / ((2 ^ k:Nat):Int))=t at *;generalize ((2 ^ k:Nat):Int)=P at *
    rcases sg_cases (wv m s-(t+P)) with ⟨_,h5⟩|⟨_,h5⟩|⟨h4,h5⟩ <;> omega
   ·intro Y hY;rw [coarse hk] at hY
    have:=of_inj hY
    rw [this,Int.mul_emod_left] at hr;exact hr rfl
theorem floor_bnd {m:Bool} {s:ByteArray} {e p:Int} (hbd:s.size≤150∧-500≤e∧e≤500) (hp:-1000≤p∧p≤1000):Bnd ((nv m s e).roundDown p) 400 1000:=by
 by_cases h:0≤e+p
 ·rw [floor_self h];exact (Bnd.of (B:=150) (K:=188) 1000 hbd.1 (by omega) (by omega)).mono (by omega)
 ·obtain ⟨k,hk⟩:∃ k:Nat,e+p=-(k:Int):=⟨(-(e+p)).toNat,by omega⟩;rw [floor_nv k hk];have hq:(wv m s / ((2 ^ k:Nat):Int)).natAbs<256 ^ 150:=by
   have h1:(wv m s / ((2 ^ k:Nat):Int)).natAbs≤(wv m s).natAbs:=Int.natAbs_ediv_le_natAbs _ _;have h2:=wv_abs m s;have h3:num s<256 ^ 150:=lt_size hbd.1;obtain ⟨q,hq⟩:∃ q,q=256 ^ 150:=⟨_,rfl⟩;rw [← hq] at h3 ⊢;omega
  obtain ⟨z,o,ez,vz,sz⟩:=nmw hq;have h4:nv z o (-p)=.ofIntWithPrec (wv m s / ((2 ^ k:Nat):Int)) p:=by rw [nv_of _ ez,Int.neg_neg]
  rw [← h4];exact (Bnd.of (B:=150) (K:=250) 1000 sz (by omega) (by omega)).mono (by omega)
theorem floor_ok {m:Bool} {s:ByteArray} {e p:Int} (hbd:s.size≤150∧-500≤e∧e≤500) (hp:-1000≤p∧p≤1000) {z:Bool} {o:ByteArray} {e1:Int} (h:df ((nv m s e).roundDown p)=nu z o e1):Ok3 o e1:=
 (floor_bnd hbd hp).ok (by omega) (by omega) h
theorem add_neg_self {x:Dyadic}:x+-x=0:=by
 rw [← Dyadic.toRat_inj,Dyadic.toRat_add,Dyadic.toRat_neg,Dyadic.toRat_zero]
 grind
theorem sub_self' {x:Dyadic}:x-x=0:=by
 rw [dy_sub,add_neg_self]
theorem step_of (q p:Int):Dyadic.ofIntWithPrec (q+1) p - .ofIntWithPrec q p=nv false ⟨#[1]⟩ (-p):=by
 rw [of_sub];unfold nv;rw [Int.neg_neg,show q+1-q=1 by omega];rfl
theorem dsg_zero {x y:Dyadic} (h:dsg (x-y)=0):y=x:=by
 have h1:x-y=0:=by
  obtain ⟨m,s,e,k⟩:=df_some (x-y);have h2:=dsg_form k;rw [h] at h2;have h3:num s=0:=by
   have:=wv_abs m s
   rcases sg_cases (wv m s) with ⟨h4,_⟩|⟨_,h4⟩|⟨_,h4⟩ <;> omega
  rw [← form_nv k,nv_nought h3]
 rw [← Dyadic.toRat_inj] at h1 ⊢;rw [Dyadic.toRat_sub,Dyadic.toRat_zero] at h1
 grind
end Go.Proofs.YteofihmlgiepfaaGreatDoor
