/- Decimal digits: plain facts. -/
import Derived.Lib.ItoaNum
namespace Go.Proofs.YtiddgplapodleaaGreatDoor
open Go.Lib
def dV (l:List UInt8):Nat:=l.foldl (fun v b=>v*10+(b.toNat-48)) 0
def isDig (b:UInt8):Bool:=decide (48≤b.toNat∧b.toNat≤57)
theorem dV_nil:dV []=0:=rfl
theorem dV_snoc (l:List UInt8) (b:UInt8):dV (l++[b])=dV l*10+(b.toNat-48):=by
 unfold dV;rw [List.foldl_append];rfl
theorem snoc_ind {p:List UInt8→Prop} (h0:p []) (hs:∀ l b,p l→p (l++[b])):∀ l,p l:=by
 intro l;have h:∀ r:List UInt8,p r.reverse:=by
  intro r
  induction r with
  | nil=>exact h0
  | cons b r ih=>rw [List.reverse_cons];exact hs _ _ ih
 have:=h l.reverse
 rwa [List.reverse_reverse] at this
theorem dV_append (l m:List UInt8):dV (l++m)=dV l*10 ^ m.length+dV m:=by
 induction m using snoc_ind with
 | h0=>simp [dV]
 | hs m b ih =>
  rw [← List.append_assoc,dV_snoc,ih,dV_snoc,List.length_append,List.length_singleton,Nat.pow_succ];rw [Nat.add_mul,Nat.mul_assoc,Nat.add_assoc]
theorem dig_toNat {k:Nat} (h:k<10):(UInt8.ofNat (48+k)).toNat=48+k:=by
 rw [UInt8.toNat_ofNat'];exact Nat.mod_eq_of_lt (by omega)
theorem dV_lt (l:List UInt8) (h:l.all isDig=true):dV l<10 ^ l.length:=by
 induction l using snoc_ind with
 | h0=>simp [dV]
 | hs l b ih =>
  rw [List.all_append,Bool.and_eq_true] at h;have h1:=ih h.1;have h2:isDig b=true:=by simpa using h.2
  have h3:48≤b.toNat∧b.toNat≤57:=by simpa [isDig] using h2
  rw [dV_snoc,List.length_append,List.length_singleton,Nat.pow_succ];omega
theorem head_app {l m:List UInt8} (h:l≠[]):(l++m).head?=l.head?:=by
 cases l with
 | nil=>exact absurd rfl h
 | cons b l=>rfl
theorem decDigits_small {u:Nat} (h:u<10):decDigits u=[UInt8.ofNat (48+u)]:=by rw [decDigits,dif_pos h]
theorem decDigits_big {u:Nat} (h:¬ u<10):decDigits u=decDigits (u / 10)++[UInt8.ofNat (48+u % 10)]:=by rw [decDigits,dif_neg h]
theorem dV_decDigits (u:Nat):dV (decDigits u)=u:=by
 induction u using Nat.strongRecOn with
 | _ u ih =>
  by_cases h:u<10
  ·rw [decDigits_small h];show (0*10+((UInt8.ofNat (48+u)).toNat-48))=u;rw [dig_toNat h];omega
  ·rw [decDigits_big h,dV_snoc,ih (u / 10) (by omega),dig_toNat (by omega)];omega
theorem decDigits_dig (u:Nat):(decDigits u).all isDig=true:=by
 induction u using Nat.strongRecOn with
 | _ u ih =>
  have hone:∀ k:Nat,k<10→isDig (UInt8.ofNat (48+k))=true:=fun k hk=>by unfold isDig;rw [dig_toNat hk];simp;omega
  by_cases h:u<10
  ·rw [decDigits_small h,List.all_cons,hone u h];rfl
  ·rw [decDigits_big h,List.all_append,ih (u / 10) (by omega),List.all_cons,hone (u % 10) (by omega)];rfl
theorem decDigits_ne (u:Nat):decDigits u≠[]:=by
 by_cases h:u<10
 ·rw [decDigits_small h];simp
 ·rw [decDigits_big h];simp
def plain (l:List UInt8):Prop:=l≠[]∧(l=[48]∨l.head?≠some 48)
theorem plain_decDigits (u:Nat):plain (decDigits u):=by
 refine ⟨decDigits_ne u,?_⟩
 induction u using Nat.strongRecOn with
 | _ u ih =>
  by_cases h:u<10
  ·rw [decDigits_small h]
   by_cases h0:u=0
   ·subst h0;left;rfl
   ·right
    intro e;have e2:UInt8.ofNat (48+u)=48:=by simpa using e
    have e3:=congrArg UInt8.toNat e2;rw [dig_toNat h] at e3
    have:(48:UInt8).toNat=48:=rfl
    omega
  ·right
   rw [decDigits_big h]
   rcases ih (u / 10) (by omega) with h1|h1
   ·have h2:=dV_decDigits (u / 10);rw [h1] at h2
    have:dV [48]=0:=rfl
    omega
   ·rw [head_app (decDigits_ne _)];exact h1
def decP:Nat→Nat→List UInt8
 | 0,_=>[]
 | k+1,u=>decP k (u / 10)++[UInt8.ofNat (48+u % 10)]
theorem decP_length:∀ k u,(decP k u).length=k
 | 0,_=>rfl
 | k+1,u=>by rw [decP,List.length_append,decP_length k];rfl
theorem decP_add (a:Nat):∀ b u,decP (a+b) u=decP a (u / 10 ^ b)++decP b u
 | 0,u=>by simp [decP]
 | b+1,u=>by
  rw [← Nat.add_assoc,decP,decP_add a b,decP,Nat.div_div_eq_div_mul,← List.append_assoc];rw [show 10*10 ^ b=10 ^ (b+1) by rw [Nat.pow_succ,Nat.mul_comm]]
theorem decP_mod:∀ k u,decP k (u % 10 ^ k)=decP k u
 | 0,_=>rfl
 | k+1,u=>by
  rw [decP,decP];have h1:u % 10 ^ (k+1) / 10=u / 10 % 10 ^ k:=by
   rw [Nat.pow_succ,Nat.mul_comm,Nat.mod_mul_right_div_self]
  have h2:u % 10 ^ (k+1) % 10=u % 10:=by
   rw [Nat.pow_succ];exact Nat.mod_mul_left_mod _ _ _
  rw [h1,h2,decP_mod k]
theorem decP_zero:∀ k,decP k 0=List.replicate k 48
 | 0=>rfl
 | k+1=>by rw [decP,Nat.zero_div,decP_zero k,List.replicate_succ'];rfl
theorem decP_pad (u:Nat) (hu:0<u):∀ k,u<10 ^ k→∃ j,decP k u=List.replicate j 48++decDigits u:=by
 intro k
 induction k generalizing u with
 | zero=>intro h;simp at h;omega
 | succ k ih =>
  intro h
  by_cases h10:u<10
  ·refine ⟨k,?_⟩;rw [decP,show u / 10=0 by omega,decP_zero,decDigits_small h10,show u % 10=u by omega]
  ·rw [Nat.pow_succ] at h;obtain ⟨j,hj⟩:=ih (u / 10) (by omega) (by omega);exact ⟨j,by rw [decP,hj,decDigits_big h10,List.append_assoc]⟩
theorem decDigits_full (k u:Nat) (h:u<10 ^ k):decDigits (10 ^ k+u)=49::decP k u:=by
 have hk:0<10 ^ k:=Nat.pow_pos (by omega);have hp:0<10 ^ k+u:=by omega
 have hn:nDigits (10 ^ k+u)=k+1:=nDigits_unique k _ (by omega) (by rw [Nat.pow_succ];omega);have hlen:=decDigits_length (10 ^ k+u);obtain ⟨j,hj⟩:=decP_pad (10 ^ k+u) hp (k+1) (by rw [Nat.pow_succ];omega);have hj2:=congrArg List.length hj;rw [decP_length,List.length_append,List.length_replicate,hlen,hn] at hj2;obtain rfl:j=0:=by omega
 rw [List.replicate_zero,List.nil_append] at hj;have hd:(10 ^ k+u) / 10 ^ k=1:=by
  rw [Nat.add_div_left _ hk,Nat.div_eq_of_lt h]
 have hm:(10 ^ k+u) % 10 ^ k=u:=by rw [Nat.add_mod_left,Nat.mod_eq_of_lt h]
 rw [← hj,Nat.add_comm k 1,decP_add 1 k,hd,← decP_mod k (10 ^ k+u),hm];rfl
end Go.Proofs.YtiddgplapodleaaGreatDoor
