/- Texts that are spoilt nowhere: a sign, and plain digits. -/
import Derived.Test.YtiddgplapodleaaGreatDoorDSpoil
namespace Go.Proofs.YtiddgplapodleaaGreatDoor
open Go.RowKit Go.Shelf Go.Lib
theorem badPlace_le (l:List UInt8):badPlace l≤l.length:=by
 unfold badPlace
 cases h:(List.range l.length).find? (badAt l) with
 | none=>exact Nat.le_refl _
 | some i =>
  have:=List.mem_of_find?_eq_some h
  have:=List.mem_range.1 this
  show i≤l.length;omega
theorem not_bad {l:List UInt8} (h:isBad l=false):(∀ j,j<l.length→badAt l j=false)∧l.length≠fst_ l:=by
 unfold isBad at h;rw [Bool.or_eq_false_iff,decide_eq_false_iff_not,decide_eq_false_iff_not] at h;refine ⟨fun j hj=>?_,h.2⟩;unfold badPlace at h
 cases e:(List.range l.length).find? (badAt l) with
 | none =>
  rw [List.find?_eq_none] at e;simpa using e j (List.mem_range.2 hj)
 | some i =>
  have:=List.mem_range.1 (List.mem_of_find?_eq_some e)
  rw [e] at h;exact absurd this h.1
theorem isBad_of {l:List UInt8} (h:∀ j,j<l.length→badAt l j=false) (h2:l.length≠fst_ l):isBad l=false:=by
 unfold isBad;rw [badPlace_none h];simp [h2]
def bodyOf (l:List UInt8):List UInt8:=l.drop (fst_ l)
theorem good_text {l:List UInt8} (h:isBad l=false):(bodyOf l).all isDig=true∧plain (bodyOf l)∧(fst_ l=1→(bodyOf l).head?≠some 48):=by
 obtain ⟨hb,hne⟩:=not_bad h;have hlt:fst_ l<l.length:=by
  have h1:=fst_le l
  by_cases h0:l=[]
  ·subst h0;exact absurd rfl hne
  ·have:0<l.length:=List.length_pos_iff.2 h0
   omega
 have hdig:∀ j (hj:j<l.length),fst_ l≤j→isDig l[j]=true∧¬ (l[j]=48∧j=fst_ l∧fst_ l=1)∧¬ (j=fst_ l+1∧l[fst_ l]?=some 48):=by
  intro j hj hf;have h1:=hb j hj;rw [badAt_get hj] at h1;have h45:(l[j] == 45 && j == 0)=false:=by
   cases j with
   | zero =>
    have hf0:fst_ l=0:=by omega
    have:¬ l[0]=45:=by
     intro e;unfold fst_ at hf0;rw [if_pos (by rw [List.head?_eq_getElem?,List.getElem?_eq_getElem hj,e])] at hf0;omega
    simpa using this
   | succ j=>simp
  rw [h45] at h1;simp only [Bool.not_false,Bool.true_and,Bool.or_eq_false_iff,Bool.not_eq_false',Bool.and_eq_false_iff,beq_eq_false_iff_ne] at h1;obtain ⟨⟨h2,h3⟩,h4⟩:=h1;refine ⟨h2,fun ⟨a,b,c⟩=>?_,fun ⟨a,b⟩=>?_⟩
  ·rcases h3 with (h3|h3)|h3
   ·exact h3 a
   ·exact h3 b
   ·exact h3 c
  ·rcases h4 with h4|h4
   ·exact h4 a
   ·exact h4 b
 refine ⟨?_,⟨?_,?_⟩,?_⟩
 ·rw [List.all_eq_true];intro b hbm;obtain ⟨i,hi,rfl⟩:=List.getElem_of_mem hbm;unfold bodyOf at hi ⊢;rw [List.getElem_drop];rw [List.length_drop] at hi;exact (hdig _ (by omega) (by omega)).1
 ·intro e
  have:=congrArg List.length e
  unfold bodyOf at this;rw [List.length_drop] at this;simp at this;omega
 ·by_cases h48:l[fst_ l]?=some 48
  ·left
   have hlen:l.length=fst_ l+1:=by
    rcases Nat.lt_or_ge (fst_ l+1) l.length with h1|h1
    ·exact absurd ⟨rfl,h48⟩ (hdig (fst_ l+1) h1 (by omega)).2.2
    ·omega
   unfold bodyOf;rw [List.getElem?_eq_getElem hlt] at h48;have e48:l[fst_ l]=48:=by simpa using h48
   rw [List.drop_eq_getElem_cons hlt,e48,List.drop_eq_nil_of_le (by omega)]
  ·right
   unfold bodyOf;rw [List.head?_drop];exact h48
 ·intro hf;unfold bodyOf;rw [List.head?_drop,List.getElem?_eq_getElem hlt];intro e;exact (hdig _ hlt (Nat.le_refl _)).2.1 ⟨by simpa using e,rfl,hf⟩
def tV (l:List UInt8):Int:=if fst_ l=1 then -(dV (bodyOf l):Int) else dV (bodyOf l)
theorem dec_head (u:Nat):(decDigits u).head?≠some 45:=by
 have hd:=decDigits_dig u
 cases h:decDigits u with
 | nil=>simp
 | cons b l =>
  rw [h,List.all_cons,Bool.and_eq_true] at hd;intro e;simp at e;rw [e] at hd;exact absurd hd.1 (by decide)
theorem itoa_good (z:Int):isBad (itoa z)=false∧tV (itoa z)=z:=by
 obtain ⟨f,hf⟩:∃ f,fst_ (itoa z)=f:=⟨_,rfl⟩;have key:∀ (u:Nat) (l:List UInt8) (f:Nat),(f=0∧l=decDigits u∨f=1∧0<u∧l=45::decDigits u)→fst_ l=f∧bodyOf l=decDigits u∧isBad l=false:=by
  intro u l f h;have hdd:=decDigits_dig u;rw [List.all_eq_true] at hdd;have hfl:fst_ l=f:=by
   rcases h with ⟨rfl,rfl⟩|⟨rfl,_,rfl⟩
   ·unfold fst_;rw [if_neg (dec_head u)]
   ·rfl
  have hbo:bodyOf l=decDigits u:=by
   unfold bodyOf;rw [hfl]
   rcases h with ⟨rfl,rfl⟩|⟨rfl,_,rfl⟩ <;> rfl
  have hne:=decDigits_ne u;have hlen:l.length=f+(decDigits u).length:=by
   rcases h with ⟨rfl,rfl⟩|⟨rfl,_,rfl⟩
   ·omega
   ·rw [List.length_cons];omega
  have hpos:0<(decDigits u).length:=List.length_pos_iff.2 hne;refine ⟨hfl,hbo,isBad_of (fun j hj=>?_) (by omega)⟩;rw [badAt_get hj,hfl]
  rcases Nat.lt_or_ge j f with hjf|hjf
  ·rcases h with ⟨rfl,rfl⟩|⟨rfl,_,rfl⟩
   ·omega
   ·obtain rfl:j=0:=by omega
    rfl
  ·have hget:l[j]=(decDigits u)[j-f]'(by omega):=by
    have e:=congrArg (fun t=>t[j-f]?) hbo;simp only [bodyOf,hfl] at e;rw [List.getElem?_drop,show f+(j-f)=j by omega,List.getElem?_eq_getElem hj,List.getElem?_eq_getElem (by omega)] at e;simpa using e
   have h1:isDig l[j]=true:=by rw [hget];exact hdd _ (List.getElem_mem _)
   have hpl:=(plain_decDigits u).2;have hlf:l[f]?=(decDigits u).head?:=by
    have e:=congrArg List.head? hbo;simp only [bodyOf,hfl] at e;rw [List.head?_drop] at e;exact e
   have h2:(l[j] == 48 && j == f && f == 1)=false:=by
    rcases h with ⟨rfl,rfl⟩|⟨rfl,hu,rfl⟩
    ·simp
    ·rw [Bool.and_eq_false_iff]
     left
     rw [Bool.and_eq_false_iff]
     by_cases hj1:j=1
     ·left
      subst hj1;rw [beq_eq_false_iff_ne];intro e
      rcases hpl with h48|h48
      ·have:=dV_decDigits u
       rw [h48] at this;have h0:dV [48]=0:=rfl;omega
      ·apply h48
       rw [← hlf,List.getElem?_eq_getElem hj,e]
     ·right
      simpa using hj1
   have h3:(j == f+1 && l[f]? == some 48)=false:=by
    rw [Bool.and_eq_false_iff]
    by_cases hj1:j=f+1
    ·right
     rw [hlf]
     rcases hpl with h48|h48
     ·rw [h48] at hlen;simp at hlen;omega
     ·simpa using h48
    ·left
     simpa using hj1
   rw [h1,h2,h3];simp
 unfold itoa at hf ⊢
 by_cases hz:z<0
 ·rw [if_pos hz] at hf ⊢;obtain ⟨a,b,c⟩:=key z.natAbs (45::decDigits z.natAbs) 1 (.inr ⟨rfl,by omega,rfl⟩);refine ⟨c,?_⟩;unfold tV;rw [a,b,if_pos rfl,dV_decDigits];omega
 ·rw [if_neg hz] at hf ⊢;obtain ⟨a,b,c⟩:=key z.toNat (decDigits z.toNat) 0 (.inl ⟨rfl,rfl⟩);refine ⟨c,?_⟩;unfold tV;rw [a,b,if_neg (by omega),dV_decDigits];omega
end Go.Proofs.YtiddgplapodleaaGreatDoor
