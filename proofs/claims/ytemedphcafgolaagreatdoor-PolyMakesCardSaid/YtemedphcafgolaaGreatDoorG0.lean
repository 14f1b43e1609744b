/- Layer 1, laid together: DivNum, DigitNum, Byte, Byte2, ReadNum, TextNum, DivideNum. -/
import Derived.Test.YtemedphcafgolaaGreatDoorNum
import Derived.Lib.Bytealg
import Derived.Lib.BitFns
import Derived.Lib.ItoaNum
import Derived.Lib.Small
import Derived.Lib.TrimByte
import Derived.Laws.BitsAllLaws
/- Plain facts on the division of two digits by one,half digit by half digit: no program stands in this text. -/
namespace Go.Proofs.YtemedphcafgolaaGreatDoor
section
variable {y1 y0 y hi u q r : Nat}
end
def numL (l:List UInt8):Nat:=l.foldl (fun a b=>a*256+b.toNat) 0
theorem numL_nil:numL []=0:=rfl
theorem numL_snoc (l:List UInt8) (b:UInt8):numL (l++[b])=numL l*256+b.toNat:=by simp [numL]
theorem foldl_num (l:List UInt8):∀ a,l.foldl (fun a b=>a*256+b.toNat) a=a*256 ^ l.length+numL l:=by
 induction l with
 | nil=>intro a;simp [numL]
 | cons b l ih =>
  intro a;simp only [numL,List.foldl_cons,List.length_cons,Nat.pow_succ];rw [ih,ih (0*256+b.toNat)];simp only [Nat.add_mul,Nat.zero_mul,Nat.zero_add,Nat.mul_assoc,Nat.mul_comm 256];omega
theorem numL_append (l m:List UInt8):numL (l++m)=numL l*256 ^ m.length+numL m:=by
 rw [numL,List.foldl_append,foldl_num];rfl
theorem numL_cons (b:UInt8) (l:List UInt8):numL (b::l)=b.toNat*256 ^ l.length+numL l:=by
 have:=numL_append [b] l
 simpa [numL] using this
theorem numL_lt (l:List UInt8):numL l<256 ^ l.length:=by
 induction l with
 | nil=>simp [numL]
 | cons b l ih =>
  rw [numL_cons,List.length_cons,Nat.pow_succ];have h:=b.toNat_lt
  have:(b.toNat+1)*256 ^ l.length≤256*256 ^ l.length:=Nat.mul_le_mul_right _ h
  rw [Nat.add_mul,Nat.mul_comm 256] at this;omega
theorem numL_zeros (k:Nat) (l:List UInt8):numL (List.replicate k 0++l)=numL l:=by
 induction k with
 | zero=>simp
 | succ k ih=>rw [List.replicate_succ,List.cons_append,numL_cons,ih];simp
def NZ (l:List UInt8):Prop:=∀ b,l.head?=some b→b≠0
theorem NZ.nil:NZ []:=fun b h=>by cases h
theorem NZ.of_snoc {l:List UInt8} {b:UInt8} (h:NZ (l++[b])):NZ l:=by
 cases l with
 | nil=>exact NZ.nil
 | cons a l=>intro x hx;exact h x (by simpa using hx)
theorem NZ.snoc {l:List UInt8} {b:UInt8} (h:NZ l) (hb:l=[]→b≠0):NZ (l++[b]):=by
 cases l with
 | nil=>intro x hx;simp at hx;subst hx;exact hb rfl
 | cons a l=>intro x hx;exact h x (by simpa using hx)
def formF:Nat→Nat→List UInt8
 | 0,_=>[]
 | f+1,n=>if n=0 then [] else formF f (n / 256)++[UInt8.ofNat n]
def formL (n:Nat):List UInt8:=formF n n
theorem numL_zero_NZ:∀ {l:List UInt8},NZ l→numL l=0→l=[]
 | [],_,_=>rfl
 | b::l,h,hn=>by
  exfalso
  have hb:b≠0:=h b rfl;rw [numL_cons] at hn;have h0:b.toNat=0:=by
   rcases Nat.eq_zero_or_pos b.toNat with h|h
   ·exact h
   ·have:1*1≤b.toNat*256 ^ l.length:=Nat.mul_le_mul h (Nat.pow_pos (by omega))
    omega
  exact hb (UInt8.toNat_inj.1 (by simpa using h0))
theorem formF_rev (r:List UInt8):∀ (f n:Nat),n≤f→NZ r.reverse→numL r.reverse=n→formF f n=r.reverse:=by
 induction r with
 | nil=>intro f n _ _ h;simp only [List.reverse_nil,numL_nil] at h;subst h;cases f <;> simp [formF]
 | cons b l ih =>
  intro f n hf hz hn;rw [List.reverse_cons] at hz hn ⊢;have hnz:numL (l.reverse++[b])≠0:=fun h1=>by
   have:=numL_zero_NZ hz h1
   simp at this
  rw [numL_snoc] at hn hnz;have hb:=b.toNat_lt;have hn0:n≠0:=by omega
  cases f with
  | zero=>omega
  | succ f =>
   rw [formF,if_neg hn0,ih f (n / 256) (by omega) hz.of_snoc (by omega)]
   congr 2
   apply UInt8.toNat_inj.1
   simp;omega
theorem formF_of (l:List UInt8) (f n:Nat) (hf:n≤f) (hz:NZ l) (hn:numL l=n):formF f n=l:=by
 have:=formF_rev l.reverse f n hf (by rwa [List.reverse_reverse]) (by rwa [List.reverse_reverse])
 rwa [List.reverse_reverse] at this
theorem formL_of {l:List UInt8} {n:Nat} (hz:NZ l) (hn:numL l=n):formL n=l:=formF_of l n n (Nat.le_refl _) hz hn
theorem formF_num:∀ (f n:Nat),n≤f→numL (formF f n)=n∧NZ (formF f n)
 | 0,n,h=>by
  have:n=0:=by omega
  subst this;exact ⟨rfl,NZ.nil⟩
 | f+1,n,h=>by
  by_cases h0:n=0
  ·subst h0;simp [formF,numL_nil,NZ.nil]
  ·obtain ⟨h1,h2⟩:=formF_num f (n / 256) (by omega);rw [formF,if_neg h0];refine ⟨?_,h2.snoc ?_⟩
   ·rw [numL_snoc,h1];simp;omega
   ·intro he hb;rw [he,numL_nil] at h1
    have:(UInt8.ofNat n).toNat=0:=by rw [hb];rfl
    simp at this;omega
theorem numL_formL (n:Nat):numL (formL n)=n:=(formF_num n n (Nat.le_refl _)).1
theorem NZ_formL (n:Nat):NZ (formL n):=(formF_num n n (Nat.le_refl _)).2
theorem formL_inj {m n:Nat} (h:formL m=formL n):m=n:=by rw [← numL_formL m,h,numL_formL]
theorem formL_zero:formL 0=[]:=rfl
theorem NZ_dropWhile (l:List UInt8):NZ (l.dropWhile (· == 0)):=by
 intro b hb
 have:=List.head?_dropWhile_not (· == (0:UInt8)) l
 rw [hb] at this;simpa using this
theorem numL_dropWhile (l:List UInt8):numL (l.dropWhile (· == 0))=numL l:=by
 induction l with
 | nil=>rfl
 | cons b l ih =>
  by_cases hb:b=0
  ·subst hb;rw [List.dropWhile_cons_of_pos (by simp),ih,numL_cons];simp
  ·rw [List.dropWhile_cons_of_neg (by simpa using hb)]
theorem dropWhile_formL (l:List UInt8):l.dropWhile (· == 0)=formL (numL l):=(formL_of (NZ_dropWhile l) (numL_dropWhile l)).symm
def eightL (n:Nat):List UInt8:=[UInt8.ofNat (n / 72057594037927936),UInt8.ofNat (n / 281474976710656),UInt8.ofNat (n / 1099511627776),UInt8.ofNat (n / 4294967296),UInt8.ofNat (n / 16777216),UInt8.ofNat (n / 65536),UInt8.ofNat (n / 256),UInt8.ofNat n]
theorem numL_eightL {n:Nat} (h:n<B64):numL (eightL n)=n:=by
 unfold B64 at h;simp only [numL,eightL,List.foldl_cons,List.foldl_nil,UInt8.toNat_ofNat'];omega
theorem eightL_drop {n L:Nat} (hn:n<B64) (h1:n=0→L=0) (h2:0<n→1≤L∧2 ^ (L-1)≤n∧n<2 ^ L) (hL:L≤64) :
  (eightL n).drop ((64-L) / 8)=formL n:=by
 symm
 have h0:(eightL n).take ((64-L) / 8)=List.replicate ((64-L) / 8) 0∧NZ ((eightL n).drop ((64-L) / 8)):=by
  by_cases hz:n=0
  ·subst hz;rw [h1 rfl];exact ⟨by decide,NZ.nil⟩
  ·obtain ⟨b1,b2,b3⟩:=h2 (by omega);have key:∀ k,(64-L) / 8=k→k≤7→n<2 ^ (64-8*k)∧2 ^ (56-8*k)≤n:=fun k hk hk7=>by
    constructor
    ·exact Nat.lt_of_lt_of_le b3 (Nat.pow_le_pow_right (by omega) (by omega))
    ·exact Nat.le_trans (Nat.pow_le_pow_right (by omega) (by omega)) b2
   have hk:(64-L) / 8≤7:=by omega
   generalize (64-L) / 8=k at *;obtain ⟨k1,k2⟩:=key k rfl hk;have hk' : k=0∨k=1∨k=2∨k=3∨k=4∨k=5∨k=6∨k=7:=by omega
   have z:∀ m:Nat,m % 256=0→UInt8.ofNat m=0:=fun m hm=>UInt8.toNat_inj.1 (by simp [hm]);have nz:∀ m:Nat,m % 256≠0→UInt8.ofNat m≠0:=fun m hm h=>hm (by have:=congrArg UInt8.toNat h;simpa using this)
   rcases hk' with rfl|rfl|rfl|rfl|rfl|rfl|rfl|rfl
   all_goals
    simp only [eightL,List.drop_succ_cons,List.drop_zero,List.take_succ_cons,List.take_zero,List.replicate_succ,List.replicate_zero,Nat.reduceMul,Nat.reduceSub,Nat.reducePow] at k1 k2 ⊢;refine ⟨?_,?_⟩
    ·first
      | rfl
      | (simp only [List.cons.injEq,and_true];(repeat (first|exact z _ (by omega)|refine ⟨z _ (by omega),?_⟩)))
    ·intro b hb;simp only [List.head?_cons,Option.some.injEq] at hb;subst hb;exact nz _ (by omega)
 refine formL_of h0.2 ?_;have e:=numL_eightL hn;rw [← List.take_append_drop ((64-L) / 8) (eightL n),h0.1,numL_zeros] at e;exact e
def fb (n:Nat):ByteArray:=⟨(formL n).toArray⟩
def num (s:ByteArray):Nat:=numL s.data.toList
theorem fb_toList (n:Nat):(fb n).data.toList=formL n:=rfl
theorem num_fb (n:Nat):num (fb n)=n:=by unfold num;rw [fb_toList,numL_formL]
theorem fb_inj {m n:Nat} (h:fb m=fb n):m=n:=by rw [← num_fb m,h,num_fb]
theorem fb_size (n:Nat):(fb n).size=(formL n).length:=rfl
theorem num_lt (s:ByteArray):num s<256 ^ s.size:=by
 have h:=numL_lt s.data.toList;have e:s.data.toList.length=s.size:=rfl;rw [e] at h;exact h
theorem pow256_le {l:List UInt8} (hz:NZ l) (hl:l≠[]):256 ^ (l.length-1)≤numL l:=by
 cases l with
 | nil=>exact absurd rfl hl
 | cons b l =>
  rw [numL_cons,List.length_cons,Nat.add_sub_cancel];have hb:1≤b.toNat:=by
   have:b≠0:=hz b rfl
   rcases Nat.eq_zero_or_pos b.toNat with h|h
   ·exact absurd (UInt8.toNat_inj.1 (by simpa using h)) this
   ·exact h
  have:=Nat.mul_le_mul_right (256 ^ l.length) hb
  omega
theorem length_formL_le {n k:Nat} (h:n<256 ^ k):(formL n).length≤k:=by
 rcases Nat.lt_or_ge k (formL n).length with hlt|hge
 ·exfalso
  have h1:=pow256_le (NZ_formL n) (by intro e;rw [e] at hlt;simp at hlt);rw [numL_formL] at h1
  have:256 ^ k≤256 ^ ((formL n).length-1):=Nat.pow_le_pow_right (by omega) (by omega)
  omega
 ·exact hge
theorem fb_size_le {n k:Nat} (h:n<256 ^ k):(fb n).size≤k:=length_formL_le h
theorem fb_num_size (s:ByteArray):(fb (num s)).size≤s.size:=fb_size_le (num_lt s)
theorem lt_of_length {x y:Nat} (h:(formL x).length<(formL y).length):x<y:=by
 have h1:=numL_lt (formL x);rw [numL_formL] at h1;have h2:=pow256_le (NZ_formL y) (by intro e;rw [e] at h;simp at h);rw [numL_formL] at h2
 have:256 ^ (formL x).length≤256 ^ ((formL y).length-1):=Nat.pow_le_pow_right (by omega) (by omega)
 omega
def cmpN (x y:Nat):Int:=if x<y then -1 else if y<x then 1 else 0
theorem compareBytes_num:∀ (l m:List UInt8),l.length=m.length→Lib.compareBytes l m=cmpN (numL l) (numL m)
 | [],[],_=>rfl
 | a::l,b::m,h=>by
  have hl:l.length=m.length:=by simpa using h
  have h1:=numL_lt l;have h2:=numL_lt m;rw [Lib.compareBytes,numL_cons,numL_cons,hl,compareBytes_num l m hl];rw [hl] at h1;have ha:a<b↔a.toNat<b.toNat:=UInt8.lt_iff_toNat_lt;have hb:b<a↔b.toNat<a.toNat:=UInt8.lt_iff_toNat_lt;generalize 256 ^ m.length=P at *
  by_cases c1:a<b
  ·rw [if_pos c1]
   have:(a.toNat+1)*P≤b.toNat*P:=Nat.mul_le_mul_right _ (ha.1 c1)
   rw [Nat.add_mul] at this;unfold cmpN;rw [if_pos (by omega)]
  ·rw [if_neg c1]
   by_cases c2:b<a
   ·rw [if_pos c2]
    have:(b.toNat+1)*P≤a.toNat*P:=Nat.mul_le_mul_right _ (hb.1 c2)
    rw [Nat.add_mul] at this;unfold cmpN;rw [if_neg (by omega),if_pos (by omega)]
   ·rw [if_neg c2];have e:a.toNat=b.toNat:=by
     have:=mt ha.2 c1
     have:=mt hb.2 c2
     omega
    rw [e];unfold cmpN
    by_cases c3:numL l<numL m
    ·rw [if_pos c3,if_pos (by omega)]
    ·by_cases c4:numL m<numL l
     ·rw [if_neg c3,if_pos c4,if_neg (by omega),if_pos (by omega)]
     ·rw [if_neg c3,if_neg c4,if_neg (by omega),if_neg (by omega)]
theorem compareInt_len {x y:Nat} (h:(formL x).length≠(formL y).length):Lib.compareInt ((formL x).length:Int) ((formL y).length:Int)=cmpN x y:=by
 unfold Lib.compareInt cmpN
 rcases Nat.lt_or_gt_of_ne h with h|h
 ·rw [if_pos (by omega),if_pos (lt_of_length h)]
 ·have:=lt_of_length h
  rw [if_neg (by omega),if_pos (by omega),if_neg (by omega),if_pos this]
def bl (n:Nat):Nat:=if n=0 then 0 else n.log2+1
theorem bl_zero:bl 0=0:=rfl
theorem bl_of {n k:Nat} (h1:2 ^ k≤n) (h2:n<2 ^ (k+1)):bl n=k+1:=by
 have h0:n≠0:=by have:=Nat.two_pow_pos k;omega
 unfold bl;rw [if_neg h0];have a:=(Nat.log2_lt h0).2 h2;have b:=(Nat.le_log2 h0).2 h1;omega
theorem bl_bounds {n:Nat} (h:0<n):1≤bl n∧2 ^ (bl n-1)≤n∧n<2 ^ bl n:=by
 unfold bl;rw [if_neg (by omega)];exact ⟨by omega,Nat.log2_self_le (by omega),Nat.lt_log2_self⟩
theorem bitLen_bl {x:Nat} (h:x<2 ^ 64):Lib.bitLen x=bl x:=by
 rcases Nat.eq_zero_or_pos x with rfl|h0
 ·rfl
 ·obtain ⟨a,b,c⟩:=Lib.bitLenAux_bounds 64 x h (by omega);have e:Lib.bitLen x=Lib.bitLenAux 64 x:=rfl;rw [← e] at a b c;obtain ⟨k,hk⟩:∃ k,Lib.bitLen x=k+1:=⟨Lib.bitLen x-1,by omega⟩;rw [hk] at b c ⊢;exact (bl_of (by simpa using b) c).symm
theorem bl_cons {b:UInt8} {l:List UInt8} (hb:b≠0):bl (numL (b::l))=bl b.toNat+8*l.length:=by
 have h0:0<b.toNat:=by
  rcases Nat.eq_zero_or_pos b.toNat with h|h
  ·exact absurd (UInt8.toNat_inj.1 (by simpa using h)) hb
  ·exact h
 obtain ⟨h1,h2,h3⟩:=bl_bounds h0;have h4:=numL_lt l;have e:256 ^ l.length=2 ^ (8*l.length):=by rw [Nat.pow_mul]
 rw [numL_cons];rw [e] at h4 ⊢;obtain ⟨k,hk⟩:∃ k,bl b.toNat=k+1:=⟨bl b.toNat-1,by omega⟩;rw [hk] at h2 h3 ⊢;simp only [Nat.add_sub_cancel] at h2;rw [show k+1+8*l.length=(k+8*l.length)+1 by omega];refine bl_of ?_ ?_
 ·rw [Nat.pow_add]
  have:=Nat.mul_le_mul_right (2 ^ (8*l.length)) h2
  omega
 ·rw [show k+8*l.length+1=(k+1)+8*l.length by omega,Nat.pow_add]
  have:=Nat.mul_le_mul_right (2 ^ (8*l.length)) (Nat.succ_le_of_lt h3)
  rw [Nat.succ_mul] at this;omega
def tzF:Nat→Nat→Nat
 | 0,_=>0
 | f+1,n=>if n=0∨n % 2=1 then 0 else 1+tzF f (n / 2)
def tz (n:Nat):Nat:=tzF n n
theorem tzF_of:∀ (z m f:Nat),2 ^ z*(2*m+1)≤f→tzF f (2 ^ z*(2*m+1))=z
 | 0,m,f,h=>by
  cases f with
  | zero=>omega
  | succ f=>rw [tzF,if_pos (by omega)]
 | z+1,m,f,h=>by
  have e:2 ^ (z+1)*(2*m+1)=2*(2 ^ z*(2*m+1)):=by rw [Nat.pow_succ];simp only [Nat.mul_comm,Nat.mul_left_comm]
  have hp:0<2 ^ z*(2*m+1):=Nat.mul_pos (Nat.two_pow_pos _) (by omega);rw [e] at h ⊢
  cases f with
  | zero=>omega
  | succ f =>
   rw [tzF,if_neg (by omega),show 2*(2 ^ z*(2*m+1)) / 2=2 ^ z*(2*m+1) by omega,tzF_of z m f (by omega)];omega
theorem tz_of (z m:Nat):tz (2 ^ z*(2*m+1))=z:=tzF_of z m _ (Nat.le_refl _)
theorem tz_ex {n:Nat} (h:0<n):∃ z m,n=2 ^ z*(2*m+1):=by
 induction n using Nat.strongRecOn with
 | ind n ih =>
  by_cases h2:n % 2=1
  ·exact ⟨0,n / 2,by omega⟩
  ·obtain ⟨z,m,e⟩:=ih (n / 2) (by omega) (by omega);refine ⟨z+1,m,?_⟩
   have:n=2*(n / 2):=by omega
   rw [this,e,Nat.pow_succ];simp only [Nat.mul_comm,Nat.mul_left_comm]
theorem tz_mul_pow {n:Nat} (h:0<n) (k:Nat):tz (n*2 ^ k)=tz n+k:=by
 obtain ⟨z,m,rfl⟩:=tz_ex h;rw [tz_of,Nat.mul_right_comm,← Nat.pow_add,tz_of]
theorem trailingZeros8_eq:∀ n:Fin 256,n.val≠0→Lib.trailingZeros8 n.val=tz n.val:=by decide +kernel
theorem tz_bytes (l:List UInt8) (b:UInt8) (k:Nat) (hb:b≠0):tz (numL (l++[b]++List.replicate k 0))=tz b.toNat+8*k:=by
 have h0:0<b.toNat:=by
  rcases Nat.eq_zero_or_pos b.toNat with h|h
  ·exact absurd (UInt8.toNat_inj.1 (by simpa using h)) hb
  ·exact h
 rw [numL_append,numL_snoc,List.length_replicate];have e1:numL (List.replicate k 0)=0:=by have:=numL_zeros k [];simpa [numL_nil] using this
 rw [e1,Nat.add_zero,show 256 ^ k=2 ^ (8*k) by rw [Nat.pow_mul],tz_mul_pow (by omega)]
 congr 1
 obtain ⟨z,m,e⟩:=tz_ex h0;have hz:z<8:=by
  rcases Nat.lt_or_ge z 8 with h|h
  ·exact h
  ·have:=b.toNat_lt
   have h2:2 ^ 8*1≤2 ^ z*(2*m+1):=Nat.mul_le_mul (Nat.pow_le_pow_right (by omega) h) (by omega);omega
 rw [e,tz_of];have e2:(256:Nat)=2 ^ z*(2*2 ^ (7-z)):=by
  rw [Nat.mul_left_comm,← Nat.pow_add,show z+(7-z)=7 by omega]
 rw [e2,Nat.mul_left_comm,← Nat.mul_add,show numL l*(2*2 ^ (7-z))+(2*m+1)=2*(numL l*2 ^ (7-z)+m)+1 by rw [Nat.mul_left_comm];omega,tz_of]
theorem fb_first {n:Nat} (h:n≠0):0<(fb n).size∧∀ hp:0<(fb n).size,bl n=bl ((fb n)[0]).toNat+8*((fb n).size-1):=by
 cases hl:formL n with
 | nil=>exact absurd (by have:=numL_formL n;rw [hl] at this;exact this.symm) h
 | cons b l =>
  have hs:(fb n).size=l.length+1:=by rw [fb_size,hl];rfl
  refine ⟨by omega,fun hp=>?_⟩;have hb:(fb n)[0]=b:=by
   have:(fb n)[0]=(formL n)[0]'(by rw [hl];simp):=rfl
   rw [this];simp [hl]
  have hz:b≠0:=NZ_formL n b (by rw [hl];rfl);have e:=numL_formL n;rw [hl] at e;rw [hb,hs,← e,bl_cons hz];simp
theorem dropWhile_split (l:List UInt8):l=List.replicate (l.length-(l.dropWhile (· == 0)).length) 0++l.dropWhile (· == 0):=by
 induction l with
 | nil=>rfl
 | cons b l ih =>
  by_cases hb:b=0
  ·subst hb;rw [List.dropWhile_cons_of_pos (by simp)];have hle:(l.dropWhile (· == 0)).length≤l.length:=(List.dropWhile_sublist _).length_le;rw [List.length_cons,show l.length+1-(l.dropWhile (· == 0)).length=(l.length-(l.dropWhile (· == 0)).length)+1 by omega,List.replicate_succ,List.cons_append,← ih]
  ·rw [List.dropWhile_cons_of_neg (by simpa using hb)];simp
theorem trimRight_split (l:List UInt8):l=Lib.trimRightB l 0++List.replicate (l.length-(Lib.trimRightB l 0).length) 0:=by
 unfold Lib.trimRightB;have h:=dropWhile_split l.reverse;have h2:=congrArg List.reverse h;rw [List.reverse_reverse,List.reverse_append,List.reverse_replicate,List.length_reverse] at h2;rw [List.length_reverse];exact h2
theorem trimRight_last (l:List UInt8):Lib.trimRightB l 0=[]∨∃ m b,Lib.trimRightB l 0=m++[b]∧b≠0:=by
 unfold Lib.trimRightB;have hz:=NZ_dropWhile l.reverse
 cases hl:l.reverse.dropWhile (· == 0) with
 | nil=>exact .inl rfl
 | cons b m=>exact .inr ⟨m.reverse,b,by simp,hz b (by rw [hl];rfl)⟩
theorem zeros_split (l:List UInt8):(Lib.trimRightB l 0=[]∧tz (numL l)=0)∨∃ m b,Lib.trimRightB l 0=m++[b]∧b≠0∧tz (numL l)=tz b.toNat+8*(l.length-(m.length+1)):=by
 have h:=trimRight_split l
 rcases trimRight_last l with e|⟨m,b,e,hb⟩
 ·refine .inl ⟨e,?_⟩;rw [e,List.nil_append] at h
  have:numL l=0:=by rw [h];have:=numL_zeros (l.length-([]:List UInt8).length) [];simpa [numL_nil] using this
  rw [this];rfl
 ·refine .inr ⟨m,b,e,hb,?_⟩;rw [e] at h;have h2:(m++[b]).length=m.length+1:=by simp
  rw [h2] at h;have h3:=tz_bytes m b (l.length-(m.length+1)) hb;rw [← h] at h3;exact h3
theorem split8 (t:ByteArray) (h:8≤t.size):∃ (c0 c1 c2 c3 c4 c5 c6 c7:UInt8) (v:ByteArray),t.extract (t.size-8) t.size=⟨#[c0,c1,c2,c3,c4,c5,c6,c7]⟩∧t.extract 0 (t.size-8)=v ∧
  t.data.toList=v.data.toList++[c0,c1,c2,c3,c4,c5,c6,c7]∧v.size=t.size-8:=by
 obtain ⟨l,hl⟩:∃ l,l=t.data.toList:=⟨_,rfl⟩;have hlen:l.length=t.size:=by rw [hl];rfl
 have hd:(l.drop (l.length-8)).length=8:=by rw [List.length_drop];omega
 match hm:l.drop (l.length-8),hd with
 | [c0,c1,c2,c3,c4,c5,c6,c7],_ =>
  refine ⟨c0,c1,c2,c3,c4,c5,c6,c7,_,?_,rfl,?_,?_⟩
  ·apply ByteArray.ext
   apply Array.ext'
   rw [ByteArray.data_extract];simp only [Array.toList_extract];rw [← hl];have e:l.extract (t.size-8) t.size=l.drop (l.length-8):=by
    rw [List.extract_eq_take_drop,← hlen,List.take_of_length_le (by rw [List.length_drop];omega)]
   rw [e,hm]
  ·rw [← hl];have e:(t.extract 0 (t.size-8)).data.toList=l.take (l.length-8):=by
    rw [ByteArray.data_extract,Array.toList_extract,← hl,List.extract_eq_take_drop,← hlen];simp
   rw [e,← hm,List.take_append_drop]
  ·rw [ByteArray.size_extract];omega
def dig8 (c0 c1 c2 c3 c4 c5 c6 c7:UInt8):Nat:=numL [c0,c1,c2,c3,c4,c5,c6,c7]
theorem dig8_eq (c0 c1 c2 c3 c4 c5 c6 c7:UInt8):dig8 c0 c1 c2 c3 c4 c5 c6 c7=c0.toNat*72057594037927936+c1.toNat*281474976710656+c2.toNat*1099511627776+c3.toNat*4294967296+c4.toNat*16777216+c5.toNat*65536+c6.toNat*256+c7.toNat:=by
 simp only [dig8,numL,List.foldl_cons,List.foldl_nil];omega
theorem dig8_lt (c0 c1 c2 c3 c4 c5 c6 c7:UInt8):dig8 c0 c1 c2 c3 c4 c5 c6 c7<B64:=by
 have h:numL [c0,c1,c2,c3,c4,c5,c6,c7]<256 ^ 8:=numL_lt [c0,c1,c2,c3,c4,c5,c6,c7];rw [show (256:Nat) ^ 8=B64 from rfl] at h;exact h
theorem or_byte (a k:Nat) (c:UInt8) (ha:a<2 ^ k) (hk:k≤56):bits .or .u64 (a:Int) (IntKind.u64.wrap ((c.toNat:Int)*2 ^ k))=((a+c.toNat*2 ^ k:Nat):Int):=by
 have hc:=c.toNat_lt;have hp:2 ^ k≤2 ^ 56:=Nat.pow_le_pow_right (by omega) hk;have h1:c.toNat*2 ^ k≤255*2 ^ k:=Nat.mul_le_mul_right _ (by omega);have h2:c.toNat*2 ^ k<18446744073709551616:=by
  have:255*2 ^ k≤255*2 ^ 56:=Nat.mul_le_mul_left _ hp
  omega
 have e:IntKind.u64.wrap ((c.toNat:Int)*2 ^ k)=((c.toNat*2 ^ k:Nat):Int):=by
  have e1:((c.toNat:Int)*2 ^ k)=((c.toNat*2 ^ k:Nat):Int):=by simp
  rw [e1,IntKind.wrap_u64];omega
 rw [e,u64_or_nat _ _ (by omega) h2,Nat.or_comm,or_add _ _ _ ha,Nat.add_comm]
theorem wrap_byte (c:UInt8):IntKind.u64.wrap (c.toNat:Int)=(c.toNat:Int):=by
 have:=c.toNat_lt
 rw [IntKind.wrap_u64];omega
theorem or_eight (c0 c1 c2 c3 c4 c5 c6 c7:UInt8):∃ A1 A2 A3 A4 A5 A6:Nat,
  bits .or .u64 (c7.toNat:Int) (IntKind.u64.wrap ((c6.toNat:Int)*256))=(A1:Int) ∧
  bits .or .u64 (A1:Int) (IntKind.u64.wrap ((c5.toNat:Int)*65536))=(A2:Int) ∧
  bits .or .u64 (A2:Int) (IntKind.u64.wrap ((c4.toNat:Int)*16777216))=(A3:Int) ∧
  bits .or .u64 (A3:Int) (IntKind.u64.wrap ((c3.toNat:Int)*4294967296))=(A4:Int) ∧
  bits .or .u64 (A4:Int) (IntKind.u64.wrap ((c2.toNat:Int)*1099511627776))=(A5:Int) ∧
  bits .or .u64 (A5:Int) (IntKind.u64.wrap ((c1.toNat:Int)*281474976710656))=(A6:Int) ∧
  bits .or .u64 (A6:Int) (IntKind.u64.wrap ((c0.toNat:Int)*72057594037927936))=((dig8 c0 c1 c2 c3 c4 c5 c6 c7:Nat):Int):=by
 have h7:=c7.toNat_lt;have h6:=c6.toNat_lt;have h5:=c5.toNat_lt;have h4:=c4.toNat_lt;have h3:=c3.toNat_lt;have h2:=c2.toNat_lt;have h1:=c1.toNat_lt;refine ⟨_,_,_,_,_,_,or_byte c7.toNat 8 c6 (by omega) (by omega),or_byte _ 16 c5 ?_ (by omega),or_byte _ 24 c4 ?_ (by omega),or_byte _ 32 c3 ?_ (by omega),or_byte _ 40 c2 ?_ (by omega),or_byte _ 48 c1 ?_ (by omega),?_⟩
 ·omega
 ·omega
 ·omega
 ·omega
 ·omega
 ·refine (or_byte _ 56 c0 ?_ (by omega)).trans ?_
  ·omega
  ·rw [dig8_eq];congr 1;omega
theorem or_low (a:Nat) (c:UInt8) (ha:a<72057594037927936):bits .or .u64 (IntKind.u64.wrap ((a:Int)*256)) (c.toNat:Int)=((a*256+c.toNat:Nat):Int):=by
 have hc:=c.toNat_lt;have e:IntKind.u64.wrap ((a:Int)*256)=((a*256:Nat):Int):=by
  rw [IntKind.wrap_u64];omega
 rw [e,u64_or_nat _ _ (by omega) (by omega)]
 have:=or_add a c.toNat 8 (by omega)
 rw [show (2:Nat) ^ 8=256 from rfl] at this;rw [this]
theorem numL_take_succ (l:List UInt8) (k:Nat) (h:k<l.length):numL (l.take (k+1))=numL (l.take k)*256+l[k].toNat:=by
 rw [List.take_succ_eq_append_getElem h,numL_snoc]
theorem numL_take_lt (l:List UInt8) (k:Nat) (h:k<8) (hl:l.length<8) (hk:k<l.length):numL (l.take k)<72057594037927936:=by
 have h1:=numL_lt (l.take k);have h2:(l.take k).length≤6:=by rw [List.length_take];omega
 have h3:256 ^ (l.take k).length≤256 ^ 6:=Nat.pow_le_pow_right (by omega) h2;omega
theorem num8 (t v:ByteArray) (c0 c1 c2 c3 c4 c5 c6 c7:UInt8) (h:t.data.toList=v.data.toList++[c0,c1,c2,c3,c4,c5,c6,c7]):num t=num v*B64+dig8 c0 c1 c2 c3 c4 c5 c6 c7:=by
 unfold num dig8;rw [h,numL_append];show _*256 ^ 8+_=_;rw [show (256:Nat) ^ 8=B64 from rfl]
theorem NZ_append {l m:List UInt8} (h:NZ (l++m)):NZ l:=by
 intro b hb;refine h b ?_
 cases l with
 | nil=>cases hb
 | cons x l=>exact hb
theorem dig8_pos {l:List UInt8} {c0 c1 c2 c3 c4 c5 c6 c7:UInt8} (h:NZ (l++[c0,c1,c2,c3,c4,c5,c6,c7])) (hl:l=[]):dig8 c0 c1 c2 c3 c4 c5 c6 c7≠0:=by
 subst hl;intro e
 have:=numL_zero_NZ h e
 cases this
theorem toList_isEmpty (t:ByteArray):t.toList.isEmpty=decide (t.size=0):=by
 rw [Lib.toList_data,Bool.eq_iff_iff];simp
 constructor
 ·intro h;exact ByteArray.ext h
 ·intro h;rw [h];rfl
theorem numL_flat (ds:List Nat) (hd:Dig ds):numL (ds.reverse.flatMap eightL)=val ds:=by
 induction ds with
 | nil=>rfl
 | cons d ds ih =>
  have h1:d<B64:=hd d (List.mem_cons_self ..);rw [List.reverse_cons,List.flatMap_append,numL_append,ih (fun x hx=>hd x (List.mem_cons_of_mem _ hx)),List.flatMap_singleton,numL_eightL h1];simp only [val,eightL,List.length_cons,List.length_nil];rw [Nat.mul_comm B64]
  have:(256:Nat) ^ (0+1+1+1+1+1+1+1+1)=B64:=rfl
  rw [this];omega
def gone (sk:Nat) (l:List Nat):List UInt8:=(l.flatMap eightL).drop sk
theorem gone_nil (sk:Nat):gone sk []=[]:=by simp [gone]
theorem gone_more {sk:Nat} {l:List Nat} (h:l≠[]) (hs:sk≤8) (x:Nat):gone sk (l++[x])=gone sk l++eightL x:=by
 unfold gone;rw [List.flatMap_append,List.drop_append_of_le_length,List.flatMap_singleton]
 cases l with
 | nil=>exact absurd rfl h
 | cons a l=>simp [eightL];omega
def skv (sk:Nat) (pre:List (Nat × Nat)):Nat:=if pre.isEmpty then sk else 0
theorem gone_step (sk:Nat) (pre:List (Nat × Nat)) (x:Nat × Nat) (hs:sk≤8):gone sk ((pre++[x]).map (·.2))=gone sk (pre.map (·.2))++(eightL x.2).drop (skv sk pre):=by
 cases pre with
 | nil=>simp [gone,skv]
 | cons y pre =>
  have h:=gone_more (sk:=sk) (l:=(y::pre).map (·.2)) (by simp) hs x.2;rw [List.map_append];have e:skv sk (y::pre)=0:=rfl;rw [e,List.drop_zero];exact h
theorem gone_length {sk:Nat} (l:List Nat):(gone sk l).length≤8*l.length:=by
 unfold gone;rw [List.length_drop]
 have:(l.flatMap eightL).length=8*l.length:=by
  induction l with
  | nil=>rfl
  | cons a l ih=>simp [eightL,ih];omega
 omega
theorem gone_all {ds:List Nat} {d sk:Nat} (hd:Dig (ds++[d])) (h0:d≠0) (hs:sk<8) (hsk:(eightL d).drop sk=formL d):gone sk (ds++[d]).reverse=formL (val (ds++[d])):=by
 symm
 have hdB:d<B64:=hd d (by simp);have e:gone sk (ds++[d]).reverse=formL d++ds.reverse.flatMap eightL:=by
  unfold gone;rw [List.reverse_append,List.reverse_singleton,List.singleton_append,List.flatMap_cons,List.drop_append_of_le_length (by simp [eightL];omega),hsk]
 rw [e];have hl:∀ l:List Nat,(l.flatMap eightL).length=8*l.length:=by
  intro l
  induction l with
  | nil=>rfl
  | cons a l ih=>simp [eightL,ih];omega
 refine formL_of ?_ ?_
 ·cases hf:formL d with
  | nil=>exact absurd (by have:=numL_formL d;rw [hf] at this;exact this.symm) h0
  | cons b l =>
   intro x hx;simp at hx;subst hx;exact NZ_formL d b (by rw [hf];rfl)
 ·rw [numL_append,numL_formL,hl,List.length_reverse,numL_flat ds hd.of_append.1,val_snoc];rw [show (256:Nat) ^ (8*ds.length)=B64 ^ ds.length by rw [Nat.pow_mul];rfl,Nat.mul_comm d];omega
theorem backs_map (ds:List Nat):((List.range ds.length).map fun j=>ds.getD (ds.length-1-j) 0)=ds.reverse:=by
 apply List.ext_getElem
 ·simp
 ·intro i h1 h2;have hi:i<ds.length:=by simpa using h1
  simp [List.getElem_reverse,show ds.length-1-i<ds.length by omega]
end Go.Proofs.YtemedphcafgolaaGreatDoor
