/- Layer 1, laid together: DivNum, DigitNum, Byte, Byte2, ReadNum, TextNum, DivideNum. -/
import Derived.Test.YtiddgplapodleaaGreatDoorNum
import Derived.Lib.Bytealg
import Derived.Lib.BitFns
import Derived.Lib.ItoaNum
import Derived.Lib.Small
import Derived.Lib.TrimByte
import Derived.Laws.BitsAllLaws
/- Plain facts on the division of two digits by one,half digit by half digit: no program stands in this text. -/
namespace Go.Proofs.YtiddgplapodleaaGreatDoor
def Gs (y1 y hi u q r:Nat):Prop:=q*y1+r=hi∧r<4294967296∧q≤4294967297∧hi*4294967296+u<(q+1)*y
def Rt (y N q:Nat):Prop:=q*y≤N∧N<(q+1)*y
section
variable {y1 y0 y hi u q r : Nat}
theorem mul_halves (hy:y=y1*4294967296+y0) (q:Nat):q*y=q*y1*4294967296+q*y0:=by
 rw [hy,Nat.mul_add,Nat.mul_assoc]
theorem gs_init (hy:y=y1*4294967296+y0) (h1:2147483648≤y1) (h1' : y1<4294967296) (h0:y0<4294967296) (hlt:hi<y) (hu:u<4294967296):Gs y1 y hi u (hi / y1) (hi % y1):=by
 refine ⟨by rw [Nat.mul_comm];exact Nat.div_add_mod hi y1,?_,?_,?_⟩
 ·have:=Nat.mod_lt hi (show 0<y1 by omega)
  omega
 ·have:hi / y1<4294967298:=by rw [Nat.div_lt_iff_lt_mul (by omega)];omega
  omega
 ·have h:=Nat.lt_div_mul_add (a:=hi) (b:=y1) (by omega);have e:=mul_halves hy (hi / y1+1);rw [e,Nat.add_mul];omega
theorem gs_exit (hy:y=y1*4294967296+y0) (h:Gs y1 y hi u q r) (hc:q*y0≤4294967296*r+u):Rt y (hi*4294967296+u) q:=by
 refine ⟨?_,h.2.2.2⟩;rw [mul_halves hy]
 have:=h.1
 omega
theorem gs_dec (hy:y=y1*4294967296+y0) (hlt:hi<y) (hu:u<4294967296) (h:Gs y1 y hi u q r) (hc:4294967296≤q∨4294967296*r+u<q*y0) :
  1≤q∧(q-1)*y1+(r+y1)=hi∧q-1≤4294967296∧hi*4294967296+u<(q-1+1)*y:=by
 have hq:1≤q:=by
  rcases Nat.eq_zero_or_pos q with h0|h0
  ·subst h0;simp at hc
  ·exact h0
 obtain ⟨k,rfl⟩:∃ k,q=k+1:=⟨q-1,by omega⟩;obtain ⟨g1,g2,g3,g4⟩:=h;simp only [Nat.add_sub_cancel];refine ⟨hq,by rw [Nat.add_mul] at g1;omega,by omega,?_⟩
 rcases hc with hc|hc
 ·have:4294967296*y≤(k+1)*y:=Nat.mul_le_mul_right _ hc
  omega
 ·rw [mul_halves hy];omega
theorem gs_break (hy:y=y1*4294967296+y0) (h0:y0<4294967296) {k s:Nat} (h1:k*y1+s=hi) (h2:k≤4294967296) (h3:hi*4294967296+u<(k+1)*y) (hs:4294967296≤s) :
  Rt y (hi*4294967296+u) k:=by
 refine ⟨?_,h3⟩;rw [mul_halves hy]
 have:k*y0≤4294967296*4294967295:=Nat.mul_le_mul h2 (by omega)
 omega
theorem rt_rest (h:Rt y (hi*4294967296+u) q) (hlt:hi<y) (hu:u<4294967296):hi*4294967296+u-q*y<y∧q<4294967296:=by
 obtain ⟨a,b⟩:=h;rw [Nat.add_mul] at b;refine ⟨by omega,?_⟩
 rcases Nat.lt_or_ge q 4294967296 with h|h
 ·exact h
 ·have:4294967296*y≤q*y:=Nat.mul_le_mul_right _ h
  omega
end
theorem guess_ge {xs ys:List Nat} {n hi lo top g:Nat} (hxl:xs.length=n+1) (hyl:ys.length=n) (hn:1≤n) (hdx:Dig xs)
  (h1:hi=xs.getD n 0) (h2:lo=xs.getD (n-1) 0) (h3:top=ys.getD (n-1) 0) (htop:0<top) (hlt:val xs<val ys*B64)
  (hg:(top≤hi∧g=18446744073709551615)∨(hi<top∧g=(hi*B64+lo) / top)):val xs / val ys≤g:=by
 have hY:0<val ys:=by
  rcases Nat.eq_zero_or_pos (val ys) with h|h
  ·rw [h] at hlt;simp at hlt
  ·exact h
 have hQ:val xs / val ys<B64:=by rw [Nat.div_lt_iff_lt_mul hY,Nat.mul_comm];exact hlt
 rcases hg with ⟨_,rfl⟩|⟨_,rfl⟩
 ·unfold B64 at hQ;omega
 ·obtain ⟨m,rfl⟩:∃ m,n=m+1:=⟨n-1,by omega⟩;simp only [Nat.add_sub_cancel] at h2 h3;rw [Nat.le_div_iff_mul_le htop];have ey:val ys=val (ys.take m)+B64 ^ m*top:=by
   rw [h3,val_split ys m (by omega)]
   congr 2
   rw [List.drop_eq_getElem_cons (by omega),List.drop_of_length_le (by omega),val_single];simp [hyl]
  have ex:val xs=val (xs.take m)+B64 ^ m*(hi*B64+lo):=by
   rw [h1,h2,val_split xs m (by omega)]
   congr 2
   rw [List.drop_eq_getElem_cons (by omega),List.drop_eq_getElem_cons (by omega),List.drop_of_length_le (by omega)];simp only [val];simp [hxl,show m<m+1+1 by omega];rw [Nat.add_comm,Nat.mul_comm]
  have hl:val (xs.take m)<B64 ^ m:=by
   have:=val_lt (hdx.take m)
   rw [List.length_take,Nat.min_eq_left (by omega)] at this;exact this
  have hq:val xs / val ys*val ys≤val xs:=Nat.div_mul_le_self _ _;generalize val xs / val ys=Q at *;rw [ex,ey,Nat.mul_add] at hq;have hP:0<B64 ^ m:=Nat.pow_pos B64_pos
  rcases Nat.lt_or_ge (hi*B64+lo) (Q*top) with h|h
  ·exfalso
   have h5:B64 ^ m*(hi*B64+lo+1)≤B64 ^ m*(Q*top):=Nat.mul_le_mul_left _ h;rw [Nat.mul_left_comm] at hq;rw [Nat.mul_add] at h5;omega
  ·exact h
def Try (X Y P E t o:Nat):Prop:=E+t*Y=X+P*o∧o≤1∧E<P∧X / Y≤t∧t<B64
theorem try_first {X Y P E g o:Nat} (h:E+g*Y=X+P*o) (hE:E<P) (hYP:Y*B64≤P) (hg:X / Y≤g) (hgB:g<B64) (hY:0<Y):Try X Y P E g o:=by
 refine ⟨h,?_,hE,hg,hgB⟩;have h1:g*Y<B64*Y:=Nat.mul_lt_mul_of_pos_right hgB hY;rw [Nat.mul_comm Y] at hYP
 rcases Nat.lt_or_ge o 2 with h2|h2
 ·omega
 ·have:P*2≤P*o:=Nat.mul_le_mul_left _ h2
  omega
theorem try_more {X Y P E t o E' c:Nat} (h:Try X Y P E t o) (ho:o≠0) (hs:E'+P*c=E+Y) (hE' : E'<P) (hYP:Y*B64≤P) (hY:0<Y) :
  1≤t∧c≤o∧Try X Y P E' (t-1) (o-c):=by
 obtain ⟨h1,h2,h3,h4,h5⟩:=h;obtain rfl:o=1:=by omega
 have hYP' : Y≤P:=Nat.le_trans (Nat.le_mul_of_pos_right _ B64_pos) hYP;have ht:X<t*Y:=by omega
 have hq:X / Y<t:=by rw [Nat.div_lt_iff_lt_mul hY];exact ht
 have hc:c≤1:=by
  rcases Nat.lt_or_ge c 2 with h|h
  ·omega
  ·have:P*2≤P*c:=Nat.mul_le_mul_left _ h
   omega
 have h1t:1≤t:=Nat.lt_of_le_of_lt (Nat.zero_le _) hq;obtain ⟨k,rfl⟩:∃ k,t=k+1:=⟨t-1,by omega⟩;refine ⟨h1t,hc,?_,by omega,hE',Nat.le_of_lt_succ hq,by omega⟩;simp only [Nat.add_sub_cancel];rw [Nat.add_mul] at h1
 have:c=0∨c=1:=by omega
 rcases this with rfl|rfl
 ·simp at *;omega
 ·simp at *;omega
theorem try_pos {X Y P E t o:Nat} (h:Try X Y P E t o) (ho:o≠0):1≤t:=by
 obtain ⟨h1,h2,h3,_⟩:=h;obtain rfl:o=1:=by omega
 rcases Nat.eq_zero_or_pos t with h|h
 ·subst h;omega
 ·exact h
theorem try_done {X Y P E t:Nat} (h:Try X Y P E t 0) (hY:0<Y):t=X / Y∧E=X % Y:=by
 obtain ⟨h1,_,_,h4,_⟩:=h;have h5:t≤X / Y:=by rw [Nat.le_div_iff_mul_le hY];omega
 have:t=X / Y:=by omega
 subst this;refine ⟨rfl,?_⟩
 have:=Nat.div_add_mod X Y
 rw [Nat.mul_comm] at this;omega
def numL (l:List UInt8):Nat:=l.foldl (fun a b=>a*256+b.toNat) 0
theorem numL_nil:numL []=0:=rfl
theorem numL_snoc (l:List UInt8) (b:UInt8):numL (l++[b])=numL l*256+b.toNat:=by simp [numL]
theorem foldl_num (l:List UInt8):∀ a,l.foldl (fun a b=>a*256+b.toNat) a=a*256 ^ l.length+numL l:=by
 induction l with
 | nil=>intro a;simp [numL]
 | cons b l ih =>
  intro a;simp only [numL,List.foldl_cons,List.length_cons,Nat.pow_succ];rw [ih,ih (0*256+b.toNat)];simp only [Nat.add_mul,Nat.zero_mul,Nat.zero_add,Nat.mul_assoc,Nat.mul_comm 256];omega
theorem numL_append (l m:List UInt8):numL (l++m)=numL l*256 ^ m.length+numL m:=by
 rw [numL,List.foldl_append,foldl_num];rfl
theorem numL_cons (b:UInt8) (l:List UInt8):numL (b::l)=b.toNat*256 ^ l.length+numL l:=by
 have:=numL_append [b] l
 simpa [numL] using this
theorem numL_lt (l:List UInt8):numL l<256 ^ l.length:=by
 induction l with
 | nil=>simp [numL]
 | cons b l ih =>
  rw [numL_cons,List.length_cons,Nat.pow_succ];have h:=b.toNat_lt
  have:(b.toNat+1)*256 ^ l.length≤256*256 ^ l.length:=Nat.mul_le_mul_right _ h
  rw [Nat.add_mul,Nat.mul_comm 256] at this;omega
theorem numL_zeros (k:Nat) (l:List UInt8):numL (List.replicate k 0++l)=numL l:=by
 induction k with
 | zero=>simp
 | succ k ih=>rw [List.replicate_succ,List.cons_append,numL_cons,ih];simp
def NZ (l:List UInt8):Prop:=∀ b,l.head?=some b→b≠0
theorem NZ.nil:NZ []:=fun b h=>by cases h
theorem NZ.of_snoc {l:List UInt8} {b:UInt8} (h:NZ (l++[b])):NZ l:=by
 cases l with
 | nil=>exact NZ.nil
 | cons a l=>intro x hx;exact h x (by simpa using hx)
theorem NZ.snoc {l:List UInt8} {b:UInt8} (h:NZ l) (hb:l=[]→b≠0):NZ (l++[b]):=by
 cases l with
 | nil=>intro x hx;simp at hx;subst hx;exact hb rfl
 | cons a l=>intro x hx;exact h x (by simpa using hx)
def formF:Nat→Nat→List UInt8
 | 0,_=>[]
 | f+1,n=>if n=0 then [] else formF f (n / 256)++[UInt8.ofNat n]
def formL (n:Nat):List UInt8:=formF n n
theorem numL_zero_NZ:∀ {l:List UInt8},NZ l→numL l=0→l=[]
 | [],_,_=>rfl
 | b::l,h,hn=>by
  exfalso
  have hb:b≠0:=h b rfl;rw [numL_cons] at hn;have h0:b.toNat=0:=by
   rcases Nat.eq_zero_or_pos b.toNat with h|h
   ·exact h
   ·have:1*1≤b.toNat*256 ^ l.length:=Nat.mul_le_mul h (Nat.pow_pos (by omega))
    omega
  exact hb (UInt8.toNat_inj.1 (by simpa using h0))
theorem formF_rev (r:List UInt8):∀ (f n:Nat),n≤f→NZ r.reverse→numL r.reverse=n→formF f n=r.reverse:=by
 induction r with
 | nil=>intro f n _ _ h;simp only [List.reverse_nil,numL_nil] at h;subst h;cases f <;> simp [formF]
 | cons b l ih =>
  intro f n hf hz hn;rw [List.reverse_cons] at hz hn ⊢;have hnz:numL (l.reverse++[b])≠0:=fun h1=>by
   have:=numL_zero_NZ hz h1
   simp at this
  rw [numL_snoc] at hn hnz;have hb:=b.toNat_lt;have hn0:n≠0:=by omega
  cases f with
  | zero=>omega
  | succ f =>
   rw [formF,if_neg hn0,ih f (n / 256) (by omega) hz.of_snoc (by omega)]
   congr 2
   apply UInt8.toNat_inj.1
   simp;omega
theorem formF_of (l:List UInt8) (f n:Nat) (hf:n≤f) (hz:NZ l) (hn:numL l=n):formF f n=l:=by
 have:=formF_rev l.reverse f n hf (by rwa [List.reverse_reverse]) (by rwa [List.reverse_reverse])
 rwa [List.reverse_reverse] at this
theorem formL_of {l:List UInt8} {n:Nat} (hz:NZ l) (hn:numL l=n):formL n=l:=formF_of l n n (Nat.le_refl _) hz hn
theorem formF_num:∀ (f n:Nat),n≤f→numL (formF f n)=n∧NZ (formF f n)
 | 0,n,h=>by
  have:n=0:=by omega
  subst this;exact ⟨rfl,NZ.nil⟩
 | f+1,n,h=>by
  by_cases h0:n=0
  ·subst h0;simp [formF,numL_nil,NZ.nil]
  ·obtain ⟨h1,h2⟩:=formF_num f (n / 256) (by omega);rw [formF,if_neg h0];refine ⟨?_,h2.snoc ?_⟩
   ·rw [numL_snoc,h1];simp;omega
   ·intro he hb;rw [he,numL_nil] at h1
    have:(UInt8.ofNat n).toNat=0:=by rw [hb];rfl
    simp at this;omega
theorem numL_formL (n:Nat):numL (formL n)=n:=(formF_num n n (Nat.le_refl _)).1
theorem NZ_formL (n:Nat):NZ (formL n):=(formF_num n n (Nat.le_refl _)).2
theorem formL_inj {m n:Nat} (h:formL m=formL n):m=n:=by rw [← numL_formL m,h,numL_formL]
theorem formL_zero:formL 0=[]:=rfl
theorem NZ_dropWhile (l:List UInt8):NZ (l.dropWhile (· == 0)):=by
 intro b hb
 have:=List.head?_dropWhile_not (· == (0:UInt8)) l
 rw [hb] at this;simpa using this
theorem numL_dropWhile (l:List UInt8):numL (l.dropWhile (· == 0))=numL l:=by
 induction l with
 | nil=>rfl
 | cons b l ih =>
  by_cases hb:b=0
  ·subst hb;rw [List.dropWhile_cons_of_pos (by simp),ih,numL_cons];simp
  ·rw [List.dropWhile_cons_of_neg (by simpa using hb)]
theorem dropWhile_formL (l:List UInt8):l.dropWhile (· == 0)=formL (numL l):=(formL_of (NZ_dropWhile l) (numL_dropWhile l)).symm
def eightL (n:Nat):List UInt8:=[UInt8.ofNat (n / 72057594037927936),UInt8.ofNat (n / 281474976710656),UInt8.ofNat (n / 1099511627776),UInt8.ofNat (n / 4294967296),UInt8.ofNat (n / 16777216),UInt8.ofNat (n / 65536),UInt8.ofNat (n / 256),UInt8.ofNat n]
theorem numL_eightL {n:Nat} (h:n<B64):numL (eightL n)=n:=by
 unfold B64 at h;simp only [numL,eightL,List.foldl_cons,List.foldl_nil,UInt8.toNat_ofNat'];omega
theorem eightL_drop {n L:Nat} (hn:n<B64) (h1:n=0→L=0) (h2:0<n→1≤L∧2 ^ (L-1)≤n∧n<2 ^ L) (hL:L≤64) :
  (eightL n).drop ((64-L) / 8)=formL n:=by
 symm
 have h0:(eightL n).take ((64-L) / 8)=List.replicate ((64-L) / 8) 0∧NZ ((eightL n).drop ((64-L) / 8)):=by
  by_cases hz:n=0
  ·subst hz;rw [h1 rfl];exact ⟨by decide,NZ.nil⟩
  ·obtain ⟨b1,b2,b3⟩:=h2 (by omega);have key:∀ k,(64-L) / 8=k→k≤7→n<2 ^ (64-8*k)∧2 ^ (56-8*k)≤n:=fun k hk hk7=>by
    constructor
    ·exact Nat.lt_of_lt_of_le b3 (Nat.pow_le_pow_right (by omega) (by omega))
    ·exact Nat.le_trans (Nat.pow_le_pow_right (by omega) (by omega)) b2
   have hk:(64-L) / 8≤7:=by omega
   generalize (64-L) / 8=k at *;obtain ⟨k1,k2⟩:=key k rfl hk;have hk' : k=0∨k=1∨k=2∨k=3∨k=4∨k=5∨k=6∨k=7:=by omega
   have z:∀ m:Nat,m % 256=0→UInt8.ofNat m=0:=fun m hm=>UInt8.toNat_inj.1 (by simp [hm]);have nz:∀ m:Nat,m % 256≠0→UInt8.ofNat m≠0:=fun m hm h=>hm (by have:=congrArg UInt8.toNat h;simpa using this)
   rcases hk' with rfl|rfl|rfl|rfl|rfl|rfl|rfl|rfl
   all_goals
    simp only [eightL,List.drop_succ_cons,List.drop_zero,List.take_succ_cons,List.take_zero,List.replicate_succ,List.replicate_zero,Nat.reduceMul,Nat.reduceSub,Nat.reducePow] at k1 k2 ⊢;refine ⟨?_,?_⟩
    ·first
      | rfl
      | (simp only [List.cons.injEq,and_true];(repeat (first|exact z _ (by omega)|refine ⟨z _ (by omega),?_⟩)))
    ·intro b hb;simp only [List.head?_cons,Option.some.injEq] at hb;subst hb;exact nz _ (by omega)
 refine formL_of h0.2 ?_;have e:=numL_eightL hn;rw [← List.take_append_drop ((64-L) / 8) (eightL n),h0.1,numL_zeros] at e;exact e
def fb (n:Nat):ByteArray:=⟨(formL n).toArray⟩
def num (s:ByteArray):Nat:=numL s.data.toList
theorem fb_toList (n:Nat):(fb n).data.toList=formL n:=rfl
theorem num_fb (n:Nat):num (fb n)=n:=by unfold num;rw [fb_toList,numL_formL]
theorem fb_inj {m n:Nat} (h:fb m=fb n):m=n:=by rw [← num_fb m,h,num_fb]
theorem fb_size (n:Nat):(fb n).size=(formL n).length:=rfl
theorem num_lt (s:ByteArray):num s<256 ^ s.size:=by
 have h:=numL_lt s.data.toList;have e:s.data.toList.length=s.size:=rfl;rw [e] at h;exact h
theorem pow256_le {l:List UInt8} (hz:NZ l) (hl:l≠[]):256 ^ (l.length-1)≤numL l:=by
 cases l with
 | nil=>exact absurd rfl hl
 | cons b l =>
  rw [numL_cons,List.length_cons,Nat.add_sub_cancel];have hb:1≤b.toNat:=by
   have:b≠0:=hz b rfl
   rcases Nat.eq_zero_or_pos b.toNat with h|h
   ·exact absurd (UInt8.toNat_inj.1 (by simpa using h)) this
   ·exact h
  have:=Nat.mul_le_mul_right (256 ^ l.length) hb
  omega
theorem length_formL_le {n k:Nat} (h:n<256 ^ k):(formL n).length≤k:=by
 rcases Nat.lt_or_ge k (formL n).length with hlt|hge
 ·exfalso
  have h1:=pow256_le (NZ_formL n) (by intro e;rw [e] at hlt;simp at hlt);rw [numL_formL] at h1
  have:256 ^ k≤256 ^ ((formL n).length-1):=Nat.pow_le_pow_right (by omega) (by omega)
  omega
 ·exact hge
theorem fb_size_le {n k:Nat} (h:n<256 ^ k):(fb n).size≤k:=length_formL_le h
theorem fb_num_size (s:ByteArray):(fb (num s)).size≤s.size:=fb_size_le (num_lt s)
theorem lt_of_length {x y:Nat} (h:(formL x).length<(formL y).length):x<y:=by
 have h1:=numL_lt (formL x);rw [numL_formL] at h1;have h2:=pow256_le (NZ_formL y) (by intro e;rw [e] at h;simp at h);rw [numL_formL] at h2
 have:256 ^ (formL x).length≤256 ^ ((formL y).length-1):=Nat.pow_le_pow_right (by omega) (by omega)
 omega
def cmpN (x y:Nat):Int:=if x<y then -1 else if y<x then 1 else 0
theorem compareBytes_num:∀ (l m:List UInt8),l.length=m.length→Lib.compareBytes l m=cmpN (numL l) (numL m)
 | [],[],_=>rfl
 | a::l,b::m,h=>by
  have hl:l.length=m.length:=by simpa using h
  have h1:=numL_lt l;have h2:=numL_lt m;rw [Lib.compareBytes,numL_cons,numL_cons,hl,compareBytes_num l m hl];rw [hl] at h1;have ha:a<b↔a.toNat<b.toNat:=UInt8.lt_iff_toNat_lt;have hb:b<a↔b.toNat<a.toNat:=UInt8.lt_iff_toNat_lt;generalize 256 ^ m.length=P at *
  by_cases c1:a<b
  ·rw [if_pos c1]
   have:(a.toNat+1)*P≤b.toNat*P:=Nat.mul_le_mul_right _ (ha.1 c1)
   rw [Nat.add_mul] at this;unfold cmpN;rw [if_pos (by omega)]
  ·rw [if_neg c1]
   by_cases c2:b<a
   ·rw [if_pos c2]
    have:(b.toNat+1)*P≤a.toNat*P:=Nat.mul_le_mul_right _ (hb.1 c2)
    rw [Nat.add_mul] at this;unfold cmpN;rw [if_neg (by omega),if_pos (by omega)]
   ·rw [if_neg c2];have e:a.toNat=b.toNat:=by
     have:=mt ha.2 c1
     have:=mt hb.2 c2
     omega
    rw [e];unfold cmpN
    by_cases c3:numL l<numL m
    ·rw [if_pos c3,if_pos (by omega)]
    ·by_cases c4:numL m<numL l
     ·rw [if_neg c3,if_pos c4,if_neg (by omega),if_pos (by omega)]
     ·rw [if_neg c3,if_neg c4,if_neg (by omega),if_neg (by omega)]
theorem compareInt_len {x y:Nat} (h:(formL x).length≠(formL y).length):Lib.compareInt ((formL x).length:Int) ((formL y).length:Int)=cmpN x y:=by
 unfold Lib.compareInt cmpN
 rcases Nat.lt_or_gt_of_ne h with h|h
 ·rw [if_pos (by omega),if_pos (lt_of_length h)]
 ·have:=lt_of_length h
  rw [if_neg (by omega),if_pos (by omega),if_neg (by omega),if_pos this]
def bl (n:Nat):Nat:=if n=0 then 0 else n.log2+1
theorem bl_zero:bl 0=0:=rfl
theorem bl_of {n k:Nat} (h1:2 ^ k≤n) (h2:n<2 ^ (k+1)):bl n=k+1:=by
 have h0:n≠0:=by have:=Nat.two_pow_pos k;omega
 unfold bl;rw [if_neg h0];have a:=(Nat.log2_lt h0).2 h2;have b:=(Nat.le_log2 h0).2 h1;omega
theorem bl_bounds {n:Nat} (h:0<n):1≤bl n∧2 ^ (bl n-1)≤n∧n<2 ^ bl n:=by
 unfold bl;rw [if_neg (by omega)];exact ⟨by omega,Nat.log2_self_le (by omega),Nat.lt_log2_self⟩
theorem bitLen_bl {x:Nat} (h:x<2 ^ 64):Lib.bitLen x=bl x:=by
 rcases Nat.eq_zero_or_pos x with rfl|h0
 ·rfl
 ·obtain ⟨a,b,c⟩:=Lib.bitLenAux_bounds 64 x h (by omega);have e:Lib.bitLen x=Lib.bitLenAux 64 x:=rfl;rw [← e] at a b c;obtain ⟨k,hk⟩:∃ k,Lib.bitLen x=k+1:=⟨Lib.bitLen x-1,by omega⟩;rw [hk] at b c ⊢;exact (bl_of (by simpa using b) c).symm
theorem bl_cons {b:UInt8} {l:List UInt8} (hb:b≠0):bl (numL (b::l))=bl b.toNat+8*l.length:=by
 have h0:0<b.toNat:=by
  rcases Nat.eq_zero_or_pos b.toNat with h|h
  ·exact absurd (UInt8.toNat_inj.1 (by simpa using h)) hb
  ·exact h
 obtain ⟨h1,h2,h3⟩:=bl_bounds h0;have h4:=numL_lt l;have e:256 ^ l.length=2 ^ (8*l.length):=by rw [Nat.pow_mul]
 rw [numL_cons];rw [e] at h4 ⊢;obtain ⟨k,hk⟩:∃ k,bl b.toNat=k+1:=⟨bl b.toNat-1,by omega⟩;rw [hk] at h2 h3 ⊢;simp only [Nat.add_sub_cancel] at h2;rw [show k+1+8*l.length=(k+8*l.length)+1 by omega];refine bl_of ?_ ?_
 ·rw [Nat.pow_add]
  have:=Nat.mul_le_mul_right (2 ^ (8*l.length)) h2
  omega
 ·rw [show k+8*l.length+1=(k+1)+8*l.length by omega,Nat.pow_add]
  have:=Nat.mul_le_mul_right (2 ^ (8*l.length)) (Nat.succ_le_of_lt h3)
  rw [Nat.succ_mul] at this;omega
def tzF:Nat→Nat→Nat
 | 0,_=>0
 | f+1,n=>if n=0∨n % 2=1 then 0 else 1+tzF f (n / 2)
def tz (n:Nat):Nat:=tzF n n
theorem tzF_of:∀ (z m f:Nat),2 ^ z*(2*m+1)≤f→tzF f (2 ^ z*(2*m+1))=z
 | 0,m,f,h=>by
  cases f with
  | zero=>omega
  | succ f=>rw [tzF,if_pos (by omega)]
 | z+1,m,f,h=>by
  have e:2 ^ (z+1)*(2*m+1)=2*(2 ^ z*(2*m+1)):=by rw [Nat.pow_succ];simp only [Nat.mul_comm,Nat.mul_left_comm]
  have hp:0<2 ^ z*(2*m+1):=Nat.mul_pos (Nat.two_pow_pos _) (by omega);rw [e] at h ⊢
  cases f with
  | zero=>omega
  | succ f =>
   rw [tzF,if_neg (by omega),show 2*(2 ^ z*(2*m+1)) / 2=2 ^ z*(2*m+1) by omega,tzF_of z m f (by omega)];omega
theorem tz_of (z m:Nat):tz (2 ^ z*(2*m+1))=z:=tzF_of z m _ (Nat.le_refl _)
theorem tz_ex {n:Nat} (h:0<n):∃ z m,n=2 ^ z*(2*m+1):=by
 induction n using Nat.strongRecOn with
 | ind n ih =>
  by_cases h2:n % 2=1
  ·exact ⟨0,n / 2,by omega⟩
  ·obtain ⟨z,m,e⟩:=ih (n / 2) (by omega) (by omega);refine ⟨z+1,m,?_⟩
   have:n=2*(n / 2):=by omega
   rw [this,e,Nat.pow_succ];simp only [Nat.mul_comm,Nat.mul_left_comm]
theorem tz_mul_pow {n:Nat} (h:0<n) (k:Nat):tz (n*2 ^ k)=tz n+k:=by
 obtain ⟨z,m,rfl⟩:=tz_ex h;rw [tz_of,Nat.mul_right_comm,← Nat.pow_add,tz_of]
theorem trailingZeros8_eq:∀ n:Fin 256,n.val≠0→Lib.trailingZeros8 n.val=tz n.val:=by decide +kernel
theorem tz_bytes (l:List UInt8) (b:UInt8) (k:Nat) (hb:b≠0):tz (numL (l++[b]++List.replicate k 0))=tz b.toNat+8*k:=by
 have h0:0<b.toNat:=by
  rcases Nat.eq_zero_or_pos b.toNat with h|h
  ·exact absurd (UInt8.toNat_inj.1 (by simpa using h)) hb
  ·exact h
 rw [numL_append,numL_snoc,List.length_replicate];have e1:numL (List.replicate k 0)=0:=by have:=numL_zeros k [];simpa [numL_nil] using this
 rw [e1,Nat.add_zero,show 256 ^ k=2 ^ (8*k) by rw [Nat.pow_mul],tz_mul_pow (by omega)]
 congr 1
 obtain ⟨z,m,e⟩:=tz_ex h0;have hz:z<8:=by
  rcases Nat.lt_or_ge z 8 with h|h
  ·exact h
  ·have:=b.toNat_lt
   have h2:2 ^ 8*1≤2 ^ z*(2*m+1):=Nat.mul_le_mul (Nat.pow_le_pow_right (by omega) h) (by omega);omega
 rw [e,tz_of];have e2:(256:Nat)=2 ^ z*(2*2 ^ (7-z)):=by
  rw [Nat.mul_left_comm,← Nat.pow_add,show z+(7-z)=7 by omega]
 rw [e2,Nat.mul_left_comm,← Nat.mul_add,show numL l*(2*2 ^ (7-z))+(2*m+1)=2*(numL l*2 ^ (7-z)+m)+1 by rw [Nat.mul_left_comm];omega,tz_of]
theorem fb_first {n:Nat} (h:n≠0):0<(fb n).size∧∀ hp:0<(fb n).size,bl n=bl ((fb n)[0]).toNat+8*((fb n).size-1):=by
 cases hl:formL n with
 | nil=>exact absurd (by have:=numL_formL n;rw [hl] at this;exact this.symm) h
 | cons b l =>
  have hs:(fb n).size=l.length+1:=by rw [fb_size,hl];rfl
  refine ⟨by omega,fun hp=>?_⟩;have hb:(fb n)[0]=b:=by
   have:(fb n)[0]=(formL n)[0]'(by rw [hl];simp):=rfl
   rw [this];simp [hl]
  have hz:b≠0:=NZ_formL n b (by rw [hl];rfl);have e:=numL_formL n;rw [hl] at e;rw [hb,hs,← e,bl_cons hz];simp
theorem dropWhile_split (l:List UInt8):l=List.replicate (l.length-(l.dropWhile (· == 0)).length) 0++l.dropWhile (· == 0):=by
 induction l with
 | nil=>rfl
 | cons b l ih =>
  by_cases hb:b=0
  ·subst hb;rw [List.dropWhile_cons_of_pos (by simp)];have hle:(l.dropWhile (· == 0)).length≤l.length:=(List.dropWhile_sublist _).length_le;rw [List.length_cons,show l.length+1-(l.dropWhile (· == 0)).length=(l.length-(l.dropWhile (· == 0)).length)+1 by omega,List.replicate_succ,List.cons_append,← ih]
  ·rw [List.dropWhile_cons_of_neg (by simpa using hb)];simp
theorem trimRight_split (l:List UInt8):l=Lib.trimRightB l 0++List.replicate (l.length-(Lib.trimRightB l 0).length) 0:=by
 unfold Lib.trimRightB;have h:=dropWhile_split l.reverse;have h2:=congrArg List.reverse h;rw [List.reverse_reverse,List.reverse_append,List.reverse_replicate,List.length_reverse] at h2;rw [List.length_reverse];exact h2
theorem trimRight_last (l:List UInt8):Lib.trimRightB l 0=[]∨∃ m b,Lib.trimRightB l 0=m++[b]∧b≠0:=by
 unfold Lib.trimRightB;have hz:=NZ_dropWhile l.reverse
 cases hl:l.reverse.dropWhile (· == 0) with
 | nil=>exact .inl rfl
 | cons b m=>exact .inr ⟨m.reverse,b,by simp,hz b (by rw [hl];rfl)⟩
theorem zeros_split (l:List UInt8):(Lib.trimRightB l 0=[]∧tz (numL l)=0)∨∃ m b,Lib.trimRightB l 0=m++[b]∧b≠0∧tz (numL l)=tz b.toNat+8*(l.length-(m.length+1)):=by
 have h:=trimRight_split l
 rcases trimRight_last l with e|⟨m,b,e,hb⟩
 ·refine .inl ⟨e,?_⟩;rw [e,List.nil_append] at h
  have:numL l=0:=by rw [h];have:=numL_zeros (l.length-([]:List UInt8).length) [];simpa [numL_nil] using this
  rw [this];rfl
 ·refine .inr ⟨m,b,e,hb,?_⟩;rw [e] at h;have h2:(m++[b]).length=m.length+1:=by simp
  rw [h2] at h;have h3:=tz_bytes m b (l.length-(m.length+1)) hb;rw [← h] at h3;exact h3
theorem split8 (t:ByteArray) (h:8≤t.size):∃ (c0 c1 c2 c3 c4 c5 c6 c7:UInt8) (v:ByteArray),t.extract (t.size-8) t.size=⟨#[c0,c1,c2,c3,c4,c5,c6,c7]⟩∧t.extract 0 (t.size-8)=v ∧
  t.data.toList=v.data.toList++[c0,c1,c2,c3,c4,c5,c6,c7]∧v.size=t.size-8:=by
 obtain ⟨l,hl⟩:∃ l,l=t.data.toList:=⟨_,rfl⟩;have hlen:l.length=t.size:=by rw [hl];rfl
 have hd:(l.drop (l.length-8)).length=8:=by rw [List.length_drop];omega
 match hm:l.drop (l.length-8),hd with
 | [c0,c1,c2,c3,c4,c5,c6,c7],_ =>
  refine ⟨c0,c1,c2,c3,c4,c5,c6,c7,_,?_,rfl,?_,?_⟩
  ·apply ByteArray.ext
   apply Array.ext'
   rw [ByteArray.data_extract];simp only [Array.toList_extract];rw [← hl];have e:l.extract (t.size-8) t.size=l.drop (l.length-8):=by
    rw [List.extract_eq_take_drop,← hlen,List.take_of_length_le (by rw [List.length_drop];omega)]
   rw [e,hm]
  ·rw [← hl];have e:(t.extract 0 (t.size-8)).data.toList=l.take (l.length-8):=by
    rw [ByteArray.data_extract,Array.toList_extract,← hl,List.extract_eq_take_drop,← hlen];simp
   rw [e,← hm,List.take_append_drop]
  ·rw [ByteArray.size_extract];omega
def dig8 (c0 c1 c2 c3 c4 c5 c6 c7:UInt8):Nat:=numL [c0,c1,c2,c3,c4,c5,c6,c7]
theorem dig8_eq (c0 c1 c2 c3 c4 c5 c6 c7:UInt8):dig8 c0 c1 c2 c3 c4 c5 c6 c7=c0.toNat*72057594037927936+c1.toNat*281474976710656+c2.toNat*1099511627776+c3.toNat*4294967296+c4.toNat*16777216+c5.toNat*65536+c6.toNat*256+c7.toNat:=by
 simp only [dig8,numL,List.foldl_cons,List.foldl_nil];omega
theorem dig8_lt (c0 c1 c2 c3 c4 c5 c6 c7:UInt8):dig8 c0 c1 c2 c3 c4 c5 c6 c7<B64:=by
 have h:numL [c0,c1,c2,c3,c4,c5,c6,c7]<256 ^ 8:=numL_lt [c0,c1,c2,c3,c4,c5,c6,c7];rw [show (256:Nat) ^ 8=B64 from rfl] at h;exact h
theorem or_byte (a k:Nat) (c:UInt8) (ha:a<2 ^ k) (hk:k≤56):bits .or .u64 (a:Int) (IntKind.u64.wrap ((c.toNat:Int)*2 ^ k))=((a+c.toNat*2 ^ k:Nat):Int):=by
 have hc:=c.toNat_lt;have hp:2 ^ k≤2 ^ 56:=Nat.pow_le_pow_right (by omega) hk;have h1:c.toNat*2 ^ k≤255*2 ^ k:=Nat.mul_le_mul_right _ (by omega);have h2:c.toNat*2 ^ k<18446744073709551616:=by
  have:255*2 ^ k≤255*2 ^ 56:=Nat.mul_le_mul_left _ hp
  omega
 have e:IntKind.u64.wrap ((c.toNat:Int)*2 ^ k)=((c.toNat*2 ^ k:Nat):Int):=by
  have e1:((c.toNat:Int)*2 ^ k)=((c.toNat*2 ^ k:Nat):Int):=by simp
  rw [e1,IntKind.wrap_u64];omega
 rw [e,u64_or_nat _ _ (by omega) h2,Nat.or_comm,or_add _ _ _ ha,Nat.add_comm]
theorem wrap_byte (c:UInt8):IntKind.u64.wrap (c.toNat:Int)=(c.toNat:Int):=by
 have:=c.toNat_lt
 rw [IntKind.wrap_u64];omega
theorem or_eight (c0 c1 c2 c3 c4 c5 c6 c7:UInt8):∃ A1 A2 A3 A4 A5 A6:Nat,
  bits .or .u64 (c7.toNat:Int) (IntKind.u64.wrap ((c6.toNat:Int)*256))=(A1:Int) ∧
  bits .or .u64 (A1:Int) (IntKind.u64.wrap ((c5.toNat:Int)*65536))=(A2:Int) ∧
  bits .or .u64 (A2:Int) (IntKind.u64.wrap ((c4.toNat:Int)*16777216))=(A3:Int) ∧
  bits .or .u64 (A3:Int) (IntKind.u64.wrap ((c3.toNat:Int)*4294967296))=(A4:Int) ∧
  bits .or .u64 (A4:Int) (IntKind.u64.wrap ((c2.toNat:Int)*1099511627776))=(A5:Int) ∧
  bits .or .u64 (A5:Int) (IntKind.u64.wrap ((c1.toNat:Int)*281474976710656))=(A6:Int) ∧
  bits .or .u64 (A6:Int) (IntKind.u64.wrap ((c0.toNat:Int)*72057594037927936))=((dig8 c0 c1 c2 c3 c4 c5 c6 c7:Nat):Int):=by
 have h7:=c7.toNat_lt;have h6:=c6.toNat_lt;have h5:=c5.toNat_lt;have h4:=c4.toNat_lt;have h3:=c3.toNat_lt;have h2:=c2.toNat_lt;have h1:=c1.toNat_lt;refine ⟨_,_,_,_,_,_,or_byte c7.toNat 8 c6 (by omega) (by omega),or_byte _ 16 c5 ?_ (by omega),or_byte _ 24 c4 ?_ (by omega),or_byte _ 32 c3 ?_ (by omega),or_byte _ 40 c2 ?_ (by omega),or_byte _ 48 c1 ?_ (by omega),?_⟩
 ·omega
 ·omega
 ·omega
 ·omega
 ·omega
 ·refine (or_byte _ 56 c0 ?_ (by omega)).trans ?_
  ·omega
  ·rw [dig8_eq];congr 1;omega
theorem or_low (a:Nat) (c:UInt8) (ha:a<72057594037927936):bits .or .u64 (IntKind.u64.wrap ((a:Int)*256)) (c.toNat:Int)=((a*256+c.toNat:Nat):Int):=by
 have hc:=c.toNat_lt;have e:IntKind.u64.wrap ((a:Int)*256)=((a*256:Nat):Int):=by
  rw [IntKind.wrap_u64];omega
 rw [e,u64_or_nat _ _ (by omega) (by omega)]
 have:=or_add a c.toNat 8 (by omega)
 rw [show (2:Nat) ^ 8=256 from rfl] at this;rw [this]
theorem numL_take_succ (l:List UInt8) (k:Nat) (h:k<l.length):numL (l.take (k+1))=numL (l.take k)*256+l[k].toNat:=by
 rw [List.take_succ_eq_append_getElem h,numL_snoc]
theorem numL_take_lt (l:List UInt8) (k:Nat) (h:k<8) (hl:l.length<8) (hk:k<l.length):numL (l.take k)<72057594037927936:=by
 have h1:=numL_lt (l.take k);have h2:(l.take k).length≤6:=by rw [List.length_take];omega
 have h3:256 ^ (l.take k).length≤256 ^ 6:=Nat.pow_le_pow_right (by omega) h2;omega
theorem num8 (t v:ByteArray) (c0 c1 c2 c3 c4 c5 c6 c7:UInt8) (h:t.data.toList=v.data.toList++[c0,c1,c2,c3,c4,c5,c6,c7]):num t=num v*B64+dig8 c0 c1 c2 c3 c4 c5 c6 c7:=by
 unfold num dig8;rw [h,numL_append];show _*256 ^ 8+_=_;rw [show (256:Nat) ^ 8=B64 from rfl]
theorem NZ_append {l m:List UInt8} (h:NZ (l++m)):NZ l:=by
 intro b hb;refine h b ?_
 cases l with
 | nil=>cases hb
 | cons x l=>exact hb
theorem dig8_pos {l:List UInt8} {c0 c1 c2 c3 c4 c5 c6 c7:UInt8} (h:NZ (l++[c0,c1,c2,c3,c4,c5,c6,c7])) (hl:l=[]):dig8 c0 c1 c2 c3 c4 c5 c6 c7≠0:=by
 subst hl;intro e
 have:=numL_zero_NZ h e
 cases this
theorem toList_isEmpty (t:ByteArray):t.toList.isEmpty=decide (t.size=0):=by
 rw [Lib.toList_data,Bool.eq_iff_iff];simp
 constructor
 ·intro h;exact ByteArray.ext h
 ·intro h;rw [h];rfl
theorem numL_flat (ds:List Nat) (hd:Dig ds):numL (ds.reverse.flatMap eightL)=val ds:=by
 induction ds with
 | nil=>rfl
 | cons d ds ih =>
  have h1:d<B64:=hd d (List.mem_cons_self ..);rw [List.reverse_cons,List.flatMap_append,numL_append,ih (fun x hx=>hd x (List.mem_cons_of_mem _ hx)),List.flatMap_singleton,numL_eightL h1];simp only [val,eightL,List.length_cons,List.length_nil];rw [Nat.mul_comm B64]
  have:(256:Nat) ^ (0+1+1+1+1+1+1+1+1)=B64:=rfl
  rw [this];omega
def gone (sk:Nat) (l:List Nat):List UInt8:=(l.flatMap eightL).drop sk
theorem gone_nil (sk:Nat):gone sk []=[]:=by simp [gone]
theorem gone_more {sk:Nat} {l:List Nat} (h:l≠[]) (hs:sk≤8) (x:Nat):gone sk (l++[x])=gone sk l++eightL x:=by
 unfold gone;rw [List.flatMap_append,List.drop_append_of_le_length,List.flatMap_singleton]
 cases l with
 | nil=>exact absurd rfl h
 | cons a l=>simp [eightL];omega
def skv (sk:Nat) (pre:List (Nat × Nat)):Nat:=if pre.isEmpty then sk else 0
theorem gone_step (sk:Nat) (pre:List (Nat × Nat)) (x:Nat × Nat) (hs:sk≤8):gone sk ((pre++[x]).map (·.2))=gone sk (pre.map (·.2))++(eightL x.2).drop (skv sk pre):=by
 cases pre with
 | nil=>simp [gone,skv]
 | cons y pre =>
  have h:=gone_more (sk:=sk) (l:=(y::pre).map (·.2)) (by simp) hs x.2;rw [List.map_append];have e:skv sk (y::pre)=0:=rfl;rw [e,List.drop_zero];exact h
theorem gone_length {sk:Nat} (l:List Nat):(gone sk l).length≤8*l.length:=by
 unfold gone;rw [List.length_drop]
 have:(l.flatMap eightL).length=8*l.length:=by
  induction l with
  | nil=>rfl
  | cons a l ih=>simp [eightL,ih];omega
 omega
theorem gone_all {ds:List Nat} {d sk:Nat} (hd:Dig (ds++[d])) (h0:d≠0) (hs:sk<8) (hsk:(eightL d).drop sk=formL d):gone sk (ds++[d]).reverse=formL (val (ds++[d])):=by
 symm
 have hdB:d<B64:=hd d (by simp);have e:gone sk (ds++[d]).reverse=formL d++ds.reverse.flatMap eightL:=by
  unfold gone;rw [List.reverse_append,List.reverse_singleton,List.singleton_append,List.flatMap_cons,List.drop_append_of_le_length (by simp [eightL];omega),hsk]
 rw [e];have hl:∀ l:List Nat,(l.flatMap eightL).length=8*l.length:=by
  intro l
  induction l with
  | nil=>rfl
  | cons a l ih=>simp [eightL,ih];omega
 refine formL_of ?_ ?_
 ·cases hf:formL d with
  | nil=>exact absurd (by have:=numL_formL d;rw [hf] at this;exact this.symm) h0
  | cons b l =>
   intro x hx;simp at hx;subst hx;exact NZ_formL d b (by rw [hf];rfl)
 ·rw [numL_append,numL_formL,hl,List.length_reverse,numL_flat ds hd.of_append.1,val_snoc];rw [show (256:Nat) ^ (8*ds.length)=B64 ^ ds.length by rw [Nat.pow_mul];rfl,Nat.mul_comm d];omega
theorem backs_map (ds:List Nat):((List.range ds.length).map fun j=>ds.getD (ds.length-1-j) 0)=ds.reverse:=by
 apply List.ext_getElem
 ·simp
 ·intro i h1 h2;have hi:i<ds.length:=by simpa using h1
  simp [List.getElem_reverse,show ds.length-1-i<ds.length by omega]
def DJ (A Y k:Nat) (X Q:List Nat):Prop:=val X+B64 ^ k*val (Q.drop k)*Y=A∧val (X.drop k)<Y
theorem dj_window {A Y k n:Nat} {X Q:List Nat} (h:DJ A Y (k+1) X Q) (hX:Dig X) (hl:k+n+1≤X.length) (hY:Y<B64 ^ n) :
  val (X.drop (k+n+1))=0∧val ((X.drop k).take (n+1))<Y*B64:=by
 obtain ⟨_,h2⟩:=h;have e1:X.drop (k+1)=(X.drop (k+1)).take n++X.drop (k+n+1):=by
  conv=>lhs;rw [← List.take_append_drop n (X.drop (k+1))]
  rw [List.drop_drop,show k+1+n=k+n+1 by omega]
 have hz:val (X.drop (k+n+1))=0:=by
  rw [e1,val_append,List.length_take,List.length_drop,Nat.min_eq_left (by omega)] at h2
  rcases Nat.eq_zero_or_pos (val (X.drop (k+n+1))) with h|h
  ·exact h
  ·have:B64 ^ n*1≤B64 ^ n*val (X.drop (k+n+1)):=Nat.mul_le_mul_left _ h
   omega
 refine ⟨hz,?_⟩;have hk:k<X.length:=by omega
 rw [List.drop_eq_getElem_cons hk,List.take_succ_cons];have h3:val ((X.drop (k+1)).take n)<Y:=by
  rw [e1,val_append,hz] at h2;omega
 simp only [val];have h4:X[k]<B64:=hX.get hk;have h5:(val ((X.drop (k+1)).take n)+1)*B64≤Y*B64:=Nat.mul_le_mul_right _ h3;rw [Nat.add_mul,Nat.mul_comm] at h5;omega
theorem dj_step {A Y k n:Nat} {X Q es:List Nat} (h:DJ A Y (k+1) X Q) (hX:Dig X) (hl:k+n+1≤X.length) (hY:Y<B64 ^ n) (hY0:0<Y) (hQ:k<Q.length)
  (hel:es.length=n+1) (he:val es=val ((X.drop k).take (n+1)) % Y) :
  DJ A Y k (X.take k++es++X.drop (k+n+1)) (Q.set k (val ((X.drop k).take (n+1)) / Y)):=by
 obtain ⟨hz,hw⟩:=dj_window h hX hl hY;obtain ⟨h1,h2⟩:=h;obtain ⟨V,hV⟩:∃ V,V=val ((X.drop k).take (n+1)):=⟨_,rfl⟩;rw [← hV] at he hw ⊢;have eX:val X=val (X.take k)+B64 ^ k*V:=by
  rw [val_split X k (by omega),hV]
  congr 2
  conv=>lhs;rw [← List.take_append_drop (n+1) (X.drop k)]
  rw [List.drop_drop,val_append,show k+(n+1)=k+n+1 by omega,hz];omega
 have eQ:val ((Q.set k (V / Y)).drop k)=V / Y+B64*val (Q.drop (k+1)):=by
  rw [List.drop_eq_getElem_cons (by simpa using hQ)];simp only [val,List.getElem_set_self]
  congr 3
  rw [List.drop_set_of_lt (by omega)]
 have hdm:=Nat.div_add_mod V Y
 constructor
 ·rw [eQ,List.append_assoc,val_append,val_append,hz,Nat.mul_zero,Nat.add_zero,List.length_take,Nat.min_eq_left (by omega),he];rw [eX,Nat.pow_succ] at h1;rw [← h1];have e2:B64 ^ k*V=B64 ^ k*(V / Y*Y)+B64 ^ k*(V % Y):=by rw [← Nat.mul_add,Nat.mul_comm (V / Y),hdm]
  rw [e2,Nat.mul_add,Nat.add_mul,Nat.mul_assoc (B64 ^ k) B64,Nat.mul_assoc (B64 ^ k) (V / Y)];omega
 ·have hlen:(X.take k).length=k:=by simp;omega
  have:(X.take k++es++X.drop (k+n+1)).drop k=es++X.drop (k+n+1):=by
   rw [List.append_assoc,List.drop_append_of_le_length (by omega),List.drop_of_length_le (by omega),List.nil_append]
  rw [this,val_append,hz,he]
  have:=Nat.mod_lt V hY0
  omega
theorem dj_start {A Y M n s:Nat} {X Q:List Nat} (hXA:val X=A) (hXl:X.length=M+n) (hQ:Q.length=M) (hA:A<B64 ^ (M+n-1)*2 ^ s) (hY:B64 ^ (n-1)*2 ^ s≤Y) (hn:1≤n) :
  DJ A Y M X Q:=by
 refine ⟨by rw [List.drop_of_length_le (by omega)];simp [val,hXA],?_⟩;refine Nat.lt_of_lt_of_le ?_ hY;have h1:=val_split X M (by omega);rw [hXA] at h1;have e:B64 ^ (M+n-1)=B64 ^ M*B64 ^ (n-1):=by rw [← Nat.pow_add];congr 1;omega
 rw [e,Nat.mul_assoc] at hA
 rcases Nat.lt_or_ge (val (X.drop M)) (B64 ^ (n-1)*2 ^ s) with h|h
 ·exact h
 ·have:B64 ^ M*(B64 ^ (n-1)*2 ^ s)≤B64 ^ M*val (X.drop M):=Nat.mul_le_mul_left _ h
  omega
theorem dj_done {A Y:Nat} {X Q:List Nat} (h:DJ A Y 0 X Q):val Q=A / Y∧val X=A % Y:=by
 obtain ⟨h1,h2⟩:=h;simp only [Nat.pow_zero,Nat.one_mul,List.drop_zero] at h1 h2
 have:=(Nat.div_mod_unique (b:=Y) (a:=A) (c:=val X) (d:=val Q) (by omega)).2 ⟨by rw [Nat.mul_comm];exact h1,h2⟩
 exact ⟨this.1.symm,this.2.symm⟩
theorem norm_ups {ys:List Nat} {n s:Nat} (hl:ys.length=n) (hn:1≤n) (hs:s<64) (h1:ys.getD (n-1) 0*2 ^ s<B64) (h2:9223372036854775808≤ys.getD (n-1) 0*2 ^ s) :
  val ((ups s 0 ys).take n)=val ys*2 ^ s∧9223372036854775808≤((ups s 0 ys).take n).getD (n-1) 0:=by
 have hul:(ups s 0 ys).length=n+1:=by rw [length_ups,hl]
 have hlast:(ups s 0 ys)[n]'(by omega)=0:=by
  rw [ups_get,if_neg (by omega)]
  have:ys.getD n 0=0:=by simp [hl]
  rw [this,Nat.zero_mul,Nat.zero_mod,Nat.zero_add];refine Nat.div_eq_of_lt ?_
  rcases Nat.lt_or_ge (ys.getD (n-1) 0) (2 ^ (64-s)) with h|h
  ·exact h
  ·exfalso
   have:2 ^ (64-s)*2 ^ s≤ys.getD (n-1) 0*2 ^ s:=Nat.mul_le_mul_right _ h
   rw [Nat.mul_comm,B64_split (by omega)] at this;omega
 constructor
 ·have h:=val_split (ups s 0 ys) n (by omega);rw [val_ups hs,List.drop_eq_getElem_cons (by omega),hlast,List.drop_of_length_le (by omega)] at h;simp only [val] at h;omega
 ·have e:((ups s 0 ys).take n).getD (n-1) 0=(ups s 0 ys)[n-1]'(by omega):=by
   simp [hul,show n-1<n by omega]
  rw [e,ups_get,Nat.mod_eq_of_lt h1];omega
end Go.Proofs.YtiddgplapodleaaGreatDoor
