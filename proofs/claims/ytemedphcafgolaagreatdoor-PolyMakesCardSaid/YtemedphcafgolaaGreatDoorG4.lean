/- Layer 1, laid together: RefNum, Ref1, Ref2, Ref3, Ref4, Ref5, Ref6, Ref7, Ref8, Ref9. -/
import Derived.Test.YtemedphcafgolaaGreatDoorG3
/- Plain facts on rows of bits: no program stands in this text. -/
namespace Go.Proofs.YtemedphcafgolaaGreatDoor
set_option maxRecDepth 100000
set_option maxHeartbeats 1600000
def val2:List Nat→Nat
 | []=>0
 | b::bs=>b+2*val2 bs
def Bit (bs:List Nat):Prop:=∀ b∈bs,b<2
theorem Bit.nil:Bit []:=fun _ h=>by cases h
theorem Bit.append {xs ys:List Nat} (hx:Bit xs) (hy:Bit ys):Bit (xs++ys):=by
 intro d hd
 rcases List.mem_append.1 hd with h|h
 ·exact hx d h
 ·exact hy d h
theorem Bit.one {b:Nat} (h:b<2):Bit [b]:=by intro d hd;simp at hd;omega
theorem Bit.take {xs:List Nat} (hx:Bit xs) (n:Nat):Bit (xs.take n):=fun d hd=>hx d (List.mem_of_mem_take hd)
theorem Bit.drop {xs:List Nat} (hx:Bit xs) (n:Nat):Bit (xs.drop n):=fun d hd=>hx d (List.mem_of_mem_drop hd)
theorem Bit.get {xs:List Nat} (hx:Bit xs) {i:Nat} (h:i<xs.length):xs[i]<2:=hx _ (List.getElem_mem h)
theorem Bit.getD {xs:List Nat} (hx:Bit xs) (i:Nat):xs.getD i 0<2:=by
 rcases Nat.lt_or_ge i xs.length with h|h
 ·simp [h];exact hx.get h
 ·simp [h]
theorem val2_append (xs ys:List Nat):val2 (xs++ys)=val2 xs+2 ^ xs.length*val2 ys:=by
 induction xs with
 | nil=>simp [val2]
 | cons x xs ih =>
  rw [List.cons_append,val2,val2,ih,List.length_cons,Nat.pow_succ,Nat.mul_add,Nat.mul_comm (2 ^ xs.length) 2,Nat.mul_assoc];omega
theorem val2_single (b:Nat):val2 [b]=b:=by simp [val2]
theorem val2_snoc (xs:List Nat) (d:Nat):val2 (xs++[d])=val2 xs+2 ^ xs.length*d:=by rw [val2_append,val2_single]
theorem val2_lt {bs:List Nat} (h:Bit bs):val2 bs<2 ^ bs.length:=by
 induction bs with
 | nil=>simp [val2]
 | cons b bs ih =>
  have h1:=ih fun x hx=>h x (List.mem_cons_of_mem _ hx);have h2:=h b (List.mem_cons_self ..);rw [val2,List.length_cons,Nat.pow_succ];omega
theorem val2_split (bs:List Nat) (i:Nat) (h:i≤bs.length):val2 bs=val2 (bs.take i)+2 ^ i*val2 (bs.drop i):=by
 have:=val2_append (bs.take i) (bs.drop i)
 rw [List.take_append_drop,List.length_take,Nat.min_eq_left h] at this;exact this
theorem val2_take_succ (bs:List Nat) (i:Nat):val2 (bs.take (i+1))=val2 (bs.take i)+2 ^ i*bs.getD i 0:=by
 rcases Nat.lt_or_ge i bs.length with h|h
 ·rw [List.take_succ_eq_append_getElem h,val2_snoc,List.length_take,Nat.min_eq_left (Nat.le_of_lt h)];simp [h]
 ·rw [List.take_of_length_le (by omega),List.take_of_length_le h];simp [h]
theorem val2_drop (bs:List Nat) (i:Nat):val2 (bs.drop i)=bs.getD i 0+2*val2 (bs.drop (i+1)):=by
 rcases Nat.lt_or_ge i bs.length with h|h
 ·rw [List.drop_eq_getElem_cons h,val2];simp [h]
 ·rw [List.drop_eq_nil_of_le h,List.drop_eq_nil_of_le (by omega)];simp [val2,h]
theorem val2_take_lt {bs:List Nat} (h:Bit bs) (i:Nat):val2 (bs.take i)<2 ^ i:=by
 have h1:=val2_lt (h.take i);have h2:2 ^ (bs.take i).length≤2 ^ i:=Nat.pow_le_pow_right (by omega) (by rw [List.length_take];omega);omega
theorem val2_parts (bs:List Nat) (i:Nat):val2 bs=val2 (bs.take i)+2 ^ i*val2 (bs.drop i):=by
 rcases Nat.lt_or_ge i bs.length with h|h
 ·exact val2_split bs i (Nat.le_of_lt h)
 ·rw [List.take_of_length_le h,List.drop_eq_nil_of_le h];simp [val2]
def TopB (bs:List Nat):Prop:=bs=[]∨∃ l d,bs=l++[d]∧d≠0
theorem TopB.length {bs:List Nat} (h:TopB bs) (hb:Bit bs):bs.length=bl (val2 bs):=by
 rcases h with rfl|⟨l,d,rfl,hd⟩
 ·rfl
 ·have h1:=val2_lt hb;have h2:2 ^ l.length*1≤val2 (l++[d]):=by
   rw [val2_snoc]
   have:2 ^ l.length*1≤2 ^ l.length*d:=Nat.mul_le_mul_left _ (by omega)
   omega
  rw [List.length_append,List.length_singleton] at h1 ⊢;exact (bl_of (by omega) h1).symm
def wid (m n:Nat):List Nat:=(List.range m).map fun p=>n / 256 ^ (m-1-p) % 256
theorem length_wid (m n:Nat):(wid m n).length=m:=by simp [wid]
theorem wid_get (m n p:Nat) (h:p<(wid m n).length):(wid m n)[p]=n / 256 ^ (m-1-p) % 256:=by simp [wid]
theorem wid_zero (m:Nat):wid m 0=List.replicate m 0:=by
 apply List.ext_getElem
 ·simp [wid]
 ·intro i h1 h2;rw [wid_get];simp
theorem wid_step {m n i b:Nat} (hn:n<2 ^ i) (hb:b<2) (hm:i / 8<m) :
  (wid m n)[m-1-i / 8]'(by rw [length_wid];omega)+b*2 ^ (i % 8)<256∧(wid m n).set (m-1-i / 8) ((wid m n)[m-1-i / 8]'(by rw [length_wid];omega)+b*2 ^ (i % 8))=wid m (n+2 ^ i*b):=by
 have hi:2 ^ i=256 ^ (i / 8)*2 ^ (i % 8):=by
  rw [pow256,← Nat.pow_add];congr 1;omega
 have hq:m-1-(m-1-i / 8)=i / 8:=by omega
 have h0:n / 256 ^ (i / 8)<2 ^ (i % 8):=by
  rw [Nat.div_lt_iff_lt_mul (Nat.pow_pos (by omega)),Nat.mul_comm,← hi];exact hn
 have h8:2 ^ (i % 8)*2≤256:=by
  have h7:i % 8≤7:=by omega
  have:2 ^ (i % 8)≤2 ^ 7:=Nat.pow_le_pow_right (by omega) h7
  omega
 have hb2:b*2 ^ (i % 8)≤1*2 ^ (i % 8):=Nat.mul_le_mul_right _ (by omega);have hd:n / 256 ^ (i / 8) % 256=n / 256 ^ (i / 8):=Nat.mod_eq_of_lt (by omega);refine ⟨by rw [wid_get,hq,hd];omega,?_⟩
 apply List.ext_getElem
 ·simp [length_wid]
 ·intro p h1 h2;rw [length_wid] at h2;have hset:=List.getElem_set (l:=wid m n) (i:=m-1-i / 8) (j:=p) (a:=(wid m n)[m-1-i / 8]'(by rw [length_wid];omega)+b*2 ^ (i % 8)) h1;rw [hset,wid_get m (n+2 ^ i*b)]
  by_cases hp:m-1-i / 8=p
  ·have e1:(n+2 ^ i*b) / 256 ^ (i / 8)=n / 256 ^ (i / 8)+2 ^ (i % 8)*b:=by rw [hi,Nat.mul_assoc,Nat.add_mul_div_left _ _ (Nat.pow_pos (by omega))]
   have e2:=Nat.mul_comm b (2 ^ (i % 8));have e3:(n / 256 ^ (i / 8)+2 ^ (i % 8)*b) % 256=n / 256 ^ (i / 8)+2 ^ (i % 8)*b:=Nat.mod_eq_of_lt (by omega);rw [if_pos hp,wid_get,hq,← hp,hq,hd,e1,e3,e2]
  ·rw [if_neg hp,wid_get];generalize hr:m-1-p=r
   rcases Nat.lt_or_ge r (i / 8) with hlt|hge
   ·have e:2 ^ i*b=256 ^ r*(256*(2 ^ (i-8*(r+1))*b)):=by
     rw [pow256,← Nat.mul_assoc,← Nat.mul_assoc,show (256:Nat)=2 ^ 8 from rfl,← Nat.pow_add,← Nat.pow_add]
     congr 2
     omega
    rw [e,Nat.add_mul_div_left _ _ (Nat.pow_pos (by omega)),Nat.add_mul_mod_self_left]
   ·have hgt:i / 8<r:=by omega
    have a1:n+2 ^ i*b<2 ^ (i+1):=by
     have:2 ^ i*b≤2 ^ i*1:=Nat.mul_le_mul_left _ (by omega)
     rw [Nat.pow_succ];omega
    have a2:2 ^ (i+1)≤256 ^ r:=by rw [pow256];exact Nat.pow_le_pow_right (by omega) (by omega)
    rw [Nat.div_eq_of_lt (by omega),Nat.div_eq_of_lt (by omega)]
theorem numL_wid (m n:Nat):numL ((wid m n).map UInt8.ofNat)=n % 256 ^ m:=by
 induction m generalizing n with
 | zero=>simp [wid,numL,Nat.mod_one]
 | succ m ih =>
  have e:wid (m+1) n=wid m (n / 256)++[n % 256]:=by
   apply List.ext_getElem
   ·simp [length_wid]
   ·intro p h1 h2;rw [length_wid] at h1;rw [wid_get,List.getElem_append]
    split
    ·rename_i hp
     rw [length_wid] at hp;rw [wid_get,Nat.div_div_eq_div_mul,← Nat.pow_succ']
     congr 3
     omega
    ·rename_i hp
     rw [length_wid] at hp
     have:m+1-1-p=0:=by omega
     rw [this];simp
  rw [e,List.map_append,List.map_singleton,numL_snoc,ih,Nat.pow_succ',Nat.mod_mul]
  have:(UInt8.ofNat (n % 256)).toNat=n % 256:=by simp
  rw [this];omega
theorem wid_form (n:Nat):(wid ((bl n+7) / 8) n).map UInt8.ofNat=formL n:=by
 rcases Nat.eq_zero_or_pos n with h0|h0
 ·subst h0;rfl
 ·obtain ⟨b1,b2,b3⟩:=bl_bounds h0;refine (formL_of ?_ ?_).symm
  ·intro b hb;have hm:0<(bl n+7) / 8:=by omega
   have hne:0<((wid ((bl n+7) / 8) n).map UInt8.ofNat).length:=by rw [List.length_map,length_wid];exact hm
   rw [List.head?_eq_getElem?,List.getElem?_eq_getElem hne] at hb;have hb':=Option.some.inj hb;rw [List.getElem_map,wid_get,Nat.sub_zero] at hb';intro hz;rw [hz] at hb';have h1:=congrArg UInt8.toNat hb';have h2:n / 256 ^ ((bl n+7) / 8-1)<256:=by
    rw [Nat.div_lt_iff_lt_mul (Nat.pow_pos (by omega)),Nat.mul_comm,← Nat.pow_succ,pow256];exact Nat.lt_of_lt_of_le b3 (Nat.pow_le_pow_right (by omega) (by omega))
   have h3:0<n / 256 ^ ((bl n+7) / 8-1):=by
    refine Nat.div_pos ?_ (Nat.pow_pos (by omega));rw [pow256];exact Nat.le_trans (Nat.pow_le_pow_right (by omega) (by omega)) b2
   simp at h1;omega
  ·rw [numL_wid,Nat.mod_eq_of_lt];rw [pow256];exact Nat.lt_of_lt_of_le b3 (Nat.pow_le_pow_right (by omega) (by omega))
open Go.RowKit Go.Shelf
def bv (b:Nat):Value:=.int .u8 (b:Int)
structure Bw (w:World) (ad:Option Addr) (c:Nat) (bs:List Nat):Prop where
 le:bs.length≤c
 max:c≤maxLen
 addr:(ad=none∧c=0)∨∃ b off,ad=some ⟨b,off,none⟩∧b<w.heap.size
 cell:∀ i (h:i<bs.length),∃ b off,ad=some ⟨b,off,none⟩∧b<w.heap.size∧w.cell? ⟨b,off+i,none⟩=some (bv bs[i])
theorem Bw.below {w w' : World} {ad:Option Addr} {c:Nat} {bs:List Nat} (h:Bw w ad c bs) (hb:Below w.heap.size w w'):Bw w' ad c bs:=by
 have hsz:=hb.size;refine ⟨h.le,h.max,?_,fun i hi=>?_⟩
 ·rcases h.addr with h|⟨b,off,e,hl⟩
  ·exact .inl h
  ·exact .inr ⟨b,off,e,by omega⟩
 ·obtain ⟨b,off,e,hl,hc⟩:=h.cell i hi;exact ⟨b,off,e,by omega,by rw [hb.cell hl];exact hc⟩
theorem Bw.take {w:World} {ad:Option Addr} {c:Nat} {bs:List Nat} (h:Bw w ad c bs) (n:Nat):Bw w ad c (bs.take n):=by
 refine ⟨by have:=h.le;rw [List.length_take];omega,h.max,h.addr,fun i hi=>?_⟩;rw [List.length_take] at hi;obtain ⟨b,off,e,hl,hc⟩:=h.cell i (by omega);exact ⟨b,off,e,hl,by rw [List.getElem_take];exact hc⟩
theorem Bw.nil (w:World):Bw w none 0 []:=⟨Nat.le_refl _,by unfold maxLen;omega,.inl ⟨rfl,rfl⟩,fun _ h=>by cases h⟩
def intC:Value→Nat | .int _ n=>n.toNat|_=>0
theorem val2_cut {bs:List Nat} {k:Nat} (hk:k<bs.length) (h0:bs[k]=0):val2 (bs.take (k+1))=val2 (bs.take k):=by
 rw [val2_take_succ];simp [hk,h0]
theorem cut_any (w:World) (ad:Option Addr) (c n:Nat) (bs:List Nat) (hw:Bw w ad c bs) (hn:bs.length=n) (hbit:Bit bs) (hmax:n≤100000000) :
  Calls Tryz.prog 149 #[.slice ad n c] w fun e w'=>∃ k,k≤n∧e=.returned (.slice ad k c)∧val2 (bs.take k)=val2 bs∧TopB (bs.take k)∧w=w':=by
 have HN:=Lib.hid hn;clear hn;have hle:n≤c:=by rw [← HN.out];exact hw.le
 go_enter Tryz.func149,Tryz.ntmps149;go_wp2
 go_loopw [3] (fun i wr=>∃ k:Nat,k≤n∧i=.int .i64 k∧val2 (bs.take k)=val2 bs∧w=wr) (fun i _=>intC i)
 case atStart=>exact ⟨n,Nat.le_refl _,rfl,by rw [← HN.out,List.take_length],rfl⟩
 case round =>
  obtain ⟨k,hk,rfl,hv,rfl⟩:=hrel;have HV:=Lib.hid hv;clear hv
  by_cases hk0:k=0
  ·subst hk0
   rcases hw.addr with ⟨rfl,rfl⟩|⟨b,off,rfl,hlt⟩
   ·go_wp2;go_ret;exact ⟨0,Nat.zero_le _,rfl,HV.out,.inl rfl,rfl⟩
   ·go_wp2;go_ret;exact ⟨0,Nat.zero_le _,rfl,HV.out,.inl rfl,rfl⟩
  ·have hlt:k-1<bs.length:=by rw [HN.out];omega
   obtain ⟨b,off,rfl,hbl,hcd⟩:=hw.cell (k-1) hlt;obtain ⟨d,hdk⟩:∃ d,d=bs[k-1]:=⟨_,rfl⟩;have hd2:d<2:=by rw [hdk];exact hbit.get hlt
   rw [← hdk] at hcd;unfold bv at hcd;have hk1:((k:Int)-1).toNat=k-1:=by omega
   have t0:decide ((0:Int)<(k:Int))=true:=by simp;omega
   by_cases hd0:d=0
   ·have hv2:val2 (bs.take (k-1))=val2 bs:=by
     have:=val2_cut hlt (by rw [← hdk,hd0])
     rw [show k-1+1=k by omega,HV.out] at this;exact this.symm
    have HS:=Lib.hid hv2;clear hv2;subst hd0;clear hdk;go_wp2;go_roundw
    case rel=>exact ⟨k-1,by omega,by congr 1;omega,HS.out,trivial⟩
    case measure=>simp [intC];omega
   ·have hne:((d:Int) == 0)=false:=by simp;exact hd0
    have htop:TopB (bs.take k):=by
     right
     refine ⟨bs.take (k-1),d,?_,hd0⟩
     have:=List.take_succ_eq_append_getElem hlt
     rw [show k-1+1=k by omega,← hdk] at this;exact this
    have HT:=Lib.hid htop;clear htop hdk;go_wp2;go_ret;exact ⟨k,hk,rfl,HV.out,HT.out,rfl⟩
theorem bit_any (w:World) (ad:Option Addr) (c n i:Nat) (bs:List Nat) (hw:Bw w ad c bs) (hn:bs.length=n) :
  Calls Tryz.prog 174 #[.slice ad n c,.int .i64 i] w fun e w'=>e=.returned (bv (bs.getD i 0))∧w=w':=by
 have HN:=Lib.hid hn;clear hn;go_enter Tryz.func174,Tryz.ntmps174
 by_cases h:i<n
 ·have hlt:i<bs.length:=by rw [HN.out];exact h
  obtain ⟨b,off,rfl,hbl,hcd⟩:=hw.cell i hlt;have e:bs.getD i 0=bs[i]:=by simp [hlt]
  rw [e];unfold bv at hcd ⊢;go_wp2;go_ret;exact ⟨rfl,rfl⟩
 ·have hge:bs.length≤i:=by rw [HN.out];omega
  have e:bs.getD i 0=0:=by simp [hge]
  rw [e];unfold bv;go_wp2;go_ret;exact ⟨rfl,rfl⟩
theorem bit_at {w:World} {ad:Option Addr} {c n:Nat} {i:Int} {k:Nat} {bs:List Nat} (hw:Bw w ad c bs) (hn:bs.length=n) (hi:i=(k:Int)) :
  Calls Tryz.prog 174 #[.slice ad n c,.int .i64 i] w fun e w'=>e=.returned (bv (bs.getD k 0))∧w=w':=by
 subst hi;exact bit_any w ad c n k bs hw hn
theorem less_at {xs ys:List Nat} (hx:Bit xs) {i:Nat} (he:val2 (xs.drop (i+1))=val2 (ys.drop (i+1))) (h:xs.getD i 0<ys.getD i 0):val2 xs<val2 ys:=by
 have h1:=val2_parts xs i;have h2:=val2_parts ys i;have h3:=val2_take_lt hx i;rw [val2_drop] at h1 h2;rw [he] at h1;have h4:2 ^ i*(xs.getD i 0+2*val2 (ys.drop (i+1)))+2 ^ i≤2 ^ i*(ys.getD i 0+2*val2 (ys.drop (i+1))):=by
  have:2 ^ i*(xs.getD i 0+2*val2 (ys.drop (i+1))+1)≤2 ^ i*(ys.getD i 0+2*val2 (ys.drop (i+1))):=Nat.mul_le_mul_left _ (by omega)
  rw [Nat.mul_succ] at this;exact this
 omega
def intC1:Value→Nat | .int _ n=>(n+1).toNat|_=>0
theorem max_nat (a b:Nat):max (a:Int) (b:Int)=((max a b:Nat):Int):=by omega
theorem compare_any (w:World) (xd yd:Option Addr) (xc yc xn yn:Nat) (xs ys:List Nat) (hx:Bw w xd xc xs) (hy:Bw w yd yc ys) (hxn:xs.length=xn) (hyn:ys.length=yn) (hbx:Bit xs) (hby:Bit ys) (hmx:xn≤100000000) (hmy:yn≤100000000) :
  Calls Tryz.prog 150 #[.slice xd xn xc,.slice yd yn yc] w fun e w'=>e=.returned (.int .i64 (cmpN (val2 xs) (val2 ys)))∧w=w':=by
 have hm:=max_nat xn yn;obtain ⟨m,hmm⟩:∃ m,m=max xn yn:=⟨_,rfl⟩;rw [← hmm] at hm;have hmle:m≤100000000:=by omega
 have hmx2:xn≤m:=by omega
 have hmy2:yn≤m:=by omega
 clear hmm;go_enter Tryz.func150,Tryz.ntmps150;go_wp2
 go_loopw [5] (fun i wr=>∃ k:Nat,k≤m∧i=.int .i64 ((k:Int)-1)∧val2 (xs.drop k)=val2 (ys.drop k)∧w=wr) (fun i _=>intC1 i)
 case atStart=>exact ⟨m,Nat.le_refl _,rfl,by rw [List.drop_eq_nil_of_le (by omega),List.drop_eq_nil_of_le (by omega)],rfl⟩
 case round =>
  clear hm;obtain ⟨k,hk,rfl,hv,rfl⟩:=hrel;have HV:=Lib.hid hv;clear hv
  by_cases hk0:k=0
  ·subst hk0;have hc:cmpN (val2 xs) (val2 ys)=0:=by
    have:=HV.out
    rw [List.drop_zero,List.drop_zero] at this;unfold cmpN;rw [this,if_neg (by omega),if_neg (by omega)]
   have HC:=Lib.hid hc;clear hc;go_wp2;go_ret;exact ⟨ret_int (k:=.i64) HC.out.symm,rfl⟩
  ·obtain ⟨j,rfl⟩:∃ j,k=j+1:=⟨k-1,by omega⟩;have hj:((j+1:Nat):Int)-1=(j:Int):=by omega
   rw [hj];clear hj hk0;have HX:=Lib.hid hxn;have HY:=Lib.hid hyn;obtain ⟨p,hp⟩:∃ p,p=xs.getD j 0:=⟨_,rfl⟩;obtain ⟨q,hq⟩:∃ q,q=ys.getD j 0:=⟨_,rfl⟩;have hp2:p<2:=by rw [hp];exact hbx.getD j
   have hq2:q<2:=by rw [hq];exact hby.getD j
   have HPQ:=Lib.hid (And.intro hp hq);clear hxn hyn hp hq;go_wp2_with fail;refine (bit_at hx HX.out (i:=(j:Int)) (k:=j) rfl).mono ?_;rintro e w' ⟨rfl,rfl⟩;rw [← HPQ.out.1];unfold bv;go_wp2_with fail;refine (bit_at hy HY.out (i:=(j:Int)) (k:=j) rfl).mono ?_;rintro e w' ⟨rfl,rfl⟩;rw [← HPQ.out.2];unfold bv
   by_cases hlt:p<q
   ·have hc:cmpN (val2 xs) (val2 ys)=-1:=by
     unfold cmpN;rw [if_pos (less_at hbx HV.out (by rw [← HPQ.out.1,← HPQ.out.2];exact hlt))]
    have HC:=Lib.hid hc;clear hc;go_wp2;go_ret;exact ⟨ret_int (k:=.i64) HC.out.symm,rfl⟩
   ·go_wp2_with fail;refine (bit_at hx HX.out (i:=(j:Int)) (k:=j) rfl).mono ?_;rintro e w' ⟨rfl,rfl⟩;rw [← HPQ.out.1];unfold bv;go_wp2_with fail;refine (bit_at hy HY.out (i:=(j:Int)) (k:=j) rfl).mono ?_;rintro e w' ⟨rfl,rfl⟩;rw [← HPQ.out.2];unfold bv
    by_cases hgt:q<p
    ·have hc:cmpN (val2 xs) (val2 ys)=1:=by
      have:=less_at hby HV.out.symm (by rw [← HPQ.out.1,← HPQ.out.2];exact hgt)
      unfold cmpN;rw [if_neg (by omega),if_pos this]
     have HC:=Lib.hid hc;clear hc;go_wp2;go_ret;exact ⟨ret_int (k:=.i64) HC.out.symm,rfl⟩
    ·have hv2:val2 (xs.drop j)=val2 (ys.drop j):=by
      rw [val2_drop xs,val2_drop ys,HV.out,← HPQ.out.1,← HPQ.out.2];omega
     have HV2:=Lib.hid hv2;clear hv2;go_wp2;go_roundw
     case rel=>exact ⟨j,by omega,rfl,HV2.out,trivial⟩
     case measure=>simp [intC1]
def zeroB (n:Nat):Array Value:=((List.replicate n 0).map bv).toArray
theorem make_bits (n:Nat) (c:Int) (hc:c=(n:Int)) (hmax:n≤2000000000000):∀ w:World,
  (Instr.makeSlice 70 (.int .i64 c) (.int .i64 c)).run Tryz.prog w=.ok (.slice (some ⟨w.heap.size,0,none⟩) n n) (w.alloc (.cells (zeroB n) 5)):=by
 intro w;subst hc;obtain ⟨i,hi,hz,hs,hb⟩:=info_parts info8;have h:=run_make (P:=Tryz.prog) w 70 5 i _ Tryz.underlying70 hi hz .i64 .i64 (n:Int) (n:Int) (by omega) (by omega) (by rw [hb];omega) (by omega);rw [h,hs];simp only [Int.toNat_natCast,Nat.mul_one];have e:madeCells (Value.cells (.int .u8 0)) n=zeroB n:=by
  apply Array.toList_inj.1
  rw [show Value.cells (.int .u8 0)=#[.int .u8 0] from rfl,toList_madeCells_one];simp [bv,zeroB]
 rw [e]
def WB (w wr:World) (g L:Nat) (es:List Nat):Prop:=Rw wr g 5 ((es++List.replicate (L-es.length) 0).map bv)∧Below w.heap.size w wr∧Bit es∧es.length≤L
section
variable {w wr : World} {g L : Nat} {es : List Nat}
theorem WB.start (w:World) (L:Nat):WB w (w.alloc (.cells (zeroB L) 5)) w.heap.size L []:=
 ⟨by
  have h:=Rw.new w 5 ((List.replicate L 0).map bv);exact h,(Below.refl _ _).alloc (Nat.le_refl _) _,Bit.nil,Nat.zero_le _⟩
theorem WB.cell (h:WB w wr g L es) (hl:es.length<L):wr.cell? ⟨g,es.length,none⟩=some (.int .u8 0):=by
 rw [h.1.cell,List.getElem?_map,List.getElem?_append_right (Nat.le_refl _),Nat.sub_self,List.getElem?_replicate,if_pos (by omega)];rfl
theorem WB.frozen (h:WB w wr g L es) (i:Nat):wr.frozen? ⟨g,i,none⟩=false:=h.1.frozen i
theorem WB.step (h:WB w wr g L es) (hl:es.length<L) (hg:w.heap.size≤g) {d:Nat} (hd:d<2):WB w (wr.setCell ⟨g,es.length,none⟩ (.int .u8 (d:Int))) g L (es++[d]):=by
 refine ⟨?_,h.2.1.setCell hg _,h.2.2.1.append (Bit.one hd),by simp;omega⟩;have h1:=h.1.set_ es.length (bv d);have e:((es++List.replicate (L-es.length) 0).map bv).set es.length (bv d)=((es++[d])++List.replicate (L-(es++[d]).length) 0).map bv:=by
  rw [← List.map_set]
  congr 1
  rw [List.set_append_right _ _ (Nat.le_refl _),Nat.sub_self,List.append_assoc]
  congr 1
  rw [show L-es.length=(L-(es++[d]).length)+1 by simp;omega,List.replicate_succ];rfl
 rw [e] at h1;exact h1
theorem WB.bw (h:WB w wr g L es) (hl:es.length=L) (hm:L≤maxLen):Bw wr (some ⟨g,0,none⟩) L es:=by
 refine ⟨by omega,hm,.inr ⟨g,0,rfl,h.1.lt⟩,fun i hi=>⟨g,0,rfl,h.1.lt,?_⟩⟩;rw [Nat.zero_add,h.1.cell,hl];simp [hi]
end
theorem and_one_u8 (s:Nat) (h:s<256):bits .and .u8 (s:Int) 1=((s % 2:Nat):Int):=by
 have:=u8_and_nat s 1 h (by omega)
 rw [Nat.and_one_is_mod] at this;exact this
def PB (w wr:World) (L:Nat) (xs ys:List Nat) (u:Nat) (es:List Nat) (c:Nat):Prop:=
 WB w wr w.heap.size L es∧c<2∧val2 es+2 ^ es.length*c=val2 (xs.take es.length)+2 ^ u*val2 (ys.take (es.length-u))
theorem PB.step {w wr:World} {L:Nat} {xs ys:List Nat} {u:Nat} {es:List Nat} {c s b:Nat} (h:PB w wr L xs ys u es c) (hl:es.length<L) (hb:b=if u≤es.length then ys.getD (es.length-u) 0 else 0) (hs:s=xs.getD es.length 0+c+b) (hs4:s<4) :
  PB w (wr.setCell ⟨w.heap.size,es.length,none⟩ (.int .u8 ((s % 2:Nat):Int))) L xs ys u (es++[s % 2]) (s / 2):=by
 obtain ⟨h1,h2,h3⟩:=h;refine ⟨h1.step hl (Nat.le_refl _) (Nat.mod_lt _ (by omega)),by omega,?_⟩;have hlen:(es++[s % 2]).length=es.length+1:=by simp
 rw [hlen,val2_snoc,val2_take_succ];have hy:2 ^ u*val2 (ys.take (es.length+1-u))=2 ^ u*val2 (ys.take (es.length-u))+2 ^ es.length*b:=by
  by_cases hu:u≤es.length
  ·rw [if_pos hu] at hb;rw [show es.length+1-u=es.length-u+1 by omega,val2_take_succ,Nat.mul_add,← hb,← Nat.mul_assoc,← Nat.pow_add,show u+(es.length-u)=es.length by omega]
  ·rw [if_neg hu] at hb;rw [show es.length+1-u=0 by omega,show es.length-u=0 by omega,hb,Nat.mul_zero,Nat.add_zero]
 have hsd:2 ^ es.length*(s % 2)+2 ^ (es.length+1)*(s / 2)=2 ^ es.length*s:=by
  rw [Nat.pow_succ,Nat.mul_assoc,← Nat.mul_add,Nat.mod_add_div]
 have hsx:2 ^ es.length*s=2 ^ es.length*xs.getD es.length 0+2 ^ es.length*c+2 ^ es.length*b:=by rw [hs,Nat.mul_add,Nat.mul_add]
 omega
theorem plusr_any (w:World) (xd yd:Option Addr) (xc yc xn yn u:Nat) (xs ys:List Nat) (hx:Bw w xd xc xs) (hy:Bw w yd yc ys) (hxn:xs.length=xn) (hyn:ys.length=yn) (hbx:Bit xs) (hby:Bit ys) (hmx:xn≤100000000) (hmy:yn≤100000000) (hu:u≤100000000) :
  Calls Tryz.prog 163 #[.slice xd xn xc,.slice yd yn yc,.int .i64 u] w fun e w' =>
   ∃ L es,L=max xn (yn+u)+1∧e=.returned (.slice (some ⟨w.heap.size,0,none⟩) L L)∧Bw w' (some ⟨w.heap.size,0,none⟩) L es∧es.length=L∧Bit es∧val2 es=val2 xs+val2 ys*2 ^ u∧Below w.heap.size w w':=by
 obtain ⟨m,hmm⟩:∃ m,m=max xn (yn+u):=⟨_,rfl⟩;have hm:max (xn:Int) ((yn:Int)+(u:Int))=(m:Int):=by omega
 have hmle:m≤200000000:=by omega
 have hmk:=make_bits (m+1) ((m:Int)+1) (by omega) (by omega);have hPB:PB w (w.alloc (.cells (zeroB (m+1)) 5)) (m+1) xs ys u [] 0:=⟨WB.start _ _,by omega,by simp [val2]⟩;have HX:=Lib.hid hxn;have HY:=Lib.hid hyn;have HM:=Lib.hid hmm;rw [← hmm];clear hxn hyn hmm;go_enter Tryz.func163,Tryz.ntmps163;go_wp2
 go_loopw [8,9] (fun c i wr=>∃ (cv:Nat) (es:List Nat),i=.int .i64 es.length∧c=.int .u8 cv∧PB w wr (m+1) xs ys u es cv) (fun _ i _=>m+1-intC i)
 case atStart=>exact ⟨0,[],rfl,rfl,hPB⟩
 case round =>
  clear hPB hm hmk;obtain ⟨c,es,rfl,rfl,hPB⟩:=hrel;have hle:=hPB.1.2.2.2;have hc2:=hPB.2.1
  by_cases hlt:es.length<m+1
  ·have hxw:=hx.below hPB.1.2.1;have hyw:=hy.below hPB.1.2.1;have hcell:=hPB.1.cell hlt;have hfro:=hPB.1.frozen es.length;obtain ⟨p,hp⟩:∃ p,p=xs.getD es.length 0:=⟨_,rfl⟩;have hp2:p<2:=by rw [hp];exact hbx.getD _
   have HP:=Lib.hid hp;clear hp;have w1:IntKind.u8.wrap ((p:Int)+(c:Int))=(p:Int)+(c:Int):=by rw [IntKind.wrap_u8'];omega
   go_wp2_with fail;refine (bit_at hxw HX.out (k:=es.length) rfl).mono ?_;rintro e w' ⟨rfl,rfl⟩;rw [← HP.out];unfold bv
   by_cases hui:u≤es.length
   ·obtain ⟨b,hbb⟩:∃ b,b=if u≤es.length then ys.getD (es.length-u) 0 else 0:=⟨_,rfl⟩
    have hb1:ys.getD (es.length-u) 0=b:=by rw [hbb,if_pos hui]
    have hb2:b<2:=by rw [← hb1];exact hby.getD _
    obtain ⟨t,ht⟩:∃ t,t=p+c+b:=⟨_,rfl⟩;have w2:IntKind.u8.wrap ((p:Int)+(c:Int)+(b:Int))=(t:Int):=by rw [IntKind.wrap_u8'];omega
    have w3:=and_one_u8 t (by omega);have hPB2:=hPB.step (s:=t) hlt hbb (by rw [← HP.out];exact ht) (by omega);have HB:=Lib.hid (And.intro hbb hb1);clear hbb hb1 ht;go_wp2_with fail;refine (bit_at hyw HY.out (k:=es.length-u) (by omega)).mono ?_;rintro e w' ⟨rfl,rfl⟩;rw [HB.out.2];unfold bv;clear hPB hxw hyw;go_wp2;go_roundw
    case rel=>exact ⟨t / 2,es++[t % 2],by simp,by simp,by simpa using hPB2⟩
    case measure=>simp [intC];omega
   ·obtain ⟨t,ht⟩:∃ t,t=p+c:=⟨_,rfl⟩;have w2:IntKind.u8.wrap ((p:Int)+(c:Int))=(t:Int):=by rw [IntKind.wrap_u8'];omega
    have w3:=and_one_u8 t (by omega);have hPB2:=hPB.step (s:=t) (b:=0) hlt (by rw [if_neg hui]) (by rw [← HP.out];exact ht) (by omega);have HB:=Lib.hid ht;clear ht;clear hPB hxw hyw;clear w1;go_wp2;go_roundw
    case rel=>exact ⟨t / 2,es++[t % 2],by simp,by simp,by simpa using hPB2⟩
    case measure=>simp [intC];omega
  ·have hlen:es.length=m+1:=by omega
   obtain ⟨h1,h2,h3⟩:=hPB;have hbw:=h1.bw hlen (by unfold maxLen;omega);have hv:val2 es=val2 xs+val2 ys*2 ^ u:=by
    have hX:=val2_lt hbx;have hY:=val2_lt hby;have hE:=val2_lt h1.2.2.1;rw [List.take_of_length_le (by rw [HX.out];have:=HM.out;omega),List.take_of_length_le (by rw [HY.out];have:=HM.out;omega)] at h3;have e1:2 ^ xs.length≤2 ^ m:=Nat.pow_le_pow_right (by omega) (by rw [HX.out];have:=HM.out;omega);have e2:2 ^ u*2 ^ ys.length≤2 ^ m:=by rw [← Nat.pow_add];exact Nat.pow_le_pow_right (by omega) (by rw [HY.out];have:=HM.out;omega)
    have e3:2 ^ u*val2 ys<2 ^ u*2 ^ ys.length:=Nat.mul_lt_mul_of_pos_left hY (Nat.two_pow_pos _);have e4:2 ^ es.length=2 ^ m*2:=by rw [hlen,Nat.pow_succ]
    have hc0:c=0:=by
     rcases Nat.eq_zero_or_pos c with h|h
     ·exact h
     ·have:2 ^ es.length*1≤2 ^ es.length*c:=Nat.mul_le_mul_left _ h
      omega
    rw [hc0,Nat.mul_zero,Nat.add_zero,Nat.mul_comm (2 ^ u)] at h3;exact h3
   have HV:=Lib.hid (And.intro hv hlen);have h12:=h1.2.1;have h122:=h1.2.2.1;clear h1 h2 h3 hv hlen;go_wp2;go_ret;exact ⟨m+1,es,rfl,rfl,hbw,HV.out.2,h122,HV.out.1,h12⟩
def MB (w wr:World) (L:Nat) (xs ys es:List Nat) (c:Nat):Prop:=
 WB w wr w.heap.size L es∧c<2∧val2 es+val2 (ys.take es.length)=val2 (xs.take es.length)+2 ^ es.length*c
theorem MB.step {w wr:World} {L:Nat} {xs ys es:List Nat} {c s:Nat} (h:MB w wr L xs ys es c) (hl:es.length<L) (hs:s+ys.getD es.length 0+c=2+xs.getD es.length 0) (hs4:s<4) :
  MB w (wr.setCell ⟨w.heap.size,es.length,none⟩ (.int .u8 ((s % 2:Nat):Int))) L xs ys (es++[s % 2]) (1-s / 2):=by
 obtain ⟨h1,h2,h3⟩:=h;refine ⟨h1.step hl (Nat.le_refl _) (Nat.mod_lt _ (by omega)),by omega,?_⟩;have hlen:(es++[s % 2]).length=es.length+1:=by simp
 rw [hlen,val2_snoc,val2_take_succ,val2_take_succ];have hd:s % 2+ys.getD es.length 0+c=xs.getD es.length 0+2*(1-s / 2):=by omega
 have hm:=congrArg (fun x=>2 ^ es.length*x) hd;simp only [Nat.mul_add] at hm;rw [Nat.pow_succ,Nat.mul_assoc];omega
theorem minusr_any (w:World) (xd yd:Option Addr) (xc yc xn yn:Nat) (xs ys:List Nat) (hx:Bw w xd xc xs) (hy:Bw w yd yc ys) (hxn:xs.length=xn) (hyn:ys.length=yn) (hbx:Bit xs) (hby:Bit ys) (hmx:xn≤100000000) (hle:val2 ys≤val2 xs) :
  Calls Tryz.prog 151 #[.slice xd xn xc,.slice yd yn yc] w fun e w' =>
   ∃ es,e=.returned (.slice (some ⟨w.heap.size,0,none⟩) xn xn)∧Bw w' (some ⟨w.heap.size,0,none⟩) xn es∧es.length=xn∧Bit es∧val2 es=val2 xs-val2 ys∧Below w.heap.size w w':=by
 have hmk:=make_bits xn (xn:Int) rfl (by omega);have hMB:MB w (w.alloc (.cells (zeroB xn) 5)) xn xs ys [] 0:=⟨WB.start _ _,by omega,by simp [val2]⟩;have HX:=Lib.hid hxn;have HY:=Lib.hid hyn;have HL:=Lib.hid hle;clear hxn hyn hle;go_enter Tryz.func151,Tryz.ntmps151;go_wp2
 go_loopw [6,7] (fun c i wr=>∃ (cv:Nat) (es:List Nat),i=.int .i64 es.length∧c=.int .u8 cv∧MB w wr xn xs ys es cv) (fun _ i _=>xn-intC i)
 case atStart=>exact ⟨0,[],rfl,rfl,hMB⟩
 case round =>
  clear hMB hmk;obtain ⟨c,es,rfl,rfl,hMB⟩:=hrel;have hle:=hMB.1.2.2.2;have hc2:=hMB.2.1
  by_cases hlt:es.length<xn
  ·have hxw:=hx.below hMB.1.2.1;have hyw:=hy.below hMB.1.2.1;have hcell:=hMB.1.cell hlt;have hfro:=hMB.1.frozen es.length;obtain ⟨p,hp⟩:∃ p,p=xs.getD es.length 0:=⟨_,rfl⟩;obtain ⟨q,hq⟩:∃ q,q=ys.getD es.length 0:=⟨_,rfl⟩;have hp2:p<2:=by rw [hp];exact hbx.getD _
   have hq2:q<2:=by rw [hq];exact hby.getD _
   have HP:=Lib.hid (And.intro hp hq);clear hp hq;obtain ⟨t,ht⟩:∃ t,t+q+c=2+p:=⟨2+p-q-c,by omega⟩;have w1:IntKind.u8.wrap (2+(p:Int))=2+(p:Int):=by rw [IntKind.wrap_u8'];omega
   have w2:IntKind.u8.wrap (2+(p:Int)-(q:Int))=2+(p:Int)-(q:Int):=by rw [IntKind.wrap_u8'];omega
   have w3:IntKind.u8.wrap (2+(p:Int)-(q:Int)-(c:Int))=(t:Int):=by rw [IntKind.wrap_u8'];omega
   have w4:=and_one_u8 t (by omega);have w5:IntKind.u8.wrap (1-(t:Int) / 2)=((1-t / 2:Nat):Int):=by rw [IntKind.wrap_u8'];omega
   have hMB2:=hMB.step (s:=t) hlt (by rw [← HP.out.1,← HP.out.2];exact ht) (by omega);clear hMB ht;go_wp2_with fail;refine (bit_at hxw HX.out (k:=es.length) rfl).mono ?_;rintro e w' ⟨rfl,rfl⟩;rw [← HP.out.1];unfold bv;go_wp2_with fail;refine (bit_at hyw HY.out (k:=es.length) rfl).mono ?_;rintro e w' ⟨rfl,rfl⟩;rw [← HP.out.2];unfold bv;clear hxw hyw;go_wp2;go_roundw
   case rel=>exact ⟨1-t / 2,es++[t % 2],by simp,rfl,by simpa using hMB2⟩
   case measure=>simp [intC];omega
  ·have hlen:es.length=xn:=by omega
   obtain ⟨h1,h2,h3⟩:=hMB;have hbw:=h1.bw hlen (by unfold maxLen;omega);have hv:val2 es=val2 xs-val2 ys:=by
    have hX:=val2_lt hbx;have hE:=val2_lt h1.2.2.1;rw [hlen] at h3 hE;rw [HX.out] at hX;rw [List.take_of_length_le (l:=xs) (by rw [HX.out];omega)] at h3;have hyp:=val2_parts ys xn;have hle2:=HL.out;have hd0:val2 (ys.drop xn)=0:=by
     rcases Nat.eq_zero_or_pos (val2 (ys.drop xn)) with h|h
     ·exact h
     ·have:2 ^ xn*1≤2 ^ xn*val2 (ys.drop xn):=Nat.mul_le_mul_left _ h
      omega
    rw [hd0,Nat.mul_zero,Nat.add_zero] at hyp;have hc0:c=0:=by
     rcases Nat.eq_zero_or_pos c with h|h
     ·exact h
     ·have:2 ^ xn*1≤2 ^ xn*c:=Nat.mul_le_mul_left _ h
      omega
    rw [hc0,Nat.mul_zero,Nat.add_zero] at h3;omega
   have HV:=Lib.hid (And.intro hv hlen);have h12:=h1.2.1;have h122:=h1.2.2.1;clear h1 h2 h3 hv hlen;go_wp2;go_ret;exact ⟨es,rfl,hbw,HV.out.2,h122,HV.out.1,h12⟩
def OB (w wr:World) (v:Value) (es:List Nat):Prop:=wr.ownsRow w.heap.size 5 1 v es.length (es.map bv)∧Below w.heap.size w wr∧Bit es
theorem OB.nil (w:World):OB w w (.slice none 0 0) []:=⟨World.ownsRow_nil ..,Below.refl _ _,Bit.nil⟩
theorem OB.bw {w wr:World} {v:Value} {es:List Nat} (h:OB w wr v es):∃ ad c,v=.slice ad es.length c∧Bw wr ad c es:=by
 obtain ⟨h1,_,_⟩:=h
 rcases h1.2 with ⟨hv,hn⟩|⟨g,cap,cur,hv,hb,hg,hn,hm,hs,ht⟩
 ·have he:es=[]:=List.eq_nil_of_length_eq_zero hn;subst he;exact ⟨none,0,hv,Bw.nil wr⟩
 ·have hlt:g<wr.heap.size:=(Array.getElem?_eq_some_iff.1 hg).1;refine ⟨some ⟨g,0,none⟩,cap,hv,⟨hn,hm,.inr ⟨g,0,rfl,hlt⟩,fun i hi=>⟨g,0,rfl,hlt,?_⟩⟩⟩;rw [Nat.zero_add,cell_of_row wr g i cur 5 (0,0) hg];rw [Nat.mul_one] at ht;have h2:(cur.toList.take es.length)[i]?=some (bv es[i]):=by rw [ht];simp [hi]
  rw [List.getElem?_take_of_lt hi] at h2;simpa using h2
theorem wpList_append_bit {w w0:World} {ops:Array Oper} {rest:List Oper} {o:Oper} {a:Act} {Q:Exit→Act→World→Prop} (hgd:o.guard=none) (s y:Operand)
  (ho:o.op=.call { callee:=.builtin .append,args:=#[s,y],argTypes:=#[70,70] })
  (v:Value) (es:List Nat) (hs:a.eval s=v) (h:OB w w0 v es) (V:Value) (d:Nat) (hV:V=bv d) (hd:d<2) (b c:Nat) (hb:b=w0.heap.size) (hy:a.eval y=.slice (some ⟨b,0,none⟩) 1 c) (hmax:es.length≤1000000000)
  (hk:∀ v' w',OB w w' v' (es++[d])→wpList Tryz.prog ops Q rest (a.put o.dst v') w'):wpList Tryz.prog ops Q (o::rest) a (w0.alloc (.cells #[V] 5)):=by
 subst hV hb;obtain ⟨i,hi,hz,hsz,hby⟩:=info_parts info8;have hnew:∀ j u,[bv d][j]?=some u→(w0.alloc (.cells #[bv d] 5)).cell? ((⟨w0.heap.size,0,none⟩:Addr).add j)=some u:=by
  intro j u hj;have h:=(Rw.new w0 5 [bv d]).cell j;rw [addr_add0];exact h.trans hj
 have hB2:=h.2.1.alloc h.2.1.size (.cells #[bv d] 5);refine wpList_append_own _ hgd s y _ ho w.heap.size 5 i _ 1 1 Tryz.underlying70 hi hz hsz hby rfl (by omega) v es.length (es.map bv) hs (h.1.alloc _) ⟨w0.heap.size,0,none⟩ 1 c [bv d] hy rfl hnew (by intro u hu;simp at hu;rw [hu];rfl)
  (by unfold maxLen;omega) (by omega) hB2.size ?_
 intro v' w' h2 h3 _;refine hk v' w' ⟨?_,?_,h.2.2.append (Bit.one hd)⟩
 ·rw [List.length_append,List.map_append];exact h2
 ·refine hB2.grown h3 hB2.size (fun k hk=>?_)
  rcases h.1.2 with ⟨rfl,_⟩|⟨g,cap,cur,rfl,hbg,_⟩
  ·cases hk
  ·simp [Value.ownBlock] at hk;omega
def intI:Value→Nat | .int _ n=>(n+1).toNat|_=>0
def intK:Value→Nat | .int _ n=>n.toNat|_=>0
theorem num_drop (s:ByteArray) (r:Nat) (h:r<s.size):numL (s.data.toList.drop r)=s[r].toNat*2 ^ (8*(s.size-(r+1)))+numL (s.data.toList.drop (r+1)):=by
 have hl:r<s.data.toList.length:=h;rw [List.drop_eq_getElem_cons hl,numL_cons,List.length_drop,pow256];rfl
theorem mod_two_pow_succ (c k:Nat):c % 2 ^ (k+1)=c % 2 ^ k+2 ^ k*(c / 2 ^ k % 2):=by rw [Nat.pow_succ,Nat.mod_mul]
theorem bits_of_any (w:World) (s:ByteArray) (hs:s.size≤1000000) :
  Calls Tryz.prog 125 #[.string s] w fun e w'=>∃ ad c es,e=.returned (.slice ad es.length c)∧Bw w' ad c es∧Bit es∧TopB es∧val2 es=num s∧es.length≤8*s.size∧Below w.heap.size w w':=by
 have hO:=OB.nil w;go_enter Tryz.func125,Tryz.ntmps125;go_wp2
 go_loopw [3,4] (fun v i wr=>∃ (r:Nat) (es:List Nat),r≤s.size∧i=.int .i64 ((r:Int)-1)∧OB w wr v es∧es.length=8*(s.size-r)∧val2 es=numL (s.data.toList.drop r)) (fun _ i _=>intI i)
 case atStart=>exact ⟨s.size,[],Nat.le_refl _,rfl,hO,by simp,by rw [List.drop_of_length_le (show s.data.toList.length≤s.size from Nat.le_refl _)];rfl⟩
 case round =>
  clear hO;obtain ⟨r,es,hr,rfl,hO,hel,hev⟩:=hrel;have HE:=Lib.hid (And.intro hel hev);clear hel hev
  by_cases hr0:r=0
  ·subst hr0;obtain ⟨ad,c,rfl,hbw⟩:=hO.bw;have hlen:es.length≤8*s.size:=by have:=HE.out.1;omega
   go_wp2_with fail;refine (cut_any _ ad c es.length es hbw rfl hO.2.2 (by omega)).mono ?_;rintro e w' ⟨k,hk,rfl,hcv,hct,rfl⟩;go_wp2;go_ret;refine ⟨ad,c,es.take k,?_,hbw.take k,hO.2.2.take k,hct,?_,by rw [List.length_take];omega,hO.2.1⟩
   ·rw [List.length_take,Nat.min_eq_left hk];rfl
   ·rw [hcv,HE.out.2];rfl
  ·obtain ⟨q,rfl⟩:∃ q,r=q+1:=⟨r-1,by omega⟩;have hqi:((q+1:Nat):Int)-1=(q:Int):=by omega
   rw [hqi];clear hqi hr0;have hq:q<s.size:=by omega
   obtain ⟨c,hc⟩:∃ c:Nat,s[q].toNat=c:=⟨_,rfl⟩;have hc8:c<256:=by rw [← hc];exact s[q].toNat_lt
   have HEe:=Lib.hid (And.intro HE.out.1 (And.intro HE.out.2 hc));go_wp2
   go_loopw [3,5] (fun v i wr=>∃ (k:Nat) (fs:List Nat),k≤8∧i=.int .i64 k∧OB w wr v fs∧fs.length=8*(s.size-(q+1))+k∧val2 fs=numL (s.data.toList.drop (q+1))+2 ^ (8*(s.size-(q+1)))*(c % 2 ^ k)) (fun _ i _=>8-intK i)
   case atStart=>exact ⟨0,es,by omega,rfl,hO,by rw [HE.out.1];omega,by rw [HE.out.2];simp [Nat.mod_one]⟩
   case round =>
    clear hO HE;obtain ⟨k,fs,hk,rfl,hO,hfl,hfv⟩:=hrel
    by_cases hk8:k<8
    ·have ha:=and_one_u8 (c / 2 ^ k) (Nat.lt_of_le_of_lt (Nat.div_le_self _ _) hc8);rw [show ((c / 2 ^ k:Nat):Int)=(c:Int) / 2 ^ k by simp] at ha;have HA:=Lib.hid ha;clear ha;have hfl2:fs.length≤1000000000:=by omega
     have HF:=Lib.hid (And.intro hfl hfv);clear hfl hfv;go_wp2_with (first
      | (at_builtin;refine wpList_append_bit rfl (.tmp 17) (.tmp 24) rfl _ fs rfl hO _ (c / 2 ^ k % 2) (by unfold bv;rw [← HA.out]) (Nat.mod_lt _ (by omega)) _ 1 rfl rfl hfl2 ?_))
     intro v' w' hO2;clear hO;go_wp2;go_roundw
     case rel =>
      refine ⟨k+1,fs++[c / 2 ^ k % 2],by omega,by simp,hO2,by rw [List.length_append,HF.out.1];simp;omega,?_⟩;rw [val2_snoc,HF.out.1,HF.out.2,mod_two_pow_succ,Nat.mul_add,Nat.pow_add,Nat.mul_assoc,Nat.add_assoc]
     case measure=>simp [intK];omega
    ·have hk8' : k=8:=by omega
     have hlen:fs.length=8*(s.size-q):=by omega
     have hval:val2 fs=numL (s.data.toList.drop q):=by
      rw [num_drop s q hq,HEe.out.2.2,hfv,hk8',Nat.mod_eq_of_lt (show c<2 ^ 8 from hc8),Nat.mul_comm c,Nat.add_comm]
     have HF:=Lib.hid (And.intro hlen hval);clear hfl hfv hlen hval hk8';go_wp2;go_roundw
     case rel=>exact ⟨q,fs,by omega,rfl,hO,HF.out.1,HF.out.2⟩
     case measure=>simp [intI]
def TB (w wr:World) (m:Nat) (es:List Nat) (k:Nat):Prop:=Rw wr w.heap.size 5 ((wid m (val2 (es.take k))).map bv)∧Below w.heap.size w wr
theorem TB.drew {w wr:World} {m k:Nat} {es:List Nat} (h:TB w wr m es k):TB w wr.drew m es k:=⟨h.1.drew,h.2.drew⟩
theorem textr_any (w:World) (ad:Option Addr) (c n:Nat) (bs:List Nat) (hw:Bw w ad c bs) (hn:bs.length=n) (hbit:Bit bs) (hmax:n≤100000000) :
  Calls Tryz.prog 126 #[.slice ad n c] w fun e w'=>e=.returned (.string (fb (val2 bs)))∧Below w.heap.size w w':=by
 go_enter Tryz.func126,Tryz.ntmps126;go_wp2_with fail;refine (cut_any _ ad c n bs hw hn hbit hmax).mono ?_;rintro e w' ⟨N,hN,rfl,hcv,hct,rfl⟩;obtain ⟨es,hes⟩:∃ es,es=bs.take N:=⟨_,rfl⟩;have hel:es.length=N:=by rw [hes,List.length_take];omega
 have hwe:=hw.take N;have hbe:=hbit.take N;rw [← hes] at hcv hct hwe hbe;have HCV:=Lib.hid hcv;have hlb:=hct.length hbe;rw [hel] at hlb;clear hw hbit hn hes hcv hct;obtain ⟨m,hm⟩:∃ m,m=(N+7) / 8:=⟨_,rfl⟩;have hmi:((N:Int)+7) / 8=(m:Int):=by omega
 have hmk:=make_bits m (m:Int) rfl (by omega);have hTB:TB w (w.alloc (.cells (zeroB m) 5)) m es 0:=by
  refine ⟨?_,(Below.refl _ _).alloc (Nat.le_refl _) _⟩;have h:=Rw.new w 5 ((List.replicate m 0).map bv);rw [List.take_zero,show val2 []=0 from rfl,wid_zero];exact h
 have HN:=Lib.hid (And.intro hel (And.intro hlb hm));clear hel hlb;clear hm;go_wp2
 go_loopw [4] (fun i wr=>∃ k:Nat,k≤N∧i=.int .i64 k∧TB w wr m es k) (fun i _=>N-intK i)
 case atStart=>exact ⟨0,Nat.zero_le _,rfl,hTB⟩
 case round =>
  clear hTB hmk;obtain ⟨k,hk,rfl,hTB⟩:=hrel
  by_cases hlt:k<N
  ·have hke:k<es.length:=by rw [HN.out.1];exact hlt
   obtain ⟨q,hq⟩:∃ q,q=k / 8:=⟨_,rfl⟩;obtain ⟨r,hr⟩:∃ r,r=k % 8:=⟨_,rfl⟩;have hqm:q<m:=by rw [HN.out.2.2];omega
   have hmb:m≤100000000:=by rw [HN.out.2.2];omega
   obtain ⟨P,hP⟩:∃ P,P=m-1-q:=⟨_,rfl⟩;have hst:=wid_step (m:=m) (n:=val2 (es.take k)) (i:=k) (b:=es[k]) (val2_take_lt hbe k) (hbe.get hke) (by rw [← hq];exact hqm);have hpl:P<(wid m (val2 (es.take k))).length:=by rw [length_wid];omega
   have hcell:=hTB.1.cell P;rw [List.getElem?_map,List.getElem?_eq_getElem hpl,Option.map_some] at hcell;have hfro:=hTB.1.frozen P;obtain ⟨o,ho⟩:∃ o,o=(wid m (val2 (es.take k)))[P]:=⟨_,rfl⟩;obtain ⟨b,hb⟩:∃ b,b=es[k]:=⟨_,rfl⟩;have hb2:b<2:=by rw [hb];exact hbe.get hke
   obtain ⟨bb,off,rfl,hbl,hcx⟩:=(hwe.below hTB.2).cell k hke;have hst2:o+b*2 ^ r<256∧(wid m (val2 (es.take k))).set P (o+b*2 ^ r)=wid m (val2 (es.take k)+2 ^ k*b):=by
    subst hP hq hr ho hb;exact hst
   rw [← ho] at hcell;rw [← hb] at hcx;unfold bv at hcell hcx;have hqi:(k:Int) / 8=(q:Int):=by omega
   have hri:(k:Int) % 8=(r:Int):=by omega
   have hPi:(m:Int)-1-(q:Int)=(P:Int):=by omega
   have hPm:P<m:=by omega
   obtain ⟨y,hy⟩:∃ y,y=b*2 ^ r:=⟨_,rfl⟩;rw [← hy] at hst2;have hoy:=hst2.1;have wy:IntKind.u8.wrap ((b:Int)*2 ^ r)=(y:Int):=by
    rw [show (b:Int)*2 ^ r=((b*2 ^ r:Nat):Int) by simp,← hy,IntKind.wrap_u8'];omega
   have woy:IntKind.u8.wrap ((o:Int)+(y:Int))=(o:Int)+(y:Int):=by rw [IntKind.wrap_u8'];omega
   have hTB2:TB w (wr.setCell ⟨w.heap.size,P,none⟩ (.int .u8 ((o:Int)+(y:Int)))) m es (k+1):=by
    refine ⟨?_,hTB.2.setCell (Nat.le_refl _) _⟩;have h1:=hTB.1.set_ P (bv (o+y));have hg:es.getD k 0=b:=by rw [hb];simp [hke]
    rw [← List.map_set,hst2.2] at h1;rw [val2_take_succ,hg];exact h1
   clear ho hb hst hst2 hTB hq hr hP hy hwe hpl;go_wp2
   go_region
   go_wp2;go_roundw
   case rel=>exact ⟨k+1,by omega,by simp,hTB2.drew⟩
   case measure=>simp [intK];omega
  ·have hkN:k=N:=by omega
   have hconv:(convert 70 9 (.slice (some ⟨w.heap.size,0,none⟩) m m)).run Tryz.prog wr=.ok (str (formL (val2 es))) wr:=by
    have hR:=hTB.1;rw [hkN,← HN.out.1,List.take_length] at hR;have hl:(wid m (val2 es)).map UInt8.ofNat=formL (val2 es):=by
     rw [HN.out.2.2,HN.out.2.1];exact wid_form _
    rw [← hl];refine run_bytes_at (by rw [List.length_map,length_wid]) (fun i hi=>?_);rw [Nat.zero_add,hR.cell];rw [List.length_map,length_wid] at hi;have hi2:i<(wid m (val2 es)).length:=by rw [length_wid];exact hi
    rw [List.getElem?_map,List.getElem?_eq_getElem hi2,Option.map_some,List.getElem_map,by8_ofNat,wid_get];unfold bv
    congr 2
    omega
   have hb:=hTB.2;have HS:Hid (str (formL (val2 es))=.string (fb (val2 bs))):=by rw [HCV.out];exact rfl
   clear hTB;go_wp2;go_ret;exact ⟨by rw [← HS.out];rfl,hb⟩
theorem below_trans {w W W' : World} (hb:Below w.heap.size w W) (hc:Below W.heap.size W W'):Below w.heap.size w W':=hb.trans (hc.mono hb.size)
def intN:Value→Nat | .int _ n=>n.toNat|_=>0
theorem ref_of (w:World) (n:Nat) (hn:n<B64):Calls Tryz.prog 105 #[.int .u64 n] w (Ret (.string (fb n)) w):=by
 have hO:=OB.nil w;go_enter Tryz.func105,Tryz.ntmps105;go_wp2
 go_loopw [3,0] (fun v i wr=>∃ (m:Nat) (es:List Nat),i=.int .u64 m∧OB w wr v es∧es.length≤64∧m<2 ^ (64-es.length)∧val2 es+2 ^ es.length*m=n) (fun _ i _=>intN i)
 case atStart=>exact ⟨n,[],rfl,hO,by simp,hn,by simp [val2]⟩
 case round =>
  clear hO;obtain ⟨m,es,rfl,hO,hel,hml,hev⟩:=hrel;have HE:=Lib.hid (And.intro hml hev);clear hml hev
  by_cases hm0:m=0
  ·subst hm0;obtain ⟨ad,c,rfl,hbw⟩:=hO.bw;go_wp2_with fail;refine (textr_any _ ad c es.length es hbw rfl hO.2.2 (by omega)).mono ?_;rintro e w' ⟨rfl,hb⟩;go_wp2;go_ret;refine ⟨?_,below_trans hO.2.1 hb⟩
   have:=HE.out.2
   rw [Nat.mul_zero,Nat.add_zero] at this;rw [← this];rfl
  ·have hmp:decide ((0:Int)<(m:Int))=true:=by simp;omega
   have hel2:es.length<64:=by
    rcases Nat.lt_or_ge es.length 64 with h|h
    ·exact h
    ·have:=HE.out.1
     rw [show 64-es.length=0 by omega] at this;omega
   have hm64:m<18446744073709551616:=Nat.lt_of_lt_of_le HE.out.1 (show 2 ^ (64-es.length)≤2 ^ 64 from Nat.pow_le_pow_right (by omega) (by omega));have wm:IntKind.u64.wrap ((m:Int) / 2)=(m:Int) / 2:=by rw [IntKind.wrap_u64];omega
   clear hm64;go_wp2_with (first
    | (at_builtin;refine wpList_append_bit rfl (.tmp 8) (.tmp 12) rfl _ es rfl hO _ (m % 2) (by unfold bv;simp) (Nat.mod_lt _ (by omega)) _ 1 rfl rfl (by omega) ?_))
   intro v' w' hO2;clear hO;go_wp2;go_roundw
   case rel =>
    refine ⟨m / 2,es++[m % 2],by simp,hO2,by simp;omega,?_,?_⟩
    ·have h1:=HE.out.1;rw [List.length_append,List.length_singleton];rw [show 64-es.length=(64-(es.length+1))+1 by omega,Nat.pow_succ] at h1;omega
    ·have h1:=HE.out.2;rw [val2_snoc,List.length_append,List.length_singleton,Nat.pow_succ,Nat.mul_assoc,Nat.add_assoc,← Nat.mul_add,Nat.mod_add_div];exact h1
   case measure=>simp [intN];omega
theorem ref_len (w:World) (s:ByteArray) (hs:s.size≤1000000):Calls Tryz.prog 94 #[.string s] w (Ret (.int .i64 (bl (num s))) w):=by
 go_enter Tryz.func94,Tryz.ntmps94;go_wp2_with fail;refine (bits_of_any _ s hs).mono ?_;rintro e w' ⟨ad,c,es,rfl,hbw,hbit,htop,hv,hle,hb⟩;have hl:=htop.length hbit;rw [hv] at hl;have HL:=Lib.hid hl;clear hl hv;go_wp2;go_ret;exact ⟨by rw [← HL.out];rfl,hb⟩
theorem ref_cmp (w:World) (s t:ByteArray) (hs:s.size≤1000000) (ht:t.size≤1000000):Calls Tryz.prog 170 #[.string s,.string t] w (Ret (.int .i64 (cmpN (num s) (num t))) w):=by
 go_enter Tryz.func170,Tryz.ntmps170;go_wp2_with fail;refine (bits_of_any _ s hs).mono ?_;rintro e w1 ⟨ad,c,es,rfl,hbw,hbit,_,hv,hle,hb⟩;go_wp2_with fail;refine (bits_of_any _ t ht).mono ?_;rintro e w2 ⟨bd,d,fs,rfl,hbw2,hbit2,_,hv2,hle2,hb2⟩;have hbw':=hbw.below hb2;go_wp2_with fail;refine (compare_any _ ad bd c d es.length fs.length es fs hbw' hbw2 rfl rfl hbit hbit2 (by omega) (by omega)).mono ?_;rintro e w3 ⟨rfl,rfl⟩;rw [hv,hv2];go_wp2;go_ret;exact ⟨rfl,below_trans hb hb2⟩
theorem ref_sub (w:World) (s t:ByteArray) (hs:s.size≤1000000) (ht:t.size≤1000000):Calls Tryz.prog 145 #[.string s,.string t] w (Ret (.tuple #[.string (fb (num s-num t)),.bool (decide (num t≤num s))]) w):=by
 go_enter Tryz.func145,Tryz.ntmps145;go_wp2_with fail;refine (ref_cmp _ s t hs ht).mono ?_;rintro e w1 ⟨rfl,hb⟩
 by_cases h:num s<num t
 ·have hc:decide (cmpN (num s) (num t)<0)=true:=by unfold cmpN;rw [if_pos h];decide
  have hd:num s-num t=0:=by omega
  have hl:decide (num t≤num s)=false:=by simp;omega
  have HD:=Lib.hid (And.intro hd hl);clear hd hl h;go_wp2;go_ret2;exact ⟨by rw [HD.out.1,HD.out.2];rfl,hb⟩
 ·have hc:decide (cmpN (num s) (num t)<0)=false:=by unfold cmpN;rw [if_neg h];split <;> simp
  have hl:decide (num t≤num s)=true:=by simp;omega
  have hle:num t≤num s:=by omega
  have HL:=Lib.hid (And.intro hl hle);clear hl hle h;go_wp2_with fail;refine (bits_of_any _ s hs).mono ?_;rintro e w2 ⟨ad,c,es,rfl,hbw,hbit,_,hv,hle,hb2⟩;replace hb:=below_trans hb hb2;clear hb2;go_wp2_with fail;refine (bits_of_any _ t ht).mono ?_;rintro e w3 ⟨bd,d,fs,rfl,hbw2,hbit2,_,hv2,hle2,hb2⟩;have hbw':=hbw.below hb2;replace hb:=below_trans hb hb2;clear hb2 hbw;go_wp2_with fail;refine (minusr_any _ ad bd c d es.length fs.length es fs hbw' hbw2 rfl rfl hbit hbit2 (by omega) (by rw [hv,hv2];exact HL.out.2)).mono ?_;rintro e w4 ⟨gs,rfl,hbw3,hgl,hbit3,hv3,hb2⟩;rw [hv,hv2] at hv3;replace hb:=below_trans hb hb2;clear hb2;go_wp2_with fail;refine (textr_any _ _ _ _ gs hbw3 hgl hbit3 (by omega)).mono ?_;rintro e w5 ⟨rfl,hb2⟩;rw [hv3];go_wp2;go_ret2;exact ⟨by rw [HL.out.1];rfl,below_trans hb hb2⟩
theorem plusr_at {w:World} {xd yd:Option Addr} {xc yc xn yn:Nat} {i:Int} {u:Nat} {xs ys:List Nat} (hi:i=(u:Int)) (hx:Bw w xd xc xs) (hy:Bw w yd yc ys) (hxn:xs.length=xn) (hyn:ys.length=yn) (hbx:Bit xs) (hby:Bit ys) (hmx:xn≤100000000) (hmy:yn≤100000000) (hu:u≤100000000) :
  Calls Tryz.prog 163 #[.slice xd xn xc,.slice yd yn yc,.int .i64 i] w fun e w' =>
   ∃ L es,L=max xn (yn+u)+1∧e=.returned (.slice (some ⟨w.heap.size,0,none⟩) L L)∧Bw w' (some ⟨w.heap.size,0,none⟩) L es∧es.length=L∧Bit es∧val2 es=val2 xs+val2 ys*2 ^ u∧Below w.heap.size w w':=by
 subst hi;exact plusr_any w xd yd xc yc xn yn u xs ys hx hy hxn hyn hbx hby hmx hmy hu
theorem ref_mul (w:World) (s t:ByteArray) (hs:s.size≤1000000) (ht:t.size≤1000000):Calls Tryz.prog 138 #[.string s,.string t] w (Ret (.string (fb (num s*num t))) w):=by
 go_enter Tryz.func138,Tryz.ntmps138;go_wp2_with fail;refine (bits_of_any _ s hs).mono ?_;rintro e w1 ⟨ad,c,xs,rfl,hbw,hbx,_,hvx,hlx,hb⟩;go_wp2_with fail;refine (bits_of_any _ t ht).mono ?_;rintro e w2 ⟨bd,d,ys,rfl,hyw,hby,_,hvy,hly,hb2⟩;have hxw:=hbw.below hb2;replace hb:=below_trans hb hb2;clear hb2 hbw;have HV:=Lib.hid (And.intro hvx hvy);clear hvx hvy;go_wp2
 go_loopw [7,8] (fun v i wr=>∃ (k:Nat) (od:Option Addr) (oc:Nat) (os:List Nat),k≤xs.length∧i=.int .i64 k∧v=.slice od os.length oc∧Bw wr od oc os∧Bit os∧val2 os=val2 (xs.take k)*val2 ys∧os.length≤ys.length+2*k∧Below w2.heap.size w2 wr) (fun _ i _=>xs.length-intN i)
 case atStart=>exact ⟨0,none,0,[],Nat.zero_le _,rfl,rfl,Bw.nil _,Bit.nil,by simp [val2],by simp,Below.refl _ _⟩
 case round =>
  obtain ⟨k,od,oc,os,hk,rfl,rfl,how,hbo,hvo,hlo,hb2⟩:=hrel;have HO:=Lib.hid (And.intro hvo hlo);clear hvo hlo;have hom:os.length≤100000000:=by have:=HO.out.2;omega
  by_cases hlt:k<xs.length
  ·have hxw':=hxw.below hb2;have hyw':=hyw.below hb2;obtain ⟨bb,off,rfl,hbl,hcx⟩:=hxw'.cell k hlt;obtain ⟨b,hbb⟩:∃ b,b=xs[k]:=⟨_,rfl⟩;have hb2' : b<2:=by rw [hbb];exact hbx.get hlt
   have hg:xs.getD k 0=b:=by rw [hbb];simp [hlt]
   rw [← hbb] at hcx;unfold bv at hcx;have HG:=Lib.hid hg;clear hg hbb
   by_cases h1:b=1
   ·subst h1;go_wp2_with fail;refine (plusr_at (u:=k) rfl how hyw' rfl rfl hbo hby hom (by omega) (by omega)).mono ?_;rintro e w3 ⟨L,ps,hL,rfl,hpw,hpl,hbp,hvp,hb3⟩;have hb4:=below_trans hb2 hb3;have HP:=Lib.hid (And.intro hL (And.intro hpl hvp));clear hL hvp;clear hxw' hyw' how hb2 hb3;go_wp2;go_roundw
    case rel =>
     refine ⟨k+1,some ⟨_,0,none⟩,L,ps,by omega,by simp,by rw [hpl],hpw,hbp,?_,?_,hb4⟩
     ·rw [HP.out.2.2,HO.out.1,val2_take_succ,HG.out,Nat.mul_one,Nat.add_mul,Nat.mul_comm (val2 ys)]
     ·have:=HO.out.2
      rw [HP.out.2.1,HP.out.1];omega
    case measure=>simp [intN];omega
   ·obtain rfl:b=0:=by omega
    clear hxw' hyw';go_wp2;go_roundw
    case rel=>exact ⟨k+1,od,oc,os,by omega,by simp,rfl,how,hbo,by rw [val2_take_succ,HG.out,Nat.mul_zero,Nat.add_zero];exact HO.out.1,by have:=HO.out.2;omega,hb2⟩
    case measure=>simp [intN];omega
  ·go_wp2_with fail;refine (textr_any _ od oc os.length os how rfl hbo hom).mono ?_;rintro e w4 ⟨rfl,hb3⟩;have hv:val2 os=num s*num t:=by
    have h:=HO.out.1;rw [List.take_of_length_le (by omega),HV.out.1,HV.out.2] at h;exact h
   have HF:=Lib.hid hv;clear hv;go_wp2;go_ret;exact ⟨by rw [← HF.out];rfl,below_trans (below_trans hb hb2) hb3⟩
theorem ref_add (w:World) (ad:Option Addr) (l:List ByteArray) (n c:Nat) (hn:l.length=n) (hmax:n≤1000000) (hs:∀ s∈l,s.size≤1000000)
  (hcell:∀ i (h:i<l.length),∃ lb lo,ad=some ⟨lb,lo,none⟩∧lb<w.heap.size∧w.cell? ⟨lb,lo+i,none⟩=some (.string l[i])) :
  Calls Tryz.prog 144 #[.slice ad n c] w (Ret (.string (fb (sumTo l n))) w):=by
 have HN:=Lib.hid hn;clear hn;have HC:=Lib.hid hcell;clear hcell;go_enter Tryz.func144,Tryz.ntmps144;go_wp2
 go_loopw [3,4] (fun v i wr=>∃ (k:Nat) (od:Option Addr) (oc:Nat) (os:List Nat),k≤n∧i=.int .i64 k∧v=.slice od os.length oc∧Bw wr od oc os∧Bit os∧val2 os=sumTo l k∧os.length≤8000000+k∧Below w.heap.size w wr) (fun _ i _=>n-intN i)
 case atStart=>exact ⟨0,none,0,[],Nat.zero_le _,rfl,rfl,Bw.nil _,Bit.nil,rfl,by simp,Below.refl _ _⟩
 case round =>
  obtain ⟨k,od,oc,os,hk,rfl,rfl,how,hbo,hvo,hlo,hb⟩:=hrel;have HO:=Lib.hid (And.intro hvo hlo);clear hvo hlo;have hom:os.length≤100000000:=by have:=HO.out.2;omega
  by_cases hlt:k<n
  ·have hkl:k<l.length:=by rw [HN.out];exact hlt
   obtain ⟨lb,lo,rfl,hlb,hcl⟩:=HC.out k hkl;have hcw:wr.cell? ⟨lb,lo+k,none⟩=some (.string l[k]):=by rw [hb.cell hlb];exact hcl
   obtain ⟨s,hs'⟩:∃ s,s=l[k]:=⟨_,rfl⟩;have hss:s.size≤1000000:=by rw [hs'];exact hs _ (List.getElem_mem hkl)
   have hsu:=sumTo_succ hkl;rw [← hs'] at hcw hsu;clear hs' hcl;have HS:=Lib.hid hsu;clear hsu;go_wp2_with fail;refine (bits_of_any _ s hss).mono ?_;rintro e w2 ⟨bd,d,ys,rfl,hyw,hby,_,hvy,hly,hb2⟩;have how':=how.below hb2;replace hb:=below_trans hb hb2;clear hb2 how;go_wp2_with fail;refine (plusr_at (u:=0) rfl how' hyw rfl rfl hbo hby hom (by omega) (by omega)).mono ?_;rintro e w3 ⟨L,ps,hL,rfl,hpw,hpl,hbp,hvp,hb3⟩;have hb4:=below_trans hb hb3;have HP:=Lib.hid (And.intro hL (And.intro hpl (And.intro hvp (And.intro hvy hly))));clear hL hvp hvy hly;clear how' hyw hb hb3;go_wp2;go_roundw
   case rel =>
    refine ⟨k+1,some ⟨_,0,none⟩,L,ps,by omega,by simp,by rw [hpl],hpw,hbp,?_,?_,hb4⟩
    ·rw [HP.out.2.2.1,HO.out.1,HP.out.2.2.2.1,HS.out,Nat.pow_zero,Nat.mul_one]
    ·have h1:=HO.out.2;have h2:=HP.out.2.2.2.2;rw [HP.out.2.1,HP.out.1];omega
   case measure=>simp [intN];omega
  ·obtain rfl:k=n:=by omega
   go_wp2_with fail;refine (textr_any _ od oc os.length os how rfl hbo hom).mono ?_;rintro e w4 ⟨rfl,hb3⟩;go_wp2;go_ret;exact ⟨by rw [← HO.out.1];rfl,below_trans hb hb3⟩
theorem ref_shl (w:World) (s:ByteArray) (n:Int) (hs:s.size≤1000000) (hn:n≤10000000):Calls Tryz.prog 146 #[.string s,.int .i64 n] w (Ret (.string (fb (shlN (num s) n))) w):=by
 obtain ⟨u,hu,hv⟩:∃ u:Nat,max n 0=(u:Int)∧shlN (num s) n=num s*2 ^ u:=by
  unfold shlN
  by_cases h:n<0
  ·exact ⟨0,by omega,by rw [if_pos h];simp⟩
  ·exact ⟨n.toNat,by omega,by rw [if_neg h]⟩
 have hu2:u≤10000000:=by omega
 have HV:=Lib.hid hv;clear hv;go_enter Tryz.func146,Tryz.ntmps146;go_wp2_with fail;refine (bits_of_any _ s hs).mono ?_;rintro e w2 ⟨bd,d,ys,rfl,hyw,hby,_,hvy,hly,hb⟩;go_wp2_with fail;refine (plusr_at (u:=u) rfl (Bw.nil _) hyw rfl rfl Bit.nil hby (by simp) (by omega) (by omega)).mono ?_;rintro e w3 ⟨L,ps,hL,rfl,hpw,hpl,hbp,hvp,hb3⟩;have hLm:L≤100000000:=by rw [hL];simp;omega
 have HP:=Lib.hid (And.intro hvp hvy);clear hL hvp hvy;go_wp2_with fail;refine (textr_any _ _ L L ps hpw hpl hbp hLm).mono ?_;rintro e w4 ⟨rfl,hb4⟩;go_wp2;go_ret;refine ⟨?_,below_trans (below_trans hb hb3) hb4⟩;have h:=HP.out.1;rw [HP.out.2,show val2 []=0 from rfl,Nat.zero_add] at h;rw [HV.out,← h];rfl
theorem Bw.drop {w:World} {b off c:Nat} {bs:List Nat} (h:Bw w (some ⟨b,off,none⟩) c bs) (hlt:b<w.heap.size) (k:Nat) (hk:k≤bs.length):Bw w (some ⟨b,off+k,none⟩) (c-k) (bs.drop k):=by
 have hle:=h.le;refine ⟨by rw [List.length_drop];omega,by have:=h.max;omega,.inr ⟨b,off+k,rfl,hlt⟩,fun i hi=>⟨b,off+k,rfl,hlt,?_⟩⟩;rw [List.length_drop] at hi;obtain ⟨b',off',e,_,hc⟩:=h.cell (k+i) (by omega);simp only [Option.some.injEq,Addr.mk.injEq] at e;obtain ⟨rfl,rfl,_⟩:=e;rw [Nat.add_assoc,List.getElem_drop];exact hc
theorem Bw.far {w:World} {ad:Option Addr} {c:Nat} {bs:List Nat} (h:Bw w ad c bs) {p:Addr} (hp:∀ b off,ad=some ⟨b,off,none⟩→b≠p.block) (u:Value):Bw (w.setCell p u) ad c bs:=by
 refine ⟨h.le,h.max,?_,fun i hi=>?_⟩
 ·rcases h.addr with h|⟨b,off,e,hl⟩
  ·exact .inl h
  ·exact .inr ⟨b,off,e,by simpa using hl⟩
 ·obtain ⟨b,off,e,hl,hc⟩:=h.cell i hi;refine ⟨b,off,e,by simpa using hl,?_⟩;rw [← hc];exact World.cell?_of_block (w:=w) (Below.heap_setCell w p u b (hp b off e))
theorem wpList_append_front {w:World} {ops:Array Oper} {rest:List Oper} {o:Oper} {a:Act} {Q:Exit→Act→World→Prop} (hgd:o.guard=none) (s y:Operand)
  (ho:o.op=.call { callee:=.builtin .append,args:=#[s,y],argTypes:=#[70,70] })
  (V:Value) (d:Nat) (hV:V=bv d) (g:Nat) (hg:g=w.heap.size) (hs:a.eval s=.slice (some ⟨g,0,none⟩) 1 1) (od:Option Addr) (m c:Nat) (bs:List Nat) (hy:a.eval y=.slice od m c) (hm:bs.length=m) (h:Bw w od c bs) (hmax:m≤1000000000)
  (hk:∀ g' cap' w',w.heap.size≤g'→Bw w' (some ⟨g',0,none⟩) cap' (d::bs)→Below w.heap.size w w'→wpList Tryz.prog ops Q rest (a.put o.dst (.slice (some ⟨g',0,none⟩) (m+1) cap')) w'):wpList Tryz.prog ops Q (o::rest) a (w.alloc (.cells #[V] 5)):=by
 subst hV hg hm;obtain ⟨i,hi,hz,hsz,hby⟩:=info_parts info8;have hR:=Rw.new w 5 [bv d];have hB:Below w.heap.size w (w.alloc (.cells #[bv d] 5)):=(Below.refl _ _).alloc (Nat.le_refl _) _;have hown:(w.alloc (.cells #[bv d] 5)).ownsRow w.heap.size 5 1 (.slice (some ⟨w.heap.size,0,none⟩) 1 1) 1 [bv d]:=
  ⟨rfl,.inr ⟨w.heap.size,1,#[bv d],rfl,Nat.le_refl _,hR,Nat.le_refl _,by unfold maxLen;omega,rfl,rfl⟩⟩
 rcases h.addr with ⟨rfl,hc0⟩|⟨b,off,rfl,hbl⟩
 ·have hbs:bs=[]:=by
   cases bs with
   | nil=>rfl
   | cons x xs=>have:=h.le;simp at this;omega
  subst hbs hc0;refine wpList_plain hgd fun K hK=>?_;have hr:(Builtin.append_ #[70,70] o.type #[.slice (some ⟨w.heap.size,0,none⟩) 1 1,.slice none 0 0]).run Tryz.prog (w.alloc (.cells #[bv d] 5))=.ok (.slice (some ⟨w.heap.size,0,none⟩) 1 1) (w.alloc (.cells #[bv d] 5)):=by
   simp [Builtin.append_,run_underlying Tryz.underlying70,sizeOf,typeInfo,hi,Builtin.lenOf,Builtin.firstCells,storeCells]
  unfold Oper.wp execOp;simp only [ho,resolve,invoke,builtin,Sem.run_bind,Sem.run_pure,Result.andThen_ok,List.map_toArray,List.map_cons,List.map_nil,hs,List.length_nil] at hy ⊢;rw [hy];simp only [hr,Result.andThen_ok];refine hK _ _ (hk w.heap.size 1 _ (Nat.le_refl _) ⟨Nat.le_refl _,by unfold maxLen;omega,.inr ⟨w.heap.size,0,rfl,hR.lt⟩,fun j hj=>⟨w.heap.size,0,rfl,hR.lt,?_⟩⟩ hB);simp at hj;subst hj;exact hR.cell 0
 ·have hnews:∀ j u,(bs.map bv)[j]?=some u→(w.alloc (.cells #[bv d] 5)).cell? ((⟨b,off,none⟩:Addr).add j)=some u:=by
   intro j u hj;obtain ⟨hj1,hj2⟩:=List.getElem?_eq_some_iff.1 hj;rw [List.length_map] at hj1;obtain ⟨b',off',e,hl,hc⟩:=h.cell j hj1;simp only [Option.some.injEq,Addr.mk.injEq] at e;obtain ⟨rfl,rfl,_⟩:=e;have ea:(⟨b,off,none⟩:Addr).add j=⟨b,off+j,none⟩:=by unfold Addr.add;split <;> simp_all
   rw [ea,← hj2,List.getElem_map];exact cell_past hc _
  refine wpList_append_own _ hgd s y _ ho w.heap.size 5 i _ 1 1 Tryz.underlying70 hi hz hsz hby rfl (by omega) _ 1 [bv d] hs hown ⟨b,off,none⟩ bs.length c (bs.map bv) hy (by simp) hnews (by intro u hu;obtain ⟨x,_,rfl⟩:=List.mem_map.1 hu;rfl)
   (by unfold maxLen;omega) (by omega) hB.size ?_
  intro v' w' h2 h3 _
  rcases h2.2 with ⟨_,hn⟩|⟨g',cap,cur,hv,hbg,hgc,hn,hcm,hcs,ht⟩
  ·omega
  ·subst hv;have hlt:g'<w'.heap.size:=(Array.getElem?_eq_some_iff.1 hgc).1;have hb2:Below w.heap.size w w':=below_grown hB hB.size h3 (Nat.le_refl _);rw [show 1+bs.length=bs.length+1 by omega];refine hk g' cap w' hbg ⟨by simp;omega,hcm,.inr ⟨g',0,rfl,hlt⟩,fun j hj=>⟨g',0,rfl,hlt,?_⟩⟩ hb2;rw [Nat.zero_add,cell_of_row w' g' j cur 5 (0,0) hgc];rw [Nat.mul_one] at ht;have h4:(cur.toList.take (1+bs.length))[j]?=some (bv (d::bs)[j]):=by
    rw [ht]
    have:([bv d]++bs.map bv)=(d::bs).map bv:=rfl
    rw [this,List.getElem?_map,List.getElem?_eq_getElem hj];rfl
   rw [List.getElem?_take_of_lt (by simp at hj;omega)] at h4;simpa using h4
def DB (w wr:World) (xs ys:List Nat) (k:Nat) (od:Option Addr) (oc:Nat) (rs ts:List Nat):Prop:=
 Rw wr w.heap.size 5 ((List.replicate k 0++ts).map bv)∧Below w.heap.size w wr∧Bw wr od oc rs∧(∀ b off,od=some ⟨b,off,none⟩→w.heap.size<b)∧Bit rs∧TopB rs∧Bit ts∧k+ts.length=xs.length∧val2 (xs.drop k)=val2 ts*val2 ys+val2 rs∧val2 rs<val2 ys
section
variable {w wr : World} {xs ys rs ts : List Nat} {k : Nat} {od : Option Addr} {oc : Nat}
theorem bl_up {a m:Nat} (h:a<2 ^ m):bl a≤m:=by
 rcases Nat.eq_zero_or_pos a with h0|h0
 ·rw [h0,bl_zero];omega
 ·obtain ⟨a1,a2,_⟩:=bl_bounds h0
  have:=(Nat.pow_lt_pow_iff_right (by omega:1<2)).1 (Nat.lt_of_le_of_lt a2 h)
  omega
theorem DB.len (h:DB w wr xs ys k od oc rs ts) (hy:Bit ys):rs.length≤ys.length:=by
 obtain ⟨_,_,_,_,h5,h6,_,_,_,h10⟩:=h;rw [h6.length h5];exact bl_up (Nat.lt_trans h10 (val2_lt hy))
theorem DB.zero {wr' : World} {ud:Option Addr} {uc:Nat} {us:List Nat} (h:DB w wr xs ys (k+1) od oc rs ts) (hb:Below wr.heap.size wr wr') (hu:Bw wr' ud uc us) (hf:∀ b off,ud=some ⟨b,off,none⟩→w.heap.size<b) (hbu:Bit us) (htu:TopB us)
  (hv:val2 us=xs.getD k 0+2*val2 rs) (hlt:val2 us<val2 ys):DB w wr' xs ys k ud uc us (0::ts):=by
 obtain ⟨h1,h2,h3,h4,h5,h6,h7,h8,h9,h10⟩:=h;refine ⟨?_,h2.trans (hb.mono h2.size),hu,hf,hbu,htu,?_,by simp;omega,?_,hlt⟩
 ·have e:List.replicate k 0++0::ts=List.replicate (k+1) 0++ts:=by rw [List.replicate_succ',List.append_assoc];rfl
  rw [e];exact h1.below hb h1.lt
 ·intro x hx
  rcases List.mem_cons.1 hx with rfl|hx
  ·omega
  ·exact h7 x hx
 ·rw [val2_drop,h9,hv,val2];simp only [Nat.mul_add,Nat.zero_add,Nat.mul_assoc];omega
theorem DB.one {wr' : World} {ud:Option Addr} {uc:Nat} {us:List Nat} (h:DB w wr xs ys (k+1) od oc rs ts) (hx:Bit xs) (hb:Below wr.heap.size wr wr') (hu:Bw wr' ud uc us) (hf:∀ b off,ud=some ⟨b,off,none⟩→w.heap.size<b) (hbu:Bit us) (htu:TopB us)
  (hv:val2 us+val2 ys=xs.getD k 0+2*val2 rs):DB w (wr'.setCell ⟨w.heap.size,k,none⟩ (.int .u8 1)) xs ys k ud uc us (1::ts):=by
 obtain ⟨h1,h2,h3,h4,h5,h6,h7,h8,h9,h10⟩:=h;have hx2:=hx.getD k;refine ⟨?_,(h2.trans (hb.mono h2.size)).setCell (Nat.le_refl _) _,hu.far (fun b off e=>by have:=hf b off e;simp;omega) _,hf,hbu,htu,?_,by simp;omega,?_,by omega⟩
 ·have hs:=(h1.below hb h1.lt).set_ k (bv 1);have e:((List.replicate (k+1) 0++ts).map bv).set k (bv 1)=(List.replicate k 0++1::ts).map bv:=by
   rw [← List.map_set]
   congr 1
   rw [List.replicate_succ',List.append_assoc,List.set_append_right _ _ (by simp)];simp
  rw [e] at hs;exact hs
 ·intro x hx
  rcases List.mem_cons.1 hx with rfl|hx
  ·omega
  ·exact h7 x hx
 ·rw [val2_drop,h9,val2];have e1:(1+2*val2 ts)*val2 ys=val2 ys+2*(val2 ts*val2 ys):=by rw [Nat.add_mul,Nat.one_mul,Nat.mul_assoc]
  rw [e1];omega
end
theorem div_of {a b q r:Nat} (h:a=q*b+r) (hr:r<b):divV a b=.tuple #[.string (fb q),.string (fb r),.bool true]:=by
 unfold divV;rw [if_neg (by omega)];have h1:a / b=q:=by rw [h,Nat.mul_comm,Nat.mul_add_div (by omega),Nat.div_eq_of_lt hr,Nat.add_zero]
 have h2:a % b=r:=by rw [h,Nat.mul_comm,Nat.mul_add_mod,Nat.mod_eq_of_lt hr]
 rw [h1,h2]
theorem ref_div (w:World) (s t:ByteArray) (hs:s.size≤1000000) (ht:t.size≤1000000):Calls Tryz.prog 127 #[.string s,.string t] w (Ret (divV (num s) (num t)) w):=by
 go_enter Tryz.func127,Tryz.ntmps127;go_wp2_with fail;refine (bits_of_any _ s hs).mono ?_;rintro e w1 ⟨ad,c,xs,rfl,hbw,hbx,_,hvx,hlx,hb⟩;go_wp2_with fail;refine (bits_of_any _ t ht).mono ?_;rintro e w2 ⟨bd,d,ys,rfl,hyw,hby,hty,hvy,hly,hb2⟩;have hxw:=hbw.below hb2;replace hb:=below_trans hb hb2;clear hb2 hbw
 by_cases hy0:ys=[]
 ·subst hy0;have HV:Hid (divV (num s) (num t)=.tuple #[.string ⟨#[]⟩,.string ⟨#[]⟩,.bool false]):=by
   rw [← hvy];unfold divV;rw [if_pos (show val2 []=0 from rfl)];exact rfl
  clear hvy hty;go_wp2;go_ret3;exact ⟨by rw [HV.out];rfl,hb⟩
 ·have hyp:0<ys.length:=List.length_pos_iff.2 hy0;have c0:((ys.length:Int) == 0)=false:=by simp;exact hy0
  have hvp:0<val2 ys:=by
   rcases hty with h|⟨l,dd,h,hd⟩
   ·exact absurd h hy0
   ·rw [h,val2_snoc]
    have:0<2 ^ l.length*dd:=Nat.mul_pos (Nat.two_pow_pos _) (by omega)
    omega
  obtain ⟨N,hN⟩:∃ N,N=xs.length:=⟨_,rfl⟩;have hNm:N≤8000000:=by omega
  have hmk:=make_bits N (N:Int) rfl (by omega);have hDB:DB w2 (w2.alloc (.cells (zeroB N) 5)) xs ys N none 0 [] []:=by
   refine ⟨?_,(Below.refl _ _).alloc (Nat.le_refl _) _,Bw.nil _,(fun _ _ e=>by cases e),Bit.nil,.inl rfl,Bit.nil,by simp [hN],?_,hvp⟩
   ·rw [List.append_nil];exact Rw.new w2 5 ((List.replicate N 0).map bv)
   ·rw [List.drop_of_length_le (by omega)];simp [val2]
  have HV:=Lib.hid (And.intro hvx (And.intro hvy hN));clear hvx hvy;rw [← hN];clear hN hlx;go_wp2
  go_loopw [10,11] (fun v i wr=>∃ (k:Nat) (od:Option Addr) (oc:Nat) (rs ts:List Nat),k≤N∧i=.int .i64 ((k:Int)-1)∧v=.slice od rs.length oc∧DB w2 wr xs ys k od oc rs ts) (fun _ i _=>intI i)
  case atStart=>exact ⟨N,none,0,[],[],Nat.le_refl _,rfl,rfl,hDB⟩
  case round =>
   clear hDB hmk;obtain ⟨k,od,oc,rs,ts,hk,rfl,rfl,hDB⟩:=hrel;have hrl:=hDB.len hby
   by_cases hk0:k=0
   ·subst hk0;obtain ⟨h1,h2,h3,_,h5,_,h7,h8,h9,h10⟩:=hDB;rw [List.drop_zero] at h9;have hdv:=div_of h9 h10;rw [HV.out.1,HV.out.2.1] at hdv;rw [List.replicate_zero,List.nil_append] at h1;have htl:ts.length=N:=by rw [HV.out.2.2];omega
    have hqw:Bw wr (some ⟨w2.heap.size,0,none⟩) N ts:=by
     refine ⟨by omega,by unfold maxLen;omega,.inr ⟨w2.heap.size,0,rfl,h1.lt⟩,fun i hi=>⟨w2.heap.size,0,rfl,h1.lt,?_⟩⟩;rw [Nat.zero_add,h1.cell];simp [hi]
    have HD:=Lib.hid hdv;clear hdv h9 h10;go_wp2_with fail;refine (textr_any _ _ N N ts hqw htl h7 (by omega)).mono ?_;rintro e w4 ⟨rfl,hb4⟩;have h3':=h3.below hb4;go_wp2_with fail;refine (textr_any _ od oc rs.length rs h3' rfl h5 (by omega)).mono ?_;rintro e w5 ⟨rfl,hb5⟩;go_wp2;go_ret3;exact ⟨by rw [HD.out];rfl,below_trans (below_trans (below_trans hb h2) hb4) hb5⟩
   ·obtain ⟨j,rfl⟩:∃ j,k=j+1:=⟨k-1,by omega⟩;have hj:((j+1:Nat):Int)-1=(j:Int):=by omega
    rw [hj];clear hj hk0;have hjx:j<xs.length:=by rw [← HV.out.2.2];omega
    obtain ⟨bb,off,rfl,hbl,hcx⟩:=(hxw.below hDB.2.1).cell j hjx;obtain ⟨b,hbb⟩:∃ b,b=xs[j]:=⟨_,rfl⟩;have hb2:b<2:=by rw [hbb];exact hbx.get hjx
    have hg:xs.getD j 0=b:=by rw [hbb];simp [hjx]
    rw [← hbb] at hcx;unfold bv at hcx;have HG:=Lib.hid hg;clear hg hbb;have how:=hDB.2.2.1;go_wp2_with (first
     | (at_builtin;refine wpList_append_front rfl (.tmp 33) (.tmp 34) rfl _ b rfl _ rfl rfl od rs.length oc rs rfl rfl how (by omega) ?_))
    intro g3 cap3 w3 hg3 hw3 hb3;have hbr:Bit (b::rs):=by
     intro x hx
     rcases List.mem_cons.1 hx with rfl|hx
     ·exact hb2
     ·exact hDB.2.2.2.2.1 x hx
    have hg2:w2.heap.size<wr.heap.size:=hDB.1.lt;go_wp2_with fail;refine (cut_any _ (some ⟨g3,0,none⟩) cap3 (rs.length+1) (b::rs) hw3 rfl hbr (by omega)).mono ?_;rintro e w3' ⟨n3,hn3,rfl,hcv,hct,rfl⟩;obtain ⟨us,hus⟩:∃ us,us=(b::rs).take n3:=⟨_,rfl⟩;have hul:us.length=n3:=by rw [hus,List.length_take];simp;omega
    have huw:=hw3.take n3;have hub:=hbr.take n3;rw [← hus] at hcv hct huw hub;have huv:val2 us=xs.getD j 0+2*val2 rs:=by rw [hcv,HG.out];rfl
    have HU:=Lib.hid huv;clear huv hcv hus hbr hw3;have hyw3:=(hyw.below hDB.2.1).below hb3;go_wp2_with fail;refine (compare_any _ (some ⟨g3,0,none⟩) bd cap3 d n3 ys.length us ys huw hyw3 hul rfl hub hby (by omega) (by omega)).mono ?_;rintro e w4 ⟨rfl,rfl⟩
    by_cases hlt:val2 us<val2 ys
    ·have hc:decide ((0:Int)≤cmpN (val2 us) (val2 ys))=false:=by unfold cmpN;rw [if_pos hlt];decide
     have hDB2:=hDB.zero hb3 huw (by rintro b off e;cases e;omega) hub hct HU.out hlt;have HL:=Lib.hid hul;clear hDB how huw hyw3 hlt;go_wp2;go_roundw
     case rel=>exact ⟨j,some ⟨g3,0,none⟩,cap3,us,0::ts,by omega,rfl,by rw [HL.out],hDB2⟩
     case measure=>simp [intI]
    ·have hle:val2 ys≤val2 us:=by omega
     have hc:decide ((0:Int)≤cmpN (val2 us) (val2 ys))=true:=by unfold cmpN;rw [if_neg hlt];split <;> simp
     go_wp2_with fail;refine (minusr_any _ (some ⟨g3,0,none⟩) bd cap3 d n3 ys.length us ys huw hyw3 hul rfl hub hby (by omega) hle).mono ?_;rintro e w5 ⟨gs,rfl,hgw,hgl,hgb,hgv,hb5⟩;go_wp2_with fail;refine (cut_any _ _ n3 n3 gs hgw hgl hgb (by omega)).mono ?_;rintro e w5' ⟨n5,hn5,rfl,hcv5,hct5,rfl⟩;obtain ⟨vs,hvs⟩:∃ vs,vs=gs.take n5:=⟨_,rfl⟩;have hvl:vs.length=n5:=by rw [hvs,List.length_take];omega
     have hvw:=hgw.take n5;have hvb:=hgb.take n5;rw [← hvs] at hcv5 hct5 hvw hvb;have hvv:val2 vs+val2 ys=xs.getD j 0+2*val2 rs:=by rw [hcv5,hgv,← HU.out];omega
     have hb35:=below_trans hb3 hb5;have hsz3:=hb3.size;have hDB2:=hDB.one hbx hb35 hvw (by rintro b off e;cases e;omega) hvb hct5 hvv;have hR5:=hDB.1.below hb35 hDB.1.lt;have hcell:w5.cell? ⟨w2.heap.size,j,none⟩=some (.int .u8 0):=by
      rw [hR5.cell,List.getElem?_map,List.getElem?_append_left (by simp),List.getElem?_replicate,if_pos (by omega)];rfl
     have hfro:=hR5.frozen j;have hjN:j<N:=by omega
     have HL:=Lib.hid hvl;clear hDB how huw hyw3 hlt hvs hcv5 hgv hgw hR5 hvv hvl hul;go_wp2;go_roundw
     case rel=>exact ⟨j,_,n3,vs,1::ts,by omega,rfl,by rw [HL.out],hDB2⟩
     case measure=>simp [intI]
end Go.Proofs.YtemedphcafgolaaGreatDoor
