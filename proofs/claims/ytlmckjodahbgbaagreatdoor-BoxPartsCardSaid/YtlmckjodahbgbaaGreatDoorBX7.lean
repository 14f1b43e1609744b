/- Package box: Part; walked. -/
import Derived.Test.YtlmckjodahbgbaaGreatDoorBX6
namespace Go.Proofs.YtlmckjodahbgbaaGreatDoor
set_option maxRecDepth 100000
set_option maxHeartbeats 1600000
open Go.RowKit Go.Shelf
def RI (w:World) (ad:Option Addr) (ns:List Int):Prop:=∀ i (h:i<ns.length),∃ b off,ad=some ⟨b,off,none⟩∧b<w.heap.size∧w.cell? ⟨b,off+i,none⟩=some (.int .i64 ns[i])
theorem RI.below {w w' : World} {ad:Option Addr} {ns:List Int} (h:RI w ad ns) (hb:Below w.heap.size w w'):RI w' ad ns:=fun i hi=>by
 obtain ⟨b,off,e,hlt,hc⟩:=h i hi;exact ⟨b,off,e,Nat.lt_of_lt_of_le hlt hb.size,by rw [hb.cell hlt];exact hc⟩
theorem goes_bpart1 (aa:Array Value) (W:World):Sem.run Tryz.prog (callFunc 74 aa) W=.ok (.enter 74 aa) W:=by kernel_rfl
def wrongB (n:Nat) (z:Int):Bool:=decide (z<0) || decide (n≤z.toNat / 2)
theorem bpart1_any (w:World) (z:Int) (hz:z<9223372036854775808) (P n c:Nat) (hmax:n≤1000) (ad:Option Addr) (hP:w.cell? ⟨P,0,none⟩=some (.slice ad n c)) :
  Calls Tryz.prog 74 (#[.int .i64 z]++#[.pointer (some ⟨P,0,none⟩)]) w (Ret (.bool (wrongB n z)) w):=by
 show Calls Tryz.prog 74 #[.int .i64 z,.pointer (some ⟨P,0,none⟩)] w (Ret (.bool (wrongB n z)) w)
 by_cases h0:z<0
 ·have hv:=Lib.hid (show wrongB n z=true by unfold wrongB;rw [decide_eq_true h0];rfl);go_enter Tryz.func74,Tryz.ntmps74;go_wp2;go_ret;exact ⟨by rw [hv.out];rfl,Below.refl _ _⟩
 ·obtain ⟨k,rfl⟩:∃ k:Nat,z=k:=⟨z.toNat,by omega⟩;have hd:(k:Int).tdiv 2=((k / 2:Nat):Int):=rfl
  by_cases h1:n≤k / 2
  ·have hv:=Lib.hid (show wrongB n k=true by unfold wrongB;rw [decide_eq_false h0,Int.toNat_natCast,decide_eq_true h1];rfl);have h2:(n:Int)≤(k:Int) / 2:=by omega
   go_enter Tryz.func74,Tryz.ntmps74;go_wp2;go_ret;exact ⟨by rw [hv.out];rfl,Below.refl _ _⟩
  ·have hv:=Lib.hid (show wrongB n k=false by unfold wrongB;rw [decide_eq_false h0,Int.toNat_natCast,decide_eq_false h1];rfl);have h2:¬(n:Int)≤(k:Int) / 2:=by omega
   go_enter Tryz.func74,Tryz.ntmps74;go_wp2;go_ret;exact ⟨by rw [hv.out];rfl,Below.refl _ _⟩
theorem any_takeI {p:Int→Bool} {l:List Int} {i:Nat} (h:i<l.length) (h1:(l.take i).any p=false) (h2:p l[i]=false):(l.take (i+1)).any p=false:=by
 rw [List.take_succ_eq_append_getElem h,List.any_append,h1];simp [h2]
theorem indexI_any (p:Int→Bool) (f:Nat) (caps:Array Value) (hgo:∀ (aa:Array Value) (W:World),Sem.run Tryz.prog (callFunc f aa) W=.ok (.enter f aa) W) (w:World) (ad:Option Addr) (n c:Nat) (l:List Int) (hl:l.length=n) (hmax:n≤1000000) (hp:RI w ad l)
  (hcall:∀ W,Below w.heap.size w W→∀ x∈l,Calls Tryz.prog f (#[.int .i64 x]++caps) W (Ret (.bool (p x)) W)) :
  Calls Tryz.prog 107 #[.slice ad n c,.func (.func f) #[] caps] w (fun e w'=>∃ r:Int,e=.returned (.int .i64 r)∧decide (0≤r)=l.any p∧Below w.heap.size w w'):=by
 go_enter Tryz.func107,Tryz.ntmps107;go_wp2
 go_loopw [8] (fun iv wr=>∃ i:Nat,iv=.int .i64 i∧i≤n∧(l.take i).any p=false∧Below w.heap.size w wr) (fun iv _=>n-(RowKit.intOf iv).toNat)
 case atStart=>exact ⟨0,rfl,Nat.zero_le _,rfl,Below.refl _ _⟩
 case round =>
  obtain ⟨i,rfl,hi,hno,hb⟩:=hrel
  by_cases hik:i<n
  ·have hil:i<l.length:=by omega
   obtain ⟨lb,lo,rfl,hlb,c0⟩:=hp.below hb i hil;have hc:=hcall wr hb l[i] (List.getElem_mem hil);have hst:=any_takeI hil hno;have hany:p l[i]=true→l.any p=true:=fun h=>List.any_eq_true.2 ⟨l[i],List.getElem_mem hil,h⟩;generalize l[i]=x at *;obtain ⟨q,hq⟩:∃ q,p x=q:=⟨_,rfl⟩;rw [hq] at hc hany hst;clear hcall hp;go_wp2_with fail;refine hc.mono ?_;rintro e W1 ⟨rfl,hq1⟩;have hb1:=below_next hb hq1;clear hc hq1 c0
   cases q with
   | true =>
    have HA:=Lib.hid (hany rfl);clear hany hst;go_wp2;go_ret;exact ⟨(i:Int),rfl,by rw [HA.out];simp,hb1⟩
   | false =>
    have HS:=Lib.hid (hst rfl);clear hany hst;go_wp2;exact ⟨⟨i+1,rfl,hik,HS.out,hb1⟩,by simp [RowKit.intOf];omega⟩
  ·obtain rfl:i=n:=by omega
   rw [List.take_of_length_le (by omega)] at hno;have HN:=Lib.hid hno;clear hno hcall hp;go_wp2;go_ret;exact ⟨-1,rfl,by rw [HN.out];decide,hb⟩
theorem containsI_any (p:Int→Bool) (f:Nat) (caps:Array Value) (hgo:∀ (aa:Array Value) (W:World),Sem.run Tryz.prog (callFunc f aa) W=.ok (.enter f aa) W) (w:World) (ad:Option Addr) (n c:Nat) (l:List Int) (hl:l.length=n) (hmax:n≤1000000) (hp:RI w ad l)
  (hcall:∀ W,Below w.heap.size w W→∀ x∈l,Calls Tryz.prog f (#[.int .i64 x]++caps) W (Ret (.bool (p x)) W)) :
  Calls Tryz.prog 75 #[.slice ad n c,.func (.func f) #[] caps] w (Ret (.bool (l.any p)) w):=by
 have hc:=indexI_any p f caps hgo w ad n c l hl hmax hp hcall;clear hcall hgo;go_enter Tryz.func75,Tryz.ntmps75;go_wp2_with fail;refine hc.mono ?_;rintro e W1 ⟨r,rfl,hr,hq⟩;go_wp2;go_ret;exact ⟨rfl,hq⟩
def partB (m:List SV) (hs:List Int):List SV:=hs.foldl (fun b z=>halfB (decide (z.toNat % 2=1)) b (z.toNat / 2)) m
theorem halfB_len (up:Bool) (m:List SV) (a:Nat):(halfB up m a).length=m.length:=by unfold halfB;exact List.length_set
theorem partB_len (m:List SV) (hs:List Int):(partB m hs).length=m.length:=by
 unfold partB
 induction hs generalizing m with
 | nil=>rfl
 | cons z hs ih=>rw [List.foldl_cons,ih,halfB_len]
theorem partB_take {m:List SV} {hs:List Int} {k:Nat} (h:k<hs.length):partB m (hs.take (k+1))=halfB (decide (hs[k].toNat % 2=1)) (partB m (hs.take k)) (hs[k].toNat / 2):=by
 unfold partB;rw [List.take_succ_eq_append_getElem h,List.foldl_append];rfl
theorem GS.half {B E:Nat} {x:SV} (h:GS B E x) (up:Bool) (hB:B+1≤375) (hE:E+1≤3000):GS (B+1) (E+1) (halfS up x):=by
 unfold halfS
 split
 ·exact ⟨h.mid.gd hB hE,h.2.finer⟩
 ·exact ⟨h.1.finer,h.mid.gd hB hE⟩
theorem half_small {B E:Nat} {m:List SV} (h:∀ x∈m,GS B E x) (up:Bool) (a:Nat) (ha:a<m.length) (hB:B+1≤375) (hE:E+1≤3000):∀ x∈halfB up m a,GS (B+1) (E+1) x:=by
 intro x hx;unfold halfB at hx
 rcases List.mem_or_eq_of_mem_set hx with hx|rfl
 ·exact (h x hx).finer
 ·rw [List.getD_eq_getElem?_getD,List.getElem?_eq_getElem ha];exact (h _ (List.getElem_mem ha)).half up hB hE
def PartR (w:World) (l:List SV) (n:Nat):Ending→World→Prop:=fun e w'=>∃ g c,e=.returned (.tuple #[.slice (some ⟨g,0,none⟩) n c,.int .i64 0])∧w.heap.size≤g∧n≤c∧Rp w' g (flat l)∧Below w.heap.size w w'
theorem bpart_no (w:World) (ad:Option Addr) (n c:Nat) (hmax:n≤1000) (bd:Option Addr) (hs:List Int) (n' c' : Nat) (hn' : hs.length=n') (hmax' : n'≤1000) (hh:RI w bd hs) (hz:∀ z∈hs,z<9223372036854775808) (hw:hs.any (wrongB n)=true) :
  Calls Tryz.prog 33 #[.slice ad n c,.slice bd n' c'] w (Ret (.tuple #[.slice none 0 0,.int .i64 1]) w):=by
 have hP:=Rw.new w 23 [.slice ad n c];have hb:=(Below.refl w.heap.size w).alloc (Nat.le_refl _) (.cells #[.slice ad n c] 23);go_enter Tryz.func33,Tryz.ntmps33
 go_upto_region 1 with fail
 generalize (w.alloc (.cells #[.slice ad n c] 23))=W1 at *;have hc:=containsI_any (wrongB n) 74 #[.pointer (some ⟨w.heap.size,0,none⟩)] goes_bpart1 W1 bd n' c' hs hn' (by omega) (hh.below hb) (fun W hq x hx=>bpart1_any W x (hz x hx) w.heap.size n c hmax ad ((hP.below hq hP.lt).cell 0));rw [hw] at hc;clear hh hz hw;go_wp2_with fail;refine hc.mono ?_;rintro e W ⟨rfl,hq⟩;go_wp2;go_ret2;exact ⟨rfl,below_next hb hq⟩
theorem bpart_any (w:World) (ad:Option Addr) (l:List SV) (n c:Nat) (hn:l.length=n) (hmax:n≤1000) (hl:SAt w ad l) {B E:Nat} (hsm:∀ x∈l,GS B E x) (hB:B≤300) (hE:E≤2000) (bd:Option Addr) (hs:List Int) (n' c' : Nat) (hn' : hs.length=n') (hmax' : n'≤60) (hh:RI w bd hs) (hz:∀ z∈hs,z<9223372036854775808) (hw:hs.any (wrongB n)=false) :
  Calls Tryz.prog 33 #[.slice ad n c,.slice bd n' c'] w (PartR w (partB (l.map fS) hs) n):=by
 have hP:=Rw.new w 23 [.slice ad n c];have hb:=(Below.refl w.heap.size w).alloc (Nat.le_refl _) (.cells #[.slice ad n c] 23);go_enter Tryz.func33,Tryz.ntmps33
 go_upto_region 1 with fail
 generalize (w.alloc (.cells #[.slice ad n c] 23))=W1 at *;have hc:=containsI_any (wrongB n) 74 #[.pointer (some ⟨w.heap.size,0,none⟩)] goes_bpart1 W1 bd n' c' hs hn' (by omega) (hh.below hb) (fun W hq x hx=>bpart1_any W x (hz x hx) w.heap.size n c hmax ad ((hP.below hq hP.lt).cell 0));have hwr:∀ k (h:k<hs.length),0≤hs[k]∧hs[k].toNat / 2<n:=fun k h=>by
  have:=List.any_eq_false.1 hw hs[k] (List.getElem_mem h)
  unfold wrongB at this;simp only [Bool.or_eq_true,decide_eq_true_eq] at this;omega
 rw [hw] at hc;have hok:∀ x∈l.map fS,GS B E x:=fun x hx=>by
  obtain ⟨y,hy,rfl⟩:=List.mem_map.1 hx;exact (hsm y hy).form (by omega) (by omega)
 have hlen:(l.map fS).length=n:=by rw [List.length_map,hn]
 have HC:=Lib.hid (And.intro hwr (And.intro hok (And.intro hlen hz)));clear hwr hok hlen hw hz;go_wp2_with fail;refine hc.mono ?_;rintro e W ⟨rfl,hq⟩;replace hb:=below_next hb hq;replace hP:=hP.below hq hP.lt;clear hc hq;have hc:=bform_any W ad l n c hn hmax (hl.below hb) (fun x h=>(hsm x h).o2);clear hl hsm hn;generalize l.map fS=m at *;have hP0:=hP.cell 0;simp only [List.getElem?_cons_zero] at hP0;go_wp2_with fail;refine hc.mono ?_;rintro e W2 ⟨g,rfl,hg,hR,hq⟩;have hgw:w.heap.size≤g:=Nat.le_trans hb.size hg;replace hb:=below_next hb hq;clear hc hq hP0 hP hg;have hR0:=hR.rp;clear hR;go_wp2
 go_loopw [19] (fun iv wr=>∃ k:Nat,k≤n'∧iv=.int .i64 k∧Rp wr g (flat (partB m (hs.take k)))∧(∀ x∈partB m (hs.take k),GS (B+k) (E+k) x)∧Below w.heap.size w wr) (fun iv _=>n'-intY iv)
 case atStart=>exact ⟨0,Nat.zero_le _,rfl,hR0,fun x hx=>HC.out.2.1 x hx,hb⟩
 case round =>
  clear hR0 hb;obtain ⟨k,hk,rfl,hR,hgs,hb⟩:=hrel
  by_cases hlt:k<n'
  ·have hkl:k<hs.length:=by omega
   obtain ⟨lb,lo,rfl,hlb,c0⟩:=hh k hkl;have hw2:=HC.out.1 k hkl;have hzk:=HC.out.2.2.2 _ (List.getElem_mem hkl);have hbl:(partB m (hs.take k)).length=n:=by rw [partB_len];exact HC.out.2.2.1
   have hnx:=partB_take (m:=m) hkl;generalize partB m (hs.take k)=b at *;generalize hs[k]=z at *;obtain ⟨q,rfl⟩:∃ q:Nat,z=q:=⟨z.toNat,by omega⟩;simp only [Int.toNat_natCast] at hnx hw2;obtain ⟨a,ha⟩:∃ a,q / 2=a:=⟨_,rfl⟩;have hq2:(q:Int) / 2=(a:Int):=by omega
   have hq3:(q:Int).tdiv 2=(a:Int):=by rw [← hq2];rfl
   rw [ha] at hnx hw2;have hab:a<b.length:=by omega
   have hsm2:=half_small hgs (decide (q % 2=1)) a hab (by omega) (by omega);have hcal:=balong_any wr (some ⟨g,0,none⟩) b n n a hbl (SAt.of_flat hR.nat) hab;have hx:O3 b[a]:=(hgs _ (List.getElem_mem hab)).o2.o3;have hset:halfB (decide (q % 2=1)) b a=b.set a (halfS (decide (q % 2=1)) b[a]):=by
    unfold halfB;rw [List.getD_eq_getElem?_getD,List.getElem?_eq_getElem hab];rfl
   generalize b[a]=x at *;have HX:=Lib.hid (And.intro hnx (And.intro hsm2 hset));clear hnx hsm2 hset hgs;rw [← hb.cell hlb] at c0;go_wp2_with fail;refine hcal.mono ?_;rintro e V ⟨rfl,hq⟩;replace hb:=below_next hb hq;replace hR:=hR.below hq;clear hq hcal c0;have hgV:=hR.lt;obtain ⟨⟨xm,xs,xd⟩,xn,xt,xe⟩:=x;have hX:=Rw.new V 81 [.bool xm,.string xs,.int .i64 xd,.bool xn,.string xt,.int .i64 xe,.int .i64 a,.slice (some ⟨g,0,none⟩) n n];replace hb:=hb.alloc hb.size (.cells #[.bool xm,.string xs,.int .i64 xd,.bool xn,.string xt,.int .i64 xe,.int .i64 a,.slice (some ⟨g,0,none⟩) n n] 81);replace hR:=hR.alloc (.cells #[.bool xm,.string xs,.int .i64 xd,.bool xn,.string xt,.int .i64 xe,.int .i64 a,.slice (some ⟨g,0,none⟩) n n] 81);unfold hagg;simp only
   go_upto_region 9 with fail
   generalize (V.alloc (.cells #[.bool xm,.string xs,.int .i64 xd,.bool xn,.string xt,.int .i64 xe,.int .i64 a,.slice (some ⟨g,0,none⟩) n n] 81))=V2 at *;clear hq2 hq3 ha
   by_cases hodd:q % 2=1
   ·have hr2:(q:Int) % 2=1:=by omega
    have hr3:(q:Int).tmod 2=1:=by rw [← hr2];rfl
    have hcal:=bkeepU_any V2 g a n n b hbl hw2.2 hR ((xm,xs,xd),xn,xt,xe) hx;have hdec:decide (q % 2=1)=true:=by rw [decide_eq_true];omega
    rw [hdec] at HX;obtain ⟨R0,R1,R2,R3,R4,R5,R6,R7,-⟩:=hX.facts8;go_wp2_with fail;clear R0 R1 R2 R3 R4 R5 R6 R7;refine hcal.mono ?_;rintro e V3 ⟨rfl,hR3,hq⟩;replace hb:=Below.grown hb hq hb.size (fun j hj=>by injection hj with hj;omega);have hR4:Rp V3 g (flat (partB m (hs.take (k+1)))):=by rw [HX.out.1,HX.out.2.2];exact hR3
    have hg4:∀ x∈partB m (hs.take (k+1)),GS (B+(k+1)) (E+(k+1)) x:=by rw [HX.out.1];exact HX.out.2.1
    have HY:=Lib.hid hg4;clear hR3 hg4 hcal hR hX hq HX;go_wp2;exact ⟨⟨k+1,hlt,rfl,hR4,HY.out,hb⟩,by simp [intY];omega⟩
   ·have hr2:(q:Int) % 2=0:=by omega
    have hr3:(q:Int).tmod 2=0:=by rw [← hr2];rfl
    have hcal:=bkeepL_any V2 g a n n b hbl hw2.2 hR ((xm,xs,xd),xn,xt,xe) hx;have hdec:decide (q % 2=1)=false:=by rw [decide_eq_false];omega
    rw [hdec] at HX;obtain ⟨R0,R1,R2,R3,R4,R5,R6,R7,-⟩:=hX.facts8;go_wp2_with fail;clear R0 R1 R2 R3 R4 R5 R6 R7;refine hcal.mono ?_;rintro e V3 ⟨rfl,hR3,hq⟩;replace hb:=Below.grown hb hq hb.size (fun j hj=>by injection hj with hj;omega);have hR4:Rp V3 g (flat (partB m (hs.take (k+1)))):=by rw [HX.out.1,HX.out.2.2];exact hR3
    have hg4:∀ x∈partB m (hs.take (k+1)),GS (B+(k+1)) (E+(k+1)) x:=by rw [HX.out.1];exact HX.out.2.1
    have HY:=Lib.hid hg4;clear hR3 hg4 hcal hR hX hq HX;go_wp2;exact ⟨⟨k+1,hlt,rfl,hR4,HY.out,hb⟩,by simp [intY];omega⟩
  ·obtain rfl:k=n':=by omega
   rw [List.take_of_length_le (by omega)] at hR;go_wp2;go_ret2;exact ⟨g,n,rfl,hgw,Nat.le_refl _,hR,hb⟩
end Go.Proofs.YtlmckjodahbgbaaGreatDoor
