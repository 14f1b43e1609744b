/- The statements' own helpers: num, to, long, far, over rows of numbers and spans; walked. -/
import Derived.Test.YteofihmlgiepfaaGreatDoorHQ
import Derived.Test.YteofihmlgiepfaaGreatDoorHE
namespace Go.Proofs.YteofihmlgiepfaaGreatDoor
set_option maxRecDepth 100000
set_option maxHeartbeats 1600000
open Go.RowKit Go.Shelf
theorem slong_any (w:World) (ad:Option Addr) (l:List NV) (n c:Nat) (hn:l.length=n) (hmax:n≤4611686018427387904) (hl:NAt w ad l) :
  Calls Tryz.prog 23 #[.slice ad n c] w fun e w'=>e=.returned (.bool (longD 40 300 l))∧Below w.heap.size w w':=by
 have HN:=Lib.hid hn;clear hn;have hb:=Below.refl w.heap.size w;go_enter Tryz.func23,Tryz.ntmps23;go_wp2
 go_loopw [3] (fun i wr=>∃ k:Nat,k≤n∧i=.int .i64 k∧longD 40 300 (l.take k)=false∧Below w.heap.size w wr) (fun i _=>n-intY i)
 case atStart=>exact ⟨0,Nat.zero_le _,rfl,rfl,hb⟩
 case round =>
  clear hb;obtain ⟨k,hk,rfl,hv,hb⟩:=hrel;have HV:=Lib.hid hv;clear hv
  by_cases hlt:k<n
  ·have hkl:k<l.length:=by rw [HN.out];exact hlt
   obtain ⟨lb,lo,rfl,hlb,hc1,hc2,hc3⟩:=hl k hkl;obtain ⟨m1,s1,e1,hx⟩:∃ m s e,l[k]=(m,s,e):=⟨_,_,_,rfl⟩;have hmem:=List.getElem_mem hkl;rw [hx] at hc1 hc2 hc3 hmem;replace hc1:wr.cell? ⟨lb,lo+k*3,none⟩=some (.bool m1):=by rw [hb.cell hlb];exact hc1
   replace hc2:wr.cell? ⟨lb,lo+k*3+1,none⟩=some (.string s1):=by rw [hb.cell hlb];exact hc2
   replace hc3:wr.cell? ⟨lb,lo+k*3+2,none⟩=some (.int .i64 e1):=by rw [hb.cell hlb];exact hc3
   have hs:longD 40 300 (l.take (k+1))=(longD 40 300 (l.take k) || (decide (40<s1.size) || (decide (e1 < -300) || decide (300<e1)))):=by
    unfold longD;rw [List.take_succ_eq_append_getElem hkl,List.any_append,hx];simp
   have HS:=Lib.hid hs;have HM:=Lib.hid hmem;clear hx hs hmem
   by_cases h1:40<s1.size
   ·have d1:decide ((40:Int)<(s1.size:Int))=true:=decide_eq_true (by omega);have ht:longD 40 300 l=true:=by
     unfold longD;rw [List.any_eq_true];exact ⟨_,HM.out,by simp [h1]⟩
    have HT:=Lib.hid ht;clear ht;go_wp2;go_ret;exact ⟨by rw [HT.out];rfl,hb⟩
   ·have d1:decide ((40:Int)<(s1.size:Int))=false:=decide_eq_false (by omega)
    by_cases h2:e1 < -300
    ·have d2:decide (e1 < -300)=true:=decide_eq_true h2;have ht:longD 40 300 l=true:=by
      unfold longD;rw [List.any_eq_true];exact ⟨_,HM.out,by simp [h2]⟩
     have HT:=Lib.hid ht;clear ht;go_wp2;go_ret;exact ⟨by rw [HT.out];rfl,hb⟩
    ·have d2:decide (e1 < -300)=false:=decide_eq_false h2
     by_cases h3:300<e1
     ·have d3:decide (300<e1)=true:=decide_eq_true h3;have ht:longD 40 300 l=true:=by
       unfold longD;rw [List.any_eq_true];exact ⟨_,HM.out,by simp [h3]⟩
      have HT:=Lib.hid ht;clear ht;go_wp2;go_ret;exact ⟨by rw [HT.out];rfl,hb⟩
     ·have d3:decide (300<e1)=false:=decide_eq_false h3;have hs2:longD 40 300 (l.take (k+1))=false:=by rw [HS.out,HV.out,d2,d3];simpa using h1
      have HT:=Lib.hid hs2;clear hs2;go_wp2;go_roundw
      case rel=>exact ⟨k+1,by omega,by simp,HT.out,hb⟩
      case measure=>simp [intY];omega
  ·have hkn:k=n:=by omega
   have hf2:longD 40 300 l=false:=by
    have:=HV.out
    rwa [List.take_of_length_le (by rw [HN.out];omega)] at this
   have HT:=Lib.hid hf2;clear hf2;go_wp2;go_ret;exact ⟨by rw [HT.out];rfl,hb⟩
theorem snum_any (w:World) (x e:Int) (h1:-1000000000≤x∧x≤1000000000) (he:-1000000≤e∧e≤1000000) (m' : Bool) (s' : ByteArray) (e' : Int) (hd:df (.ofIntWithPrec x (-e))=nu m' s' e') :
  Calls Tryz.prog 49 #[.int .i64 x,.int .i64 e] w (Ret (.agg #[.bool m',.string s',.int .i64 e']) w):=by
 obtain ⟨z,o,ez,vz,sz⟩:=nmw (z:=x) (k:=8) (by have:(256:Nat) ^ 8=18446744073709551616:=rfl;omega);have HZ:=Lib.hid (And.intro ez (show df (nv z o e)=nu m' s' e' by rw [nv_of _ ez];exact hd));clear ez vz hd;have hb:=Below.refl w.heap.size w;go_enter Tryz.func49,Tryz.ntmps49;go_wp2_with fail;have hR:=Nk.new w false ⟨#[]⟩ 0;replace hb:=hb.alloc (Nat.le_refl _) (.cells #[.bool false,.string ⟨#[]⟩,.int .i64 0] 25);generalize (w.alloc (.cells #[.bool false,.string ⟨#[]⟩,.int .i64 0] 25))=W0 at *;refine (rof_any _ x (by omega) (by omega) z o HZ.out.1).mono ?_;rintro e1 W ⟨rfl,hq⟩;replace hb:=below_next hb hq;replace hR:=hR.below hq;clear hq;go_wp2_with fail;refine (rmake_any _ z o e (by omega) (by omega) m' s' e' HZ.out.2).mono ?_;rintro e2 V ⟨rfl,hq⟩;replace hb:=below_next hb hq;replace hR:=hR.below hq;clear hq;obtain ⟨hR0,hR1,hR2,hR3,hR4,hR5⟩:=hR.facts;go_wp2;exact ret_num rfl rfl (hR.set3 _ _ _) ⟨rfl,below_set3 hb (by omega) _ _ _ _ _ _⟩
theorem slong_to (w:World) (ad:Option Addr) (l:List NV) (n c:Nat) (hn:l.length=n) (hmax:n≤4611686018427387904) (hl:NAt w ad l) {r:Bool} (hr:longD 40 300 l=r) :
  Calls Tryz.prog 23 #[.slice ad n c] w (Ret (.bool r) w):=by
 refine (slong_any w ad l n c hn hmax hl).mono ?_;rintro e V ⟨rfl,hq⟩;exact ⟨by rw [hr],hq⟩
def farD5 (l:List SV):Bool:=l.any fun x=>longD 40 300 [x.1,x.2]
theorem farD5_take {l:List SV} {k:Nat} (h:k<l.length):farD5 (l.take (k+1))=(farD5 (l.take k) || longD 40 300 [l[k].1,l[k].2]):=by
 unfold farD5;rw [List.take_succ_eq_append_getElem h,List.any_append];simp
theorem sfar_any (w:World) (ad:Option Addr) (l:List SV) (n c:Nat) (hn:l.length=n) (hmax:n≤4611686018427387904) (hl:SAt w ad l) :
  Calls Tryz.prog 9 #[.slice ad n c] w fun e w'=>e=.returned (.bool (farD5 l))∧Below w.heap.size w w':=by
 have HN:=Lib.hid hn;clear hn;have hb:=Below.refl w.heap.size w;go_enter Tryz.func9,Tryz.ntmps9;go_wp2
 go_loopw [3] (fun i wr=>∃ k:Nat,k≤n∧i=.int .i64 k∧farD5 (l.take k)=false∧Below w.heap.size w wr) (fun i _=>n-intY i)
 case atStart=>exact ⟨0,Nat.zero_le _,rfl,rfl,hb⟩
 case round =>
  clear hb;obtain ⟨k,hk,rfl,hv,hb⟩:=hrel;have HV:=Lib.hid hv;clear hv
  by_cases hlt:k<n
  ·have hkl:k<l.length:=by rw [HN.out];exact hlt
   obtain ⟨lb,lo,rfl,hlb,⟨c0,c1,c2⟩,c3,c4,c5⟩:=hl k hkl;obtain ⟨⟨⟨m1,s1,d1⟩,n1,t1,e1⟩,hx⟩:∃ x:SV,l[k]=x:=⟨_,rfl⟩;have htk:=farD5_take hkl;have hmem:=List.getElem_mem hkl;rw [hx] at c0 c1 c2 c3 c4 c5 htk hmem;simp only at c0 c1 c2 c3 c4 c5 htk;have q0:=c0;replace c0:wr.cell? ⟨lb,lo+k*6,none⟩=some (.bool m1):=by rw [hb.cell hlb];exact c0
   have q1:=c1;replace c1:wr.cell? ⟨lb,lo+k*6+1,none⟩=some (.string s1):=by rw [hb.cell hlb];exact c1
   have q2:=c2;replace c2:wr.cell? ⟨lb,lo+k*6+2,none⟩=some (.int .i64 d1):=by rw [hb.cell hlb];exact c2
   have q3:=c3;replace c3:wr.cell? ⟨lb,lo+k*6+3,none⟩=some (.bool n1):=by rw [hb.cell hlb];exact c3
   have q4:=c4;replace c4:wr.cell? ⟨lb,lo+k*6+4,none⟩=some (.string t1):=by rw [hb.cell hlb];exact c4
   have q5:=c5;replace c5:wr.cell? ⟨lb,lo+k*6+5,none⟩=some (.int .i64 e1):=by rw [hb.cell hlb];exact c5
   have HX:=Lib.hid (And.intro htk hmem);clear htk hmem hx;obtain ⟨r,hlg⟩:∃ r,longD 40 300 [(m1,s1,d1),(n1,t1,e1)]=r:=⟨_,rfl⟩;have HL:=Lib.hid hlg;clear hlg;go_wp2_with fail;clear c0 c1 c2 c3 c4 c5;refine region_segs (n:=12) #[false,false,false,false,false,false,false,false,false,false,false,false] (by kernel_rfl) (by kernel_rfl) (by kernel_rfl) ?_;intro fu hf;refine ls 12 [0,1,2,3,4,5,6,7,8,9,10,11] 11 (fun L ac Wn=>∃ l0 l1 l2 l3 l4 l5 l6 l7 l8 l9 l10:Bool,L=#[l0,l1,l2,l3,l4,l5,l6,l7,l8,l9,l10,false]∧∃ g20:Nat,ac={tmps:=#[.slice (some { block:=lb,off:=lo }) n c,undef,u2,.int .i64 ↑k,.int .i64 ↑k,.slice (some { block:=lb,off:=lo }) n c,.int .i64 ↑n,.bool true,u8,u9,sel l0 (.slice (some { block:=lb,off:=lo }) n c) (u10),sel l1 (.int .i64 ↑k) (u11),sel l2 (.pointer (some { block:=lb,off:=lo+k*6 })) (u12),sel l3 (.pointer (some { block:=lb,off:=lo+k*6 })) (u13),sel l4 (.agg #[.bool m1,.string s1,.int .i64 d1]) (u14),sel l5 (.slice (some { block:=lb,off:=lo }) n c) (u15),sel l6 (.int .i64 ↑k) (u16),sel l7 (.pointer (some { block:=lb,off:=lo+k*6 })) (u17),sel l8 (.pointer (some { block:=lb,off:=lo+k*6+3 })) (u18),sel l9 (.agg #[.bool n1,.string t1,.int .i64 e1]) (u19),sel l10 (.slice (some ⟨g20,0,none⟩) 2 2) (u20),u21],defers:=[] }∧Below (w.heap.size) w Wn∧(On l10→NAt Wn (some ⟨g20,0,none⟩) [(m1,s1,d1),(n1,t1,e1)])) hf ?_ ?_ ?_ ?_
   ·exact ⟨false,false,false,false,false,false,false,false,false,false,false,by kernel_rfl,0,by kernel_rfl,hb.drew,(fun h=>not_ft h)⟩
   ·rintro L ac Wn ⟨l0,l1,l2,l3,l4,l5,l6,l7,l8,l9,l10,rfl,_⟩
    kernel_rfl
   ·refine (seg_all (b:=11) [0,1,2,3,4,5,6,7,8,9,10] ?_:∀ j∈[0,1,2,3,4,5,6,7,8,9,10,11],j≠11→_);refine lc [] [2,3,4,10] ?_ ?_
    ·rintro L ac Wn ⟨l0,l1,l2,l3,l4,l5,l6,l7,l8,l9,l10,rfl,hI⟩ rfl - ⟨rfl,rfl,rfl,rfl,-⟩ Kc hK;simp only [sel_f] at hI;obtain ⟨g20,rfl,hb,hW10⟩:=hI;refine ly (.slice (some { block:=lb,off:=lo }) n c) ?_;exact hK.out _ _ ⟨true,l1,false,false,false,l5,l6,l7,l8,l9,false,by kernel_rfl,g20,by kernel_rfl,hb,(fun h=>not_ft h)⟩
    refine lc [] [2,3,4,10] ?_ ?_
    ·rintro L ac Wn ⟨l0,l1,l2,l3,l4,l5,l6,l7,l8,l9,l10,rfl,hI⟩ rfl - ⟨rfl,rfl,rfl,rfl,-⟩ Kc hK;simp only [sel_f] at hI;obtain ⟨g20,rfl,hb,hW10⟩:=hI;refine ly (.int .i64 ↑k) ?_;exact hK.out _ _ ⟨l0,true,false,false,false,l5,l6,l7,l8,l9,false,by kernel_rfl,g20,by kernel_rfl,hb,(fun h=>not_ft h)⟩
    refine lc [0,1] [3,4,10] ?_ ?_
    ·rintro L ac Wn ⟨l0,l1,l2,l3,l4,l5,l6,l7,l8,l9,l10,rfl,hI⟩ rfl ⟨rfl,rfl,-⟩ ⟨rfl,rfl,rfl,-⟩ Kc hK;simp only [sel_t,sel_f] at hI;obtain ⟨g20,rfl,hb,hW10⟩:=hI;refine ly (.pointer (some { block:=lb,off:=lo+k*6 })) ?_;exact hK.out _ _ ⟨true,true,true,false,false,l5,l6,l7,l8,l9,false,by kernel_rfl,g20,by kernel_rfl,hb,(fun h=>not_ft h)⟩
    refine lc [0,1,2] [4,10] ?_ ?_
    ·rintro L ac Wn ⟨l0,l1,l2,l3,l4,l5,l6,l7,l8,l9,l10,rfl,hI⟩ rfl ⟨rfl,rfl,rfl,-⟩ ⟨rfl,rfl,-⟩ Kc hK;simp only [sel_t,sel_f] at hI;obtain ⟨g20,rfl,hb,hW10⟩:=hI;refine ly (.pointer (some { block:=lb,off:=lo+k*6 })) ?_;exact hK.out _ _ ⟨true,true,true,true,false,l5,l6,l7,l8,l9,false,by kernel_rfl,g20,by kernel_rfl,hb,(fun h=>not_ft h)⟩
    refine lc [0,1,2,3] [10] ?_ ?_
    ·rintro L ac Wn ⟨l0,l1,l2,l3,l4,l5,l6,l7,l8,l9,l10,rfl,hI⟩ rfl ⟨rfl,rfl,rfl,rfl,-⟩ ⟨rfl,-⟩ Kc hK;simp only [sel_t,sel_f] at hI;obtain ⟨g20,rfl,hb,hW10⟩:=hI;have w0:Wn.cell? ⟨lb,lo+k*6,none⟩=some (.bool m1):=by rw [hb.cell hlb];exact q0
     have w1:Wn.cell? ⟨lb,lo+k*6+1,none⟩=some (.string s1):=by rw [hb.cell hlb];exact q1
     have w2:Wn.cell? ⟨lb,lo+k*6+2,none⟩=some (.int .i64 d1):=by rw [hb.cell hlb];exact q2
     refine ly (.agg #[.bool m1,.string s1,.int .i64 d1]) ?_;exact hK.out _ _ ⟨true,true,true,true,true,l5,l6,l7,l8,l9,false,by kernel_rfl,g20,by kernel_rfl,hb,(fun h=>not_ft h)⟩
    refine lc [] [7,8,9,10] ?_ ?_
    ·rintro L ac Wn ⟨l0,l1,l2,l3,l4,l5,l6,l7,l8,l9,l10,rfl,hI⟩ rfl - ⟨rfl,rfl,rfl,rfl,-⟩ Kc hK;simp only [sel_f] at hI;obtain ⟨g20,rfl,hb,hW10⟩:=hI;refine ly (.slice (some { block:=lb,off:=lo }) n c) ?_;exact hK.out _ _ ⟨l0,l1,l2,l3,l4,true,l6,false,false,false,false,by kernel_rfl,g20,by kernel_rfl,hb,(fun h=>not_ft h)⟩
    refine lc [] [7,8,9,10] ?_ ?_
    ·rintro L ac Wn ⟨l0,l1,l2,l3,l4,l5,l6,l7,l8,l9,l10,rfl,hI⟩ rfl - ⟨rfl,rfl,rfl,rfl,-⟩ Kc hK;simp only [sel_f] at hI;obtain ⟨g20,rfl,hb,hW10⟩:=hI;refine ly (.int .i64 ↑k) ?_;exact hK.out _ _ ⟨l0,l1,l2,l3,l4,l5,true,false,false,false,false,by kernel_rfl,g20,by kernel_rfl,hb,(fun h=>not_ft h)⟩
    refine lc [5,6] [8,9,10] ?_ ?_
    ·rintro L ac Wn ⟨l0,l1,l2,l3,l4,l5,l6,l7,l8,l9,l10,rfl,hI⟩ rfl ⟨rfl,rfl,-⟩ ⟨rfl,rfl,rfl,-⟩ Kc hK;simp only [sel_t,sel_f] at hI;obtain ⟨g20,rfl,hb,hW10⟩:=hI;refine ly (.pointer (some { block:=lb,off:=lo+k*6 })) ?_;exact hK.out _ _ ⟨l0,l1,l2,l3,l4,true,true,true,false,false,false,by kernel_rfl,g20,by kernel_rfl,hb,(fun h=>not_ft h)⟩
    refine lc [5,6,7] [9,10] ?_ ?_
    ·rintro L ac Wn ⟨l0,l1,l2,l3,l4,l5,l6,l7,l8,l9,l10,rfl,hI⟩ rfl ⟨rfl,rfl,rfl,-⟩ ⟨rfl,rfl,-⟩ Kc hK;simp only [sel_t,sel_f] at hI;obtain ⟨g20,rfl,hb,hW10⟩:=hI;refine ly (.pointer (some { block:=lb,off:=lo+k*6+3 })) ?_;exact hK.out _ _ ⟨l0,l1,l2,l3,l4,true,true,true,true,false,false,by kernel_rfl,g20,by kernel_rfl,hb,(fun h=>not_ft h)⟩
    refine lc [5,6,7,8] [10] ?_ ?_
    ·rintro L ac Wn ⟨l0,l1,l2,l3,l4,l5,l6,l7,l8,l9,l10,rfl,hI⟩ rfl ⟨rfl,rfl,rfl,rfl,-⟩ ⟨rfl,-⟩ Kc hK;simp only [sel_t,sel_f] at hI;obtain ⟨g20,rfl,hb,hW10⟩:=hI;have w3:Wn.cell? ⟨lb,lo+k*6+3,none⟩=some (.bool n1):=by rw [hb.cell hlb];exact q3
     have w4:Wn.cell? ⟨lb,lo+k*6+4,none⟩=some (.string t1):=by rw [hb.cell hlb];exact q4
     have w5:Wn.cell? ⟨lb,lo+k*6+5,none⟩=some (.int .i64 e1):=by rw [hb.cell hlb];exact q5
     refine ly (.agg #[.bool n1,.string t1,.int .i64 e1]) ?_;exact hK.out _ _ ⟨l0,l1,l2,l3,l4,true,true,true,true,true,false,by kernel_rfl,g20,by kernel_rfl,hb,(fun h=>not_ft h)⟩
    refine ln [0,1,2,3,4,5,6,7,8,9] [] ?_;rintro L ac Wn ⟨l0,l1,l2,l3,l4,l5,l6,l7,l8,l9,l10,rfl,hI⟩ rfl ⟨rfl,rfl,rfl,rfl,rfl,rfl,rfl,rfl,rfl,rfl,-⟩ - Kc hK;simp only [sel_t,sel_f] at hI;obtain ⟨g20,rfl,hb,hW10⟩:=hI;go_simp;exact hK.out _ _ ⟨true,true,true,true,true,true,true,true,true,true,true,by kernel_rfl,_,by kernel_rfl,(hb.alloc hb.size _),(fun _=>NAt.new _ _ _ _ rfl)⟩
   refine bo [0,1,2,3,4,5,6,7,8,9,10] ?_;rintro L ac Wn ⟨l0,l1,l2,l3,l4,l5,l6,l7,l8,l9,l10,rfl,hI⟩ ⟨rfl,rfl,rfl,rfl,rfl,rfl,rfl,rfl,rfl,rfl,rfl,-⟩ Kc hK;simp only [sel_t] at hI;obtain ⟨g20,rfl,hb,hW10⟩:=hI;replace hW10:=hW10 rfl;go_simp;go_fit (slong_to _ _ [(m1,s1,d1),(n1,t1,e1)] 2 2 rfl (by omega) hW10 HL.out);rintro e V ⟨rfl,hq⟩;replace hW10:=hW10.below hq;replace hb:=(below_next hb hq);refine hK.out _ _ (fun fu hf=>wpAnyH_done (by kernel_rfl) ?_ _);clear hK Kc hf;have hlg:=HL.out
   cases r with
   | true =>
    have ht:farD5 l=true:=by
     unfold farD5;rw [List.any_eq_true];exact ⟨_,HX.out.2,hlg⟩
    have HT:=Lib.hid ht;clear ht hlg;go_wp2;go_ret;exact ⟨by rw [HT.out];rfl,hb⟩
   | false =>
    have ht:farD5 (l.take (k+1))=false:=by rw [HX.out.1,HV.out,hlg];rfl
    have HT:=Lib.hid ht;clear ht hlg;go_wp2;go_roundw
    case rel=>exact ⟨k+1,by omega,by simp,HT.out,hb⟩
    case measure=>simp [intY];omega
  ·have hkn:k=n:=by omega
   have hf2:farD5 l=false:=by
    have:=HV.out
    rwa [List.take_of_length_le (by rw [HN.out];omega)] at this
   have HT:=Lib.hid hf2;clear hf2;go_wp2;go_ret;exact ⟨by rw [HT.out];rfl,hb⟩
theorem to_any (w:World) (a b:Int) (ha:-1000000000≤a∧a≤1000000000) (hb0:-1000000000≤b∧b≤1000000000) (z3:Bool) (o3:ByteArray) (e3:Int) (h3:df (.ofIntWithPrec a (-0))=nu z3 o3 e3) (z4:Bool) (o4:ByteArray) (e4:Int) (h4:df (.ofIntWithPrec b (-0))=nu z4 o4 e4) :
  Calls Tryz.prog 48 #[.int .i64 a,.int .i64 b] w (Ret (.agg #[.bool z3,.string o3,.int .i64 e3,.bool z4,.string o4,.int .i64 e4]) w):=by
 have HC:=Lib.hid (And.intro h3 h4);clear h3 h4;go_enter Tryz.func48,Tryz.ntmps48;go_wp2_with fail;have hR:=Sk.new w 27 false ⟨#[]⟩ 0 false ⟨#[]⟩ 0;have hb:=(Below.refl w.heap.size w).alloc (Nat.le_refl _) (.cells #[.bool false,.string ⟨#[]⟩,.int .i64 0,.bool false,.string ⟨#[]⟩,.int .i64 0] 27);generalize (w.alloc (.cells #[.bool false,.string ⟨#[]⟩,.int .i64 0,.bool false,.string ⟨#[]⟩,.int .i64 0] 27))=W0 at *;refine (snum_any _ a 0 (by omega) (by omega) z3 o3 e3 HC.out.1).mono ?_;rintro e' W ⟨rfl,hq⟩;replace hb:=below_next hb hq;replace hR:=hR.below hq;clear hq;go_wp2_with fail;refine (snum_any _ b 0 (by omega) (by omega) z4 o4 e4 HC.out.2).mono ?_;rintro e' V ⟨rfl,hq⟩;replace hb:=below_next hb hq;replace hR:=hR.below hq;clear hq;obtain ⟨hR0,hR1,hR2,hR3,hR4,hR5,hR6,hR7,hR8,hR9,hR10,hR11⟩:=hR.facts;go_wp2;exact ret_span rfl rfl (hR.set6 _ _ _ _ _ _) ⟨rfl,below_set6 hb (by omega) _ _ _ _ _ _⟩
end Go.Proofs.YteofihmlgiepfaaGreatDoor
