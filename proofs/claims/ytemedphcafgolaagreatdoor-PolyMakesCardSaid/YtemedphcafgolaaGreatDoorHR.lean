/- Layer 1, laid together: WRef1, WRef2, WRef3, WRef4, WRef5, WRef6, WRef7. -/
import Derived.Test.YtemedphcafgolaaGreatDoorHW
import Derived.Test.YtemedphcafgolaaGreatDoorG4
/- The document's answer for whole numbers: Form,Of,Sign,Neg,Plus,Sub,Cmp,Times,walked. -/
namespace Go.Proofs.YtemedphcafgolaaGreatDoor
set_option maxRecDepth 100000
set_option maxHeartbeats 1600000
open Go.RowKit Go.Shelf
theorem rform_any (w:World) (n:Bool) (s:ByteArray) (hs:s.size≤1000000) (z:Bool) (o:ByteArray) (hz:wf (wv n s)=wi z o) :
  Calls Tryz.prog 95 #[wi n s] w (Ret (.agg #[.bool z,.string o]) w):=by
 show Calls _ _ _ _ (Ret (wi z o) w);rw [← hz];clear hz;have hw:wf (wv n s)=wi (n && decide (0<num s)) (fb (num s)):=wf_sign n (num s);have he:=fb_empty (num s);obtain ⟨d,hd⟩:∃ d,decide (num s=0)=d:=⟨_,rfl⟩;have hd2:decide (0<num s)=!d:=by rw [← hd];by_cases h:num s=0 <;> simp [h];omega
 obtain ⟨f,hf⟩:∃ f,fb (num s)=f:=⟨_,rfl⟩;rw [hd,hf] at he;rw [hw,hd2,hf];clear hw hd hd2;unfold wi;go_enter Tryz.func95,Tryz.ntmps95;go_wp2_with fail;obtain ⟨hA,hC,hb⟩:=blocks2 w #[.bool n,.string s] #[.bool false,.string ⟨#[]⟩];generalize ((w.alloc (.cells #[.bool n,.string s] 24)).alloc (.cells #[.bool false,.string ⟨#[]⟩] 24))=W0 at *;refine (bits_of_any _ s hs).mono ?_;rintro e W ⟨ad,c,es,rfl,hbw,hbit,_,hv,hle,hq⟩;replace hb:=below_next hb hq;replace hA:=hA.below hq;replace hC:=hC.below hq;clear hq;go_wp2_with fail;refine (textr_any _ ad c es.length es hbw rfl hbit (by omega)).mono ?_;rintro e W2 ⟨rfl,hq⟩;replace hb:=below_next hb hq;replace hA:=hA.below hq;replace hC:=hC.below hq;obtain ⟨hA0,hA1⟩:=hA.cells;obtain ⟨hC0,hC1,hC2,hC3⟩:=hC.facts;rw [hv,hf];clear hq hbw hbit hv hle hf hA
 cases n
 ·go_wp2;exact ret_whole rfl rfl (hC.set_ _ _) ⟨rfl,below_set2 hb (by omega) _ _ _ _⟩
 ·cases d
  ·go_wp2;exact ret_whole rfl rfl (hC.set_ _ _) ⟨rfl,below_set2 hb (by omega) _ _ _ _⟩
  ·go_wp2;exact ret_whole rfl rfl (hC.set_ _ _) ⟨rfl,below_set2 hb (by omega) _ _ _ _⟩
theorem rof_any (w:World) (n:Int) (h1:-9223372036854775808≤n) (h2:n≤9223372036854775807) (z:Bool) (o:ByteArray) (hz:wf (n)=wi z o) :
  Calls Tryz.prog 73 #[.int .i64 n] w (Ret (.agg #[.bool z,.string o]) w):=by
 obtain ⟨hz1,hz2⟩:=wi_inj hz;clear hz;subst hz1;go_enter Tryz.func73,Tryz.ntmps73;obtain ⟨hC,hb⟩:=blocks1 w #[.bool false,.string ⟨#[]⟩]
 by_cases h:n<0
 ·have hd:decide (n<0)=true:=by simp [h]
  have ha1:IntKind.i64.wrap (n+1)=n+1:=by rw [IntKind.wrap_i64];omega
  have ha3:IntKind.i64.wrap (-(n+1))=-(n+1):=by rw [IntKind.wrap_i64];omega
  have ha4:IntKind.u64.wrap (-(n+1))=-(n+1):=by rw [IntKind.wrap_u64];omega
  have ha:IntKind.u64.wrap (-(n+1)+1)=(n.natAbs:Int):=by rw [IntKind.wrap_u64];omega
  have ha2:n.natAbs<B64:=by unfold B64;omega
  rw [hd];go_wp2_with fail;generalize (w.alloc (.cells #[.bool false,.string ⟨#[]⟩] 24))=W0 at *;refine (ref_of _ n.natAbs ha2).mono ?_;rw [hz2];rintro e W ⟨rfl,hq⟩;replace hb:=below_next hb hq;replace hC:=hC.below hq;obtain ⟨hC0,hC1,hC2,hC3⟩:=hC.facts;go_wp2;exact ret_whole rfl rfl (hC.set_ _ _) ⟨rfl,below_set2 hb (by omega) _ _ _ _⟩
 ·have hd:decide (n<0)=false:=by simp [h]
  have ha:n=(n.natAbs:Int):=by omega
  have ha2:n.natAbs<B64:=by unfold B64;omega
  rw [hd];generalize n.natAbs=m at *;subst ha;go_wp2_with fail;generalize (w.alloc (.cells #[.bool false,.string ⟨#[]⟩] 24))=W0 at *;refine (ref_of _ m ha2).mono ?_;rw [hz2];rintro e W ⟨rfl,hq⟩;replace hb:=below_next hb hq;replace hC:=hC.below hq;obtain ⟨hC0,hC1,hC2,hC3⟩:=hC.facts;go_wp2;exact ret_whole rfl rfl (hC.set_ _ _) ⟨rfl,below_set2 hb (by omega) _ _ _ _⟩
theorem rsign_any (w:World) (n:Bool) (s:ByteArray) (hs:s.size≤1000000) (c:Int) (hc:sg (wv n s)=c) :
  Calls Tryz.prog 67 #[wi n s] w (Ret (.int .i64 c) w):=by
 subst hc;unfold wi;go_enter Tryz.func67,Tryz.ntmps67;go_wp2_with fail;obtain ⟨hA,hb⟩:=blocks1 w #[.bool n,.string s];generalize (w.alloc (.cells #[.bool n,.string s] 24))=W0 at *;refine (ref_len _ s hs).mono ?_;rintro e W ⟨rfl,hq⟩;replace hb:=below_next hb hq;replace hA:=hA.below hq;obtain ⟨hA0,hA1⟩:=hA.cells
 by_cases h0:num s=0
 ·have hc:sg (wv n s)=0:=by cases n <;> simp [sg,wv,h0]
  rw [h0,bl_zero];clear h0;go_wp2;go_ret;exact ⟨by rw [hc];rfl,hb⟩
 ·have hbl:(((bl (num s):Nat):Int) == 0)=false:=by simp;exact fun h=>h0 (bl_pos.1 h)
  cases n
  ·have hc:sg (wv false s)=1:=by unfold sg;rw [wv_false,if_neg (by omega),if_neg (by omega)]
   go_wp2;go_ret;exact ⟨by rw [hc];rfl,hb⟩
  ·have hc:sg (wv true s)=-1:=by unfold sg;rw [wv_true,if_neg (by omega),if_pos (by omega)]
   go_wp2;go_ret;exact ⟨by rw [hc];rfl,hb⟩
theorem ref_add2 (w:World) (a b r:ByteArray) (ha:a.size≤1000000) (hb:b.size≤1000000) (hr:fb (num a+num b)=r) :
  Calls Tryz.prog 144 #[.slice (some ⟨w.heap.size,0,none⟩) 2 2] (w.alloc (.cells #[.string a,.string b] 9)) (Ret (.string r) (w.alloc (.cells #[.string a,.string b] 9))):=by
 have hR:=Rw.new w 9 [.string a,.string b];refine (ref_add _ (some ⟨w.heap.size,0,none⟩) [a,b] 2 2 rfl (by omega) (fun s h=>by simp at h;rcases h with h|h <;> (rw [h];assumption)) (fun i h=>?_)).mono fun _ _ ⟨h,hb⟩=>⟨?_,?_⟩
 ·refine ⟨w.heap.size,0,rfl,by rw [World.size_alloc];omega,?_⟩;rw [Nat.zero_add];refine (hR.cell i).trans ?_
  match i,h with
  | 0,_=>rfl
  | 1,_=>rfl
 ·rw [h,← hr];simp [sumTo]
 ·exact hb
theorem fb_add_size {s t:ByteArray} {k:Nat} (hs:s.size≤k) (ht:t.size≤k):(fb (num s+num t)).size≤k+1:=fb_size_le (lt_add (lt_size hs) (lt_size ht))
theorem wv_plus_same (n:Bool) (s t:ByteArray):wv n s+wv n t=wv n (fb (num s+num t)):=by
 rw [sI_fb,wv_sI,wv_sI]
 cases n <;> simp only [sI,if_true,if_false,Bool.false_eq_true] <;> omega
theorem wv_plus_less (m n:Bool) (s t:ByteArray) (h:m≠n) (hle:num t≤num s):wv m s+wv n t=wv m (fb (num s-num t)):=by
 rw [sI_fb,wv_sI,wv_sI]
 cases m <;> cases n <;> first|exact absurd rfl h|(simp only [sI,if_true,if_false,Bool.false_eq_true];omega)
theorem wv_plus_more (m n:Bool) (s t:ByteArray) (h:m≠n) (hle:¬ num t≤num s):wv m s+wv n t=wv n (fb (num t-num s)):=by
 rw [sI_fb,wv_sI,wv_sI]
 cases m <;> cases n <;> first|exact absurd rfl h|(simp only [sI,if_true,if_false,Bool.false_eq_true];omega)
theorem rplus_same (w:World) (n:Bool) (s t:ByteArray) (hs:s.size≤900000) (ht:t.size≤900000) (z:Bool) (o:ByteArray) (hz:wf (wv n s+wv n t)=wi z o) :
  Calls Tryz.prog 119 #[wi n s,wi n t] w (Ret (.agg #[.bool z,.string o]) w):=by
 rw [wv_plus_same] at hz;obtain ⟨r,hr⟩:∃ r,fb (num s+num t)=r:=⟨_,rfl⟩;rw [hr] at hz;have hrs:r.size≤900001:=by rw [← hr];exact fb_add_size hs ht
 have HZ:=Lib.hid (And.intro hr hz);clear hr hz;unfold wi;go_enter Tryz.func119,Tryz.ntmps119;go_wp2_with fail;obtain ⟨hA,hB,hC,hb⟩:=blocks3 w #[.bool n,.string s] #[.bool n,.string t] #[.bool false,.string ⟨#[]⟩];generalize (((w.alloc (.cells #[.bool n,.string s] 24)).alloc (.cells #[.bool n,.string t] 24)).alloc (.cells #[.bool false,.string ⟨#[]⟩] 24))=W0 at *;replace hA:=hA.drew;replace hB:=hB.drew;replace hC:=hC.drew;replace hb:=hb.drew;have hin:=And.intro hA.cells (hB.cells);clear hA hB
 go_region_held3 (fun w'=>(w'.cell? ⟨w.heap.size,0,none⟩=some (.bool n)∧w'.cell? ⟨w.heap.size,1,none⟩=some (.string s))∧(w'.cell? ⟨w.heap.size+1,0,none⟩=some (.bool n)∧w'.cell? ⟨w.heap.size+1,1,none⟩=some (.string t)))
  (first|assumption|exact h2 hq (by assumption)|exact h2 hq (a2 (by assumption))|exact a2 (by assumption)|exact s2 (by assumption) (by omega))
  (first
    | (go_at_call 144;refine (ref_add2 W0.drew s t r (by omega) (by omega) HZ.out.1).mono ?_;rintro e V ⟨rfl,hq⟩;replace hb:=below_next (hb.alloc hb.size _) hq;replace hC:=(hC.alloc _).below hq)
    | (go_at_call 95;go_fit (rform_any _ n r (by omega) z o HZ.out.2);rintro e V ⟨rfl,hq⟩;replace hb:=below_next hb hq;replace hC:=hC.below hq;obtain ⟨hC0,hC1,hC2,hC3⟩:=hC.facts))
 go_wp2;exact ret_whole rfl rfl (hC.set_ _ _) ⟨rfl,below_set2 hb (by omega) _ _ _ _⟩
theorem rplus_any (w:World) (m n:Bool) (s t:ByteArray) (hs:s.size≤900000) (ht:t.size≤900000) (z:Bool) (o:ByteArray) (hz:wf (wv m s+wv n t)=wi z o) :
  Calls Tryz.prog 119 #[wi m s,wi n t] w (Ret (.agg #[.bool z,.string o]) w):=by
 by_cases hmn:m=n
 ·subst hmn;exact rplus_same w m s t hs ht z o hz
 ·have hmn2:n=!m:=by cases m <;> cases n <;> first|rfl|exact absurd rfl hmn
  subst hmn2
  by_cases hle:num t≤num s
  ·rw [wv_plus_less m (!m) s t hmn hle] at hz;obtain ⟨r,hr⟩:∃ r,fb (num s-num t)=r:=⟨_,rfl⟩;rw [hr] at hz;have hrs:r.size≤900000:=by rw [← hr];exact Nat.le_trans (fb_size_le (Nat.lt_of_le_of_lt (Nat.sub_le _ _) (num_lt s))) hs
   have hd:decide (num t≤num s)=true:=decide_eq_true hle;have HZ:=Lib.hid (And.intro hr (And.intro hd hz));clear hr hz hd hle hmn
   cases m
   ·unfold wi;go_enter Tryz.func119,Tryz.ntmps119;go_wp2_with fail;obtain ⟨hA,hB,hC,hb⟩:=blocks3 w #[.bool false,.string s] #[.bool true,.string t] #[.bool false,.string ⟨#[]⟩];generalize (((w.alloc (.cells #[.bool false,.string s] 24)).alloc (.cells #[.bool true,.string t] 24)).alloc (.cells #[.bool false,.string ⟨#[]⟩] 24))=W0 at *;obtain ⟨hA0,hA1⟩:=hA.cells;obtain ⟨hB0,hB1⟩:=hB.cells;refine (ref_sub _ s t (by omega) (by omega)).mono ?_;rw [HZ.out.1,HZ.out.2.1];rintro e W ⟨rfl,hq⟩;replace hb:=below_next hb hq;replace hA:=hA.below hq;replace hB:=hB.below hq;replace hC:=hC.below hq;clear hA0 hA1 hB0 hB1 hq;obtain ⟨hA0,hA1⟩:=hA.cells;go_wp2_with fail;refine (rform_any _ false r (by omega) z o HZ.out.2.2).mono ?_;rintro e W2 ⟨rfl,hq⟩;replace hb:=below_next hb hq;replace hC:=hC.below hq;obtain ⟨hC0,hC1,hC2,hC3⟩:=hC.facts;clear hq hA0 hA1;go_wp2;exact ret_whole rfl rfl (hC.set_ _ _) ⟨rfl,below_set2 hb (by omega) _ _ _ _⟩
   ·unfold wi;go_enter Tryz.func119,Tryz.ntmps119;go_wp2_with fail;obtain ⟨hA,hB,hC,hb⟩:=blocks3 w #[.bool true,.string s] #[.bool false,.string t] #[.bool false,.string ⟨#[]⟩];generalize (((w.alloc (.cells #[.bool true,.string s] 24)).alloc (.cells #[.bool false,.string t] 24)).alloc (.cells #[.bool false,.string ⟨#[]⟩] 24))=W0 at *;obtain ⟨hA0,hA1⟩:=hA.cells;obtain ⟨hB0,hB1⟩:=hB.cells;refine (ref_sub _ s t (by omega) (by omega)).mono ?_;rw [HZ.out.1,HZ.out.2.1];rintro e W ⟨rfl,hq⟩;replace hb:=below_next hb hq;replace hA:=hA.below hq;replace hB:=hB.below hq;replace hC:=hC.below hq;clear hA0 hA1 hB0 hB1 hq;obtain ⟨hA0,hA1⟩:=hA.cells;go_wp2_with fail;refine (rform_any _ true r (by omega) z o HZ.out.2.2).mono ?_;rintro e W2 ⟨rfl,hq⟩;replace hb:=below_next hb hq;replace hC:=hC.below hq;obtain ⟨hC0,hC1,hC2,hC3⟩:=hC.facts;clear hq hA0 hA1;go_wp2;exact ret_whole rfl rfl (hC.set_ _ _) ⟨rfl,below_set2 hb (by omega) _ _ _ _⟩
  ·rw [wv_plus_more m (!m) s t hmn hle] at hz;obtain ⟨r,hr⟩:∃ r,fb (num t-num s)=r:=⟨_,rfl⟩;rw [hr] at hz;have hrs:r.size≤900000:=by rw [← hr];exact Nat.le_trans (fb_size_le (Nat.lt_of_le_of_lt (Nat.sub_le _ _) (num_lt t))) ht
   have hd:decide (num t≤num s)=false:=decide_eq_false hle;have hd2:decide (num s≤num t)=true:=decide_eq_true (by omega);have HZ:=Lib.hid (And.intro hr (And.intro hd (And.intro hd2 hz)));clear hr hz hd hd2 hle hmn
   cases m
   ·unfold wi;go_enter Tryz.func119,Tryz.ntmps119;go_wp2_with fail;obtain ⟨hA,hB,hC,hb⟩:=blocks3 w #[.bool false,.string s] #[.bool true,.string t] #[.bool false,.string ⟨#[]⟩];generalize (((w.alloc (.cells #[.bool false,.string s] 24)).alloc (.cells #[.bool true,.string t] 24)).alloc (.cells #[.bool false,.string ⟨#[]⟩] 24))=W0 at *;obtain ⟨hA0,hA1⟩:=hA.cells;obtain ⟨hB0,hB1⟩:=hB.cells;refine (ref_sub _ s t (by omega) (by omega)).mono ?_;rw [HZ.out.2.1];rintro e W ⟨rfl,hq⟩;replace hb:=below_next hb hq;replace hA:=hA.below hq;replace hB:=hB.below hq;replace hC:=hC.below hq;clear hA0 hA1 hB0 hB1 hq;obtain ⟨hA0,hA1⟩:=hA.cells;obtain ⟨hB0,hB1⟩:=hB.cells;go_wp2_with fail;refine (ref_sub _ t s (by omega) (by omega)).mono ?_;rw [HZ.out.1,HZ.out.2.2.1];rintro e W2 ⟨rfl,hq⟩;replace hb:=below_next hb hq;replace hA:=hA.below hq;replace hB:=hB.below hq;replace hC:=hC.below hq;clear hA0 hA1 hB0 hB1 hq;obtain ⟨hB0,hB1⟩:=hB.cells;go_wp2_with fail;refine (rform_any _ true r (by omega) z o HZ.out.2.2.2).mono ?_;rintro e W3 ⟨rfl,hq⟩;replace hb:=below_next hb hq;replace hC:=hC.below hq;obtain ⟨hC0,hC1,hC2,hC3⟩:=hC.facts;clear hq hB0 hB1;go_wp2;exact ret_whole rfl rfl (hC.set_ _ _) ⟨rfl,below_set2 hb (by omega) _ _ _ _⟩
   ·unfold wi;go_enter Tryz.func119,Tryz.ntmps119;go_wp2_with fail;obtain ⟨hA,hB,hC,hb⟩:=blocks3 w #[.bool true,.string s] #[.bool false,.string t] #[.bool false,.string ⟨#[]⟩];generalize (((w.alloc (.cells #[.bool true,.string s] 24)).alloc (.cells #[.bool false,.string t] 24)).alloc (.cells #[.bool false,.string ⟨#[]⟩] 24))=W0 at *;obtain ⟨hA0,hA1⟩:=hA.cells;obtain ⟨hB0,hB1⟩:=hB.cells;refine (ref_sub _ s t (by omega) (by omega)).mono ?_;rw [HZ.out.2.1];rintro e W ⟨rfl,hq⟩;replace hb:=below_next hb hq;replace hA:=hA.below hq;replace hB:=hB.below hq;replace hC:=hC.below hq;clear hA0 hA1 hB0 hB1 hq;obtain ⟨hA0,hA1⟩:=hA.cells;obtain ⟨hB0,hB1⟩:=hB.cells;go_wp2_with fail;refine (ref_sub _ t s (by omega) (by omega)).mono ?_;rw [HZ.out.1,HZ.out.2.2.1];rintro e W2 ⟨rfl,hq⟩;replace hb:=below_next hb hq;replace hA:=hA.below hq;replace hB:=hB.below hq;replace hC:=hC.below hq;clear hA0 hA1 hB0 hB1 hq;obtain ⟨hB0,hB1⟩:=hB.cells;go_wp2_with fail;refine (rform_any _ false r (by omega) z o HZ.out.2.2.2).mono ?_;rintro e W3 ⟨rfl,hq⟩;replace hb:=below_next hb hq;replace hC:=hC.below hq;obtain ⟨hC0,hC1,hC2,hC3⟩:=hC.facts;clear hq hB0 hB1;go_wp2;exact ret_whole rfl rfl (hC.set_ _ _) ⟨rfl,below_set2 hb (by omega) _ _ _ _⟩
theorem use_rmul (w:World) (s t r:ByteArray) (hs:s.size≤1000000) (ht:t.size≤1000000) (hr:fb (num s*num t)=r):Calls Tryz.prog 138 #[.string s,.string t] w (Ret (.string r) w):=hr▸ref_mul w s t hs ht
theorem rtimes_any (w:World) (m n:Bool) (s t:ByteArray) (hs:s.size≤400000) (ht:t.size≤400000) (z:Bool) (o:ByteArray) (hz:wf (wv m s*wv n t)=wi z o) :
  Calls Tryz.prog 112 #[wi m s,wi n t] w (Ret (.agg #[.bool z,.string o]) w):=by
 obtain ⟨r,hr⟩:∃ r,fb (num s*num t)=r:=⟨_,rfl⟩;have hz2:wf (wv (m != n) r)=wi z o:=by rw [← hr,sI_fb,← sI_mul,← wv_sI,← wv_sI];exact hz
 have hrs:r.size≤800000:=by rw [← hr];exact Nat.le_trans (fb_size_le (lt_mul (num_lt s) (num_lt t))) (by omega)
 have HZ:=Lib.hid (And.intro hr hz2);clear hr hz hz2;unfold wi;go_enter Tryz.func112,Tryz.ntmps112;go_wp2_with fail;obtain ⟨hA,hB,hC,hb⟩:=blocks3 w #[.bool m,.string s] #[.bool n,.string t] #[.bool false,.string ⟨#[]⟩];generalize (((w.alloc (.cells #[.bool m,.string s] 24)).alloc (.cells #[.bool n,.string t] 24)).alloc (.cells #[.bool false,.string ⟨#[]⟩] 24))=W0 at *;replace hA:=hA.drew;replace hB:=hB.drew;replace hC:=hC.drew;replace hb:=hb.drew;have hin:=And.intro hA.cells (hB.cells);clear hA hB
 go_region_held3 (fun w'=>(w'.cell? ⟨w.heap.size,0,none⟩=some (.bool m)∧w'.cell? ⟨w.heap.size,1,none⟩=some (.string s))∧(w'.cell? ⟨w.heap.size+1,0,none⟩=some (.bool n)∧w'.cell? ⟨w.heap.size+1,1,none⟩=some (.string t)))
  (first|assumption|exact h2 hq (by assumption)|exact h2 hq (a2 (by assumption))|exact a2 (by assumption)|exact s2 (by assumption) (by omega))
  (first
    | (go_at_call 138;go_fit (use_rmul _ s t r (by omega) (by omega) HZ.out.1);rintro e V ⟨rfl,hq⟩;replace hb:=below_next hb hq;replace hC:=hC.below hq)
    | (go_at_call 95;go_fit (rform_any _ (m != n) r (by omega) z o HZ.out.2);rintro e V ⟨rfl,hq⟩;replace hb:=below_next hb hq;replace hC:=hC.below hq;obtain ⟨hC0,hC1,hC2,hC3⟩:=hC.facts))
 go_wp2;exact ret_whole rfl rfl (hC.set_ _ _) ⟨rfl,below_set2 hb (by omega) _ _ _ _⟩
theorem wv_of_wf {x:Int} {z:Bool} {o:ByteArray} (h:wf x=wi z o):wv z o=x:=by
 obtain ⟨h1,h2⟩:=wi_inj h;rw [← h1,← h2,sI_fb];unfold sI
 by_cases hx:x<0
 ·rw [decide_eq_true hx];simp;omega
 ·rw [decide_eq_false hx];simp;omega
theorem rdiv_plain (w:World) (m n:Bool) (s t:ByteArray) (hs:s.size≤100000) (ht:t.size≤100000) (h0:num t≠0) (h1:m=true→num s % num t=0) (z1:Bool) (o1:ByteArray) (hz1:wf (wv m s / wv n t)=wi z1 o1) (z2:Bool) (o2:ByteArray) (hz2:wf (wv m s % wv n t)=wi z2 o2) :
  Calls Tryz.prog 96 #[wi m s,wi n t] w (Ret (.tuple #[.agg #[.bool z1,.string o1],.agg #[.bool z2,.string o2],.bool true]) w):=by
 obtain ⟨e1,e2⟩:=sI_div_plain m n (num s) (num t) (by omega) h1;rw [wv_sI,wv_sI] at hz1 hz2;rw [e1] at hz1;rw [e2] at hz2;obtain ⟨Q,hQ,nQ,sQ⟩:=nm (Nat.lt_of_le_of_lt (Nat.div_le_self (num s) (num t)) (num_lt s));obtain ⟨R,hR,nR,sR⟩:=nm (Nat.lt_trans (Nat.mod_lt (num s) (Nat.pos_of_ne_zero h0)) (num_lt t));have hd:=divV_some (A:=num s) h0;rw [hQ,hR] at hd;have f1:wf (wv (m != n) Q)=wi z1 o1:=by rw [wv_sI,nQ];exact hz1
 have f2:wf (wv m R)=wi z2 o2:=by
  rw [wv_sI,nR,← hz2]
  congr 1
  cases m
  ·rfl
  ·rw [h1 rfl];rfl
 obtain ⟨x,hx⟩:∃ x,sg (wv z2 o2)=x:=⟨_,rfl⟩;have hx0:decide (x<0)=false:=by
  apply decide_eq_false
  have hw:wv z2 o2=((num s % num t:Nat):Int):=wv_of_wf hz2;rw [← hx,hw]
  rcases sg_cases ((num s % num t:Nat):Int) with ⟨_,h⟩|⟨_,h⟩|⟨_,h⟩ <;> omega
 have so2:o2.size≤100000:=by
  obtain ⟨_,h4⟩:=wi_inj hz2;rw [← h4];exact Nat.le_trans (fb_size_le (k:=t.size) (by have:=Nat.mod_lt (num s) (Nat.pos_of_ne_zero h0);have:=num_lt t;omega)) ht
 have HD:=Lib.hid (And.intro hd (And.intro f1 (And.intro f2 hx)));clear hd f1 f2 hx hz1 hz2 e1 e2 hQ hR nQ nR h1;unfold wi;go_enter Tryz.func96,Tryz.ntmps96;go_wp2_with fail;obtain ⟨hA,hB,hC,hD,hb⟩:=blocks4 w #[.bool m,.string s] #[.bool n,.string t] #[.bool false,.string ⟨#[]⟩] #[.bool false,.string ⟨#[]⟩];generalize ((((w.alloc (.cells #[.bool m,.string s] 24)).alloc (.cells #[.bool n,.string t] 24)).alloc (.cells #[.bool false,.string ⟨#[]⟩] 24)).alloc (.cells #[.bool false,.string ⟨#[]⟩] 24))=W0 at *;refine (ref_div _ s t (by omega) (by omega)).mono ?_;rw [HD.out.1];rintro e W ⟨rfl,hq⟩;replace hb:=below_next hb hq;replace hA:=hA.below hq;replace hB:=hB.below hq;replace hC:=hC.below hq;replace hD:=hD.below hq;clear hq;obtain ⟨hA0,hA1⟩:=hA.cells;obtain ⟨hB0,hB1⟩:=hB.cells;go_wp2_with fail;refine (rform_any _ (!(m == n)) Q (by omega) z1 o1 HD.out.2.1).mono ?_;rintro e W1 ⟨rfl,hq⟩;replace hb:=below_next hb hq;replace hA:=hA.below hq;replace hB:=hB.below hq;replace hC:=hC.below hq;replace hD:=hD.below hq;clear hq hA0 hA1 hB0 hB1;have l1:=hC.lt;have l2:=hD.lt;have hQ:=Bk.new W1 #[.bool z1,.string o1];replace hb:=hb.alloc hb.size (.cells #[.bool z1,.string o1] 24);replace hA:=hA.alloc (.cells #[.bool z1,.string o1] 24);replace hB:=hB.alloc (.cells #[.bool z1,.string o1] 24);replace hC:=hC.alloc (.cells #[.bool z1,.string o1] 24);replace hD:=hD.alloc (.cells #[.bool z1,.string o1] 24);obtain ⟨hA0,hA1⟩:=hA.cells;obtain ⟨hB0,hB1⟩:=hB.cells;go_wp2_with fail
 generalize (W1.alloc (.cells #[.bool z1,.string o1] 24))=V1 at *;refine (rform_any _ m R (by omega) z2 o2 HD.out.2.2.1).mono ?_;rintro e W2 ⟨rfl,hq⟩;replace hb:=below_next hb hq;replace hA:=hA.below hq;replace hB:=hB.below hq;replace hC:=hC.below hq;replace hD:=hD.below hq;replace hQ:=hQ.below hq;clear hq hA0 hA1 hB0 hB1;have l3:=hC.lt;have l4:=hD.lt;have hR:=Bk.new W2 #[.bool z2,.string o2];replace hb:=hb.alloc hb.size (.cells #[.bool z2,.string o2] 24);replace hA:=hA.alloc (.cells #[.bool z2,.string o2] 24);replace hB:=hB.alloc (.cells #[.bool z2,.string o2] 24);replace hC:=hC.alloc (.cells #[.bool z2,.string o2] 24);replace hD:=hD.alloc (.cells #[.bool z2,.string o2] 24);replace hQ:=hQ.alloc (.cells #[.bool z2,.string o2] 24);obtain ⟨hA0,hA1⟩:=hA.cells;obtain ⟨hB0,hB1⟩:=hB.cells;obtain ⟨hQ0,hQ1⟩:=hQ.cells;go_wp2_with fail;generalize (W2.alloc (.cells #[.bool z2,.string o2] 24))=V2 at *;refine (rsign_any _ z2 o2 (by omega) x HD.out.2.2.2).mono ?_;rintro e W3 ⟨rfl,hq⟩;replace hb:=below_next hb hq;replace hC:=hC.below hq;replace hD:=hD.below hq;replace hQ:=hQ.below hq;replace hR:=hR.below hq;clear hq hA0 hA1 hB0 hB1 hQ0 hQ1;obtain ⟨hQ0,hQ1⟩:=hQ.cells;obtain ⟨hR0,hR1⟩:=hR.cells;obtain ⟨hC0,hC1,hC2,hC3⟩:=hC.facts;obtain ⟨hD0,hD1,hD2,hD3⟩:=hD.facts;have hin:=And.intro hQ.drew.cells hR.drew.cells;clear HD hQ0 hQ1 hR0 hR1;go_wp2_with fail
 go_region_held3 (fun w'=>(w'.cell? ⟨W1.heap.size,0,none⟩=some (.bool z1)∧w'.cell? ⟨W1.heap.size,1,none⟩=some (.string o1))∧(w'.cell? ⟨W2.heap.size,0,none⟩=some (.bool z2)∧w'.cell? ⟨W2.heap.size,1,none⟩=some (.string o2)))
  (first|exact hin|exact s2 (by assumption) (by omega))
  (first|fail)
 go_wp2;obtain ⟨k1,k2⟩:=two_set hC hD (by omega) (.bool z1) (.string o1) (.bool z2) (.string o2);exact ret_two rfl rfl rfl rfl k1.drew k2.drew ⟨rfl,(below_set4 hb (by omega) (by omega) _ _ _ _).drew⟩
theorem rdiv_next_true (w:World) (s t:ByteArray) (hs:s.size≤100000) (ht:t.size≤100000) (h0:num t≠0) (h1:num s % num t≠0) (z1:Bool) (o1:ByteArray) (hz1:wf (wv true s / wv true t)=wi z1 o1) (z2:Bool) (o2:ByteArray) (hz2:wf (wv true s % wv true t)=wi z2 o2) :
  Calls Tryz.prog 96 #[wi true s,wi true t] w (Ret (.tuple #[.agg #[.bool z1,.string o1],.agg #[.bool z2,.string o2],.bool true]) w):=by
 obtain ⟨e1,e2⟩:=sI_div_next true (num s) (num t) (by omega) h1;rw [wv_sI,wv_sI] at hz1 hz2;rw [e1] at hz1;rw [e2] at hz2;have hmod:=Nat.mod_lt (num s) (Nat.pos_of_ne_zero h0);obtain ⟨Q,hQ,nQ,sQ⟩:=nm (Nat.lt_of_le_of_lt (Nat.div_le_self (num s) (num t)) (num_lt s));obtain ⟨R,hR,nR,sR⟩:=nm (Nat.lt_trans hmod (num_lt t));have hd:=divV_some (A:=num s) h0;rw [hQ,hR] at hd;obtain ⟨zq,oq,eq,vq,sq⟩:=form_nmw false Q (k:=100000) (by omega);obtain ⟨zr,or,er,vr,sr⟩:=form_nmw true R (k:=100000) (by omega);have hx:sg (wv zr or)=-1:=by
  rw [vr,wv_true,nR]
  rcases sg_cases (-((num s % num t:Nat):Int)) with ⟨_,h⟩|⟨_,h⟩|⟨_,h⟩ <;> omega
 have f1:wf (wv zr or+wv false t)=wi z2 o2:=by
  rw [← hz2,vr,wv_true,wv_false,nR]
  congr 1
  omega
 have f2:wf (wv zq oq+1)=wi z1 o1:=by
  rw [← hz1,vq,wv_sI,nQ];have h9:((num s / num t:Nat):Int)+1=((num s / num t+1:Nat):Int):=by omega
  exact congrArg wf h9
 have hy:sg (wv true t)=-1:=by
  have hp:0<num t:=Nat.pos_of_ne_zero h0;show sg (-((num t:Nat):Int))=_
  rcases sg_cases (-((num t:Nat):Int)) with ⟨_,h⟩|⟨_,h⟩|⟨_,h⟩ <;> omega
 have HD:=Lib.hid (And.intro hd (And.intro eq (And.intro er (And.intro hx (And.intro f1 (And.intro f2 hy))))));clear hd eq er hx f1 f2 hy hz1 hz2 e1 e2 hQ hR nQ nR vq vr h1 hmod;unfold wi;go_enter Tryz.func96,Tryz.ntmps96;go_wp2_with fail;obtain ⟨hA,hB,hC,hD,hb⟩:=blocks4 w #[.bool true,.string s] #[.bool true,.string t] #[.bool false,.string ⟨#[]⟩] #[.bool false,.string ⟨#[]⟩];generalize ((((w.alloc (.cells #[.bool true,.string s] 24)).alloc (.cells #[.bool true,.string t] 24)).alloc (.cells #[.bool false,.string ⟨#[]⟩] 24)).alloc (.cells #[.bool false,.string ⟨#[]⟩] 24))=W0 at *;refine (ref_div _ s t (by omega) (by omega)).mono ?_;rw [HD.out.1];rintro e W ⟨rfl,hq⟩;replace hb:=below_next hb hq;replace hA:=hA.below hq;replace hB:=hB.below hq;replace hC:=hC.below hq;replace hD:=hD.below hq;clear hq;obtain ⟨hA0,hA1⟩:=hA.cells;obtain ⟨hB0,hB1⟩:=hB.cells;go_wp2_with fail;refine (rform_any _ false Q (by omega) zq oq HD.out.2.1).mono ?_;rintro e W1 ⟨rfl,hq⟩;replace hb:=below_next hb hq;replace hA:=hA.below hq;replace hB:=hB.below hq;replace hC:=hC.below hq;replace hD:=hD.below hq;clear hq hA0 hA1 hB0 hB1;have l1:=hC.lt;have l2:=hD.lt;have hQ:=Bk.new W1 #[.bool zq,.string oq];replace hb:=hb.alloc hb.size (.cells #[.bool zq,.string oq] 24);replace hA:=hA.alloc (.cells #[.bool zq,.string oq] 24);replace hB:=hB.alloc (.cells #[.bool zq,.string oq] 24);replace hC:=hC.alloc (.cells #[.bool zq,.string oq] 24);replace hD:=hD.alloc (.cells #[.bool zq,.string oq] 24)
 obtain ⟨hA0,hA1⟩:=hA.cells;obtain ⟨hB0,hB1⟩:=hB.cells;go_wp2_with fail;generalize (W1.alloc (.cells #[.bool zq,.string oq] 24))=V1 at *;refine (rform_any _ true R (by omega) zr or HD.out.2.2.1).mono ?_;rintro e W2 ⟨rfl,hq⟩;replace hb:=below_next hb hq;replace hA:=hA.below hq;replace hB:=hB.below hq;replace hC:=hC.below hq;replace hD:=hD.below hq;replace hQ:=hQ.below hq;clear hq hA0 hA1 hB0 hB1;have l3:=hC.lt;have l4:=hD.lt;have l5:=hQ.lt;have l6:=hB.lt;have hR:=Bk.new W2 #[.bool zr,.string or];replace hb:=hb.alloc hb.size (.cells #[.bool zr,.string or] 24);replace hA:=hA.alloc (.cells #[.bool zr,.string or] 24);replace hB:=hB.alloc (.cells #[.bool zr,.string or] 24);replace hC:=hC.alloc (.cells #[.bool zr,.string or] 24);replace hD:=hD.alloc (.cells #[.bool zr,.string or] 24);replace hQ:=hQ.alloc (.cells #[.bool zr,.string or] 24);obtain ⟨hA0,hA1⟩:=hA.cells;obtain ⟨hB0,hB1⟩:=hB.cells;obtain ⟨hQ0,hQ1⟩:=hQ.cells;go_wp2_with fail;generalize (W2.alloc (.cells #[.bool zr,.string or] 24))=V2 at *;refine (rsign_any _ zr or (by omega) (-1) HD.out.2.2.2.1).mono ?_;rintro e W3 ⟨rfl,hq⟩;replace hb:=below_next hb hq;replace hB:=hB.below hq;replace hC:=hC.below hq;replace hD:=hD.below hq;replace hQ:=hQ.below hq;replace hR:=hR.below hq;clear hq hA0 hA1 hB0 hB1 hQ0 hQ1;have l7:=hR.lt;obtain ⟨hB0,hB1⟩:=hB.cells;obtain ⟨hR0,hR1⟩:=hR.cells;go_wp2_with fail;refine (rplus_any _ zr false or t (by omega) (by omega) z2 o2 HD.out.2.2.2.2.1).mono ?_;rintro e W4 ⟨rfl,hq⟩;replace hb:=below_next hb hq
 replace hB:=hB.below hq;replace hC:=hC.below hq;replace hD:=hD.below hq;replace hQ:=hQ.below hq;replace hR:=hR.below hq;clear hq hB0 hB1 hR0 hR1;obtain ⟨hR0,hR1,hR2,hR3⟩:=hR.facts;go_wp2_with fail;clear hR0 hR1 hR2 hR3;replace hB:=(hB.fr (W2.heap.size) 0 (.bool z2)).fr (W2.heap.size) 1 (.string o2);replace hC:=(hC.fr (W2.heap.size) 0 (.bool z2)).fr (W2.heap.size) 1 (.string o2);replace hD:=(hD.fr (W2.heap.size) 0 (.bool z2)).fr (W2.heap.size) 1 (.string o2);replace hQ:=(hQ.fr (W2.heap.size) 0 (.bool z2)).fr (W2.heap.size) 1 (.string o2);replace hR:=hR.set_ (.bool z2) (.string o2);replace hb:=below_set2 hb (by omega:w.heap.size≤W2.heap.size) 0 1 (.bool z2) (.string o2);generalize ((W4.setCell { block:=W2.heap.size,off:=0 } (Value.bool z2)).setCell { block:=W2.heap.size,off:=1 } (Value.string o2))=V4 at *;refine (rof_any _ (-1) (by omega) (by omega) true ⟨#[1]⟩ (by kernel_rfl)).mono ?_;rintro e W5 ⟨rfl,hq⟩;replace hb:=below_next hb hq;replace hB:=hB.below hq;replace hC:=hC.below hq;replace hD:=hD.below hq;replace hQ:=hQ.below hq;replace hR:=hR.below hq;clear hq;have m1:=hC.lt;have m2:=hD.lt;have m3:=hQ.lt;have m4:=hR.lt;have hX:=Bk.new W5 #[.bool true,.string ⟨#[1]⟩];replace hb:=hb.alloc hb.size (.cells #[.bool true,.string ⟨#[1]⟩] 24);replace hB:=hB.alloc (.cells #[.bool true,.string ⟨#[1]⟩] 24);replace hC:=hC.alloc (.cells #[.bool true,.string ⟨#[1]⟩] 24);replace hD:=hD.alloc (.cells #[.bool true,.string ⟨#[1]⟩] 24)
 replace hQ:=hQ.alloc (.cells #[.bool true,.string ⟨#[1]⟩] 24);replace hR:=hR.alloc (.cells #[.bool true,.string ⟨#[1]⟩] 24);obtain ⟨hB0,hB1⟩:=hB.cells;go_wp2_with fail;generalize (W5.alloc (.cells #[.bool true,.string ⟨#[1]⟩] 24))=V5 at *;refine (rsign_any _ true t (by omega) (-1) HD.out.2.2.2.2.2.2).mono ?_;rintro e W6 ⟨rfl,hq⟩;replace hb:=below_next hb hq;replace hC:=hC.below hq;replace hD:=hD.below hq;replace hQ:=hQ.below hq;replace hR:=hR.below hq;replace hX:=hX.below hq;clear hq hB0 hB1;go_wp2_with fail;refine (rof_any _ 1 (by omega) (by omega) false ⟨#[1]⟩ (by kernel_rfl)).mono ?_;rintro e W7 ⟨rfl,hq⟩;replace hb:=below_next hb hq;replace hC:=hC.below hq;replace hD:=hD.below hq;replace hQ:=hQ.below hq;replace hR:=hR.below hq;replace hX:=hX.below hq;clear hq;obtain ⟨hX0,hX1,hX2,hX3⟩:=hX.facts;have n1:W5.heap.size≠W1.heap.size:=by omega
 have n2:W1.heap.size≠W5.heap.size:=by omega
 obtain ⟨hQ0,hQ1⟩:=hQ.cells;go_wp2_with fail;clear hQ0 hQ1 n1 n2;clear hX0 hX1 hX2 hX3;replace hC:=(hC.fr (W5.heap.size) 0 (.bool false)).fr (W5.heap.size) 1 (.string ⟨#[1]⟩);replace hD:=(hD.fr (W5.heap.size) 0 (.bool false)).fr (W5.heap.size) 1 (.string ⟨#[1]⟩);replace hQ:=(hQ.fr (W5.heap.size) 0 (.bool false)).fr (W5.heap.size) 1 (.string ⟨#[1]⟩);replace hR:=(hR.fr (W5.heap.size) 0 (.bool false)).fr (W5.heap.size) 1 (.string ⟨#[1]⟩);replace hX:=hX.set_ (.bool false) (.string ⟨#[1]⟩);replace hb:=below_set2 hb (by omega:w.heap.size≤W5.heap.size) 0 1 (.bool false) (.string ⟨#[1]⟩);generalize ((W7.setCell { block:=W5.heap.size,off:=0 } (Value.bool false)).setCell { block:=W5.heap.size,off:=1 } (Value.string ⟨#[1]⟩))=V7 at *;clear hX;refine (rplus_any _ zq false oq ⟨#[1]⟩ (by omega) (by decide) z1 o1 HD.out.2.2.2.2.2.1).mono ?_;rintro e W8 ⟨rfl,hq⟩;replace hb:=below_next hb hq;replace hC:=hC.below hq;replace hD:=hD.below hq;replace hQ:=hQ.below hq;replace hR:=hR.below hq;clear hq;obtain ⟨hQ0,hQ1,hQ2,hQ3⟩:=hQ.facts;go_wp2_with fail;clear hQ0 hQ1 hQ2 hQ3;replace hC:=(hC.fr (W1.heap.size) 0 (.bool z1)).fr (W1.heap.size) 1 (.string o1);replace hD:=(hD.fr (W1.heap.size) 0 (.bool z1)).fr (W1.heap.size) 1 (.string o1);replace hR:=(hR.fr (W1.heap.size) 0 (.bool z1)).fr (W1.heap.size) 1 (.string o1);replace hQ:=hQ.set_ (.bool z1) (.string o1);replace hb:=below_set2 hb (by omega:w.heap.size≤W1.heap.size) 0 1 (.bool z1) (.string o1)
 generalize ((W8.setCell { block:=W1.heap.size,off:=0 } (Value.bool z1)).setCell { block:=W1.heap.size,off:=1 } (Value.string o1))=V8 at *;obtain ⟨hC0,hC1,hC2,hC3⟩:=hC.facts;obtain ⟨hD0,hD1,hD2,hD3⟩:=hD.facts;have hin:=And.intro hQ.drew.cells hR.drew.cells;clear HD
 go_region_held3 (fun w'=>(w'.cell? ⟨W1.heap.size,0,none⟩=some (.bool z1)∧w'.cell? ⟨W1.heap.size,1,none⟩=some (.string o1))∧(w'.cell? ⟨W2.heap.size,0,none⟩=some (.bool z2)∧w'.cell? ⟨W2.heap.size,1,none⟩=some (.string o2)))
  (first|exact hin|exact s2 (by assumption) (by omega))
  (first|fail)
 go_wp2;obtain ⟨k1,k2⟩:=two_set hC hD (by omega) (.bool z1) (.string o1) (.bool z2) (.string o2);exact ret_two rfl rfl rfl rfl k1.drew k2.drew ⟨rfl,(below_set4 hb (by omega) (by omega) _ _ _ _).drew⟩
theorem rdiv_next_false (w:World) (s t:ByteArray) (hs:s.size≤100000) (ht:t.size≤100000) (h0:num t≠0) (h1:num s % num t≠0) (z1:Bool) (o1:ByteArray) (hz1:wf (wv true s / wv false t)=wi z1 o1) (z2:Bool) (o2:ByteArray) (hz2:wf (wv true s % wv false t)=wi z2 o2) :
  Calls Tryz.prog 96 #[wi true s,wi false t] w (Ret (.tuple #[.agg #[.bool z1,.string o1],.agg #[.bool z2,.string o2],.bool true]) w):=by
 obtain ⟨e1,e2⟩:=sI_div_next false (num s) (num t) (by omega) h1;rw [wv_sI,wv_sI] at hz1 hz2;rw [e1] at hz1;rw [e2] at hz2;have hmod:=Nat.mod_lt (num s) (Nat.pos_of_ne_zero h0);obtain ⟨Q,hQ,nQ,sQ⟩:=nm (Nat.lt_of_le_of_lt (Nat.div_le_self (num s) (num t)) (num_lt s));obtain ⟨R,hR,nR,sR⟩:=nm (Nat.lt_trans hmod (num_lt t));have hd:=divV_some (A:=num s) h0;rw [hQ,hR] at hd;obtain ⟨zq,oq,eq,vq,sq⟩:=form_nmw true Q (k:=100000) (by omega);obtain ⟨zr,or,er,vr,sr⟩:=form_nmw true R (k:=100000) (by omega);have hx:sg (wv zr or)=-1:=by
  rw [vr,wv_true,nR]
  rcases sg_cases (-((num s % num t:Nat):Int)) with ⟨_,h⟩|⟨_,h⟩|⟨_,h⟩ <;> omega
 have f1:wf (wv zr or+wv false t)=wi z2 o2:=by
  rw [← hz2,vr,wv_true,wv_false,nR]
  congr 1
  omega
 have f2:wf (wv zq oq+-1)=wi z1 o1:=by
  rw [← hz1,vq,wv_sI,nQ];have h9:-((num s / num t:Nat):Int)+-1=-((num s / num t+1:Nat):Int):=by omega
  exact congrArg wf h9
 have hy:sg (wv false t)=1:=by
  have hp:0<num t:=Nat.pos_of_ne_zero h0;show sg (((num t:Nat):Int))=_
  rcases sg_cases ((num t:Nat):Int) with ⟨_,h⟩|⟨_,h⟩|⟨_,h⟩ <;> omega
 have HD:=Lib.hid (And.intro hd (And.intro eq (And.intro er (And.intro hx (And.intro f1 (And.intro f2 hy))))));clear hd eq er hx f1 f2 hy hz1 hz2 e1 e2 hQ hR nQ nR vq vr h1 hmod;unfold wi;go_enter Tryz.func96,Tryz.ntmps96;go_wp2_with fail;obtain ⟨hA,hB,hC,hD,hb⟩:=blocks4 w #[.bool true,.string s] #[.bool false,.string t] #[.bool false,.string ⟨#[]⟩] #[.bool false,.string ⟨#[]⟩];generalize ((((w.alloc (.cells #[.bool true,.string s] 24)).alloc (.cells #[.bool false,.string t] 24)).alloc (.cells #[.bool false,.string ⟨#[]⟩] 24)).alloc (.cells #[.bool false,.string ⟨#[]⟩] 24))=W0 at *;refine (ref_div _ s t (by omega) (by omega)).mono ?_;rw [HD.out.1];rintro e W ⟨rfl,hq⟩;replace hb:=below_next hb hq;replace hA:=hA.below hq;replace hB:=hB.below hq;replace hC:=hC.below hq;replace hD:=hD.below hq;clear hq;obtain ⟨hA0,hA1⟩:=hA.cells;obtain ⟨hB0,hB1⟩:=hB.cells;go_wp2_with fail;refine (rform_any _ true Q (by omega) zq oq HD.out.2.1).mono ?_;rintro e W1 ⟨rfl,hq⟩;replace hb:=below_next hb hq;replace hA:=hA.below hq;replace hB:=hB.below hq;replace hC:=hC.below hq;replace hD:=hD.below hq;clear hq hA0 hA1 hB0 hB1;have l1:=hC.lt;have l2:=hD.lt;have hQ:=Bk.new W1 #[.bool zq,.string oq];replace hb:=hb.alloc hb.size (.cells #[.bool zq,.string oq] 24);replace hA:=hA.alloc (.cells #[.bool zq,.string oq] 24);replace hB:=hB.alloc (.cells #[.bool zq,.string oq] 24);replace hC:=hC.alloc (.cells #[.bool zq,.string oq] 24);replace hD:=hD.alloc (.cells #[.bool zq,.string oq] 24)
 obtain ⟨hA0,hA1⟩:=hA.cells;obtain ⟨hB0,hB1⟩:=hB.cells;go_wp2_with fail;generalize (W1.alloc (.cells #[.bool zq,.string oq] 24))=V1 at *;refine (rform_any _ true R (by omega) zr or HD.out.2.2.1).mono ?_;rintro e W2 ⟨rfl,hq⟩;replace hb:=below_next hb hq;replace hA:=hA.below hq;replace hB:=hB.below hq;replace hC:=hC.below hq;replace hD:=hD.below hq;replace hQ:=hQ.below hq;clear hq hA0 hA1 hB0 hB1;have l3:=hC.lt;have l4:=hD.lt;have l5:=hQ.lt;have l6:=hB.lt;have hR:=Bk.new W2 #[.bool zr,.string or];replace hb:=hb.alloc hb.size (.cells #[.bool zr,.string or] 24);replace hA:=hA.alloc (.cells #[.bool zr,.string or] 24);replace hB:=hB.alloc (.cells #[.bool zr,.string or] 24);replace hC:=hC.alloc (.cells #[.bool zr,.string or] 24);replace hD:=hD.alloc (.cells #[.bool zr,.string or] 24);replace hQ:=hQ.alloc (.cells #[.bool zr,.string or] 24);obtain ⟨hA0,hA1⟩:=hA.cells;obtain ⟨hB0,hB1⟩:=hB.cells;obtain ⟨hQ0,hQ1⟩:=hQ.cells;go_wp2_with fail;generalize (W2.alloc (.cells #[.bool zr,.string or] 24))=V2 at *;refine (rsign_any _ zr or (by omega) (-1) HD.out.2.2.2.1).mono ?_;rintro e W3 ⟨rfl,hq⟩;replace hb:=below_next hb hq;replace hB:=hB.below hq;replace hC:=hC.below hq;replace hD:=hD.below hq;replace hQ:=hQ.below hq;replace hR:=hR.below hq;clear hq hA0 hA1 hB0 hB1 hQ0 hQ1;have l7:=hR.lt;obtain ⟨hB0,hB1⟩:=hB.cells;obtain ⟨hR0,hR1⟩:=hR.cells;go_wp2_with fail;refine (rplus_any _ zr false or t (by omega) (by omega) z2 o2 HD.out.2.2.2.2.1).mono ?_;rintro e W4 ⟨rfl,hq⟩;replace hb:=below_next hb hq
 replace hB:=hB.below hq;replace hC:=hC.below hq;replace hD:=hD.below hq;replace hQ:=hQ.below hq;replace hR:=hR.below hq;clear hq hB0 hB1 hR0 hR1;obtain ⟨hR0,hR1,hR2,hR3⟩:=hR.facts;go_wp2_with fail;clear hR0 hR1 hR2 hR3;replace hB:=(hB.fr (W2.heap.size) 0 (.bool z2)).fr (W2.heap.size) 1 (.string o2);replace hC:=(hC.fr (W2.heap.size) 0 (.bool z2)).fr (W2.heap.size) 1 (.string o2);replace hD:=(hD.fr (W2.heap.size) 0 (.bool z2)).fr (W2.heap.size) 1 (.string o2);replace hQ:=(hQ.fr (W2.heap.size) 0 (.bool z2)).fr (W2.heap.size) 1 (.string o2);replace hR:=hR.set_ (.bool z2) (.string o2);replace hb:=below_set2 hb (by omega:w.heap.size≤W2.heap.size) 0 1 (.bool z2) (.string o2);generalize ((W4.setCell { block:=W2.heap.size,off:=0 } (Value.bool z2)).setCell { block:=W2.heap.size,off:=1 } (Value.string o2))=V4 at *;refine (rof_any _ (-1) (by omega) (by omega) true ⟨#[1]⟩ (by kernel_rfl)).mono ?_;rintro e W5 ⟨rfl,hq⟩;replace hb:=below_next hb hq;replace hB:=hB.below hq;replace hC:=hC.below hq;replace hD:=hD.below hq;replace hQ:=hQ.below hq;replace hR:=hR.below hq;clear hq;have m1:=hC.lt;have m2:=hD.lt;have m3:=hQ.lt;have m4:=hR.lt;have hX:=Bk.new W5 #[.bool true,.string ⟨#[1]⟩];replace hb:=hb.alloc hb.size (.cells #[.bool true,.string ⟨#[1]⟩] 24);replace hB:=hB.alloc (.cells #[.bool true,.string ⟨#[1]⟩] 24);replace hC:=hC.alloc (.cells #[.bool true,.string ⟨#[1]⟩] 24);replace hD:=hD.alloc (.cells #[.bool true,.string ⟨#[1]⟩] 24)
 replace hQ:=hQ.alloc (.cells #[.bool true,.string ⟨#[1]⟩] 24);replace hR:=hR.alloc (.cells #[.bool true,.string ⟨#[1]⟩] 24);obtain ⟨hB0,hB1⟩:=hB.cells;go_wp2_with fail;generalize (W5.alloc (.cells #[.bool true,.string ⟨#[1]⟩] 24))=V5 at *;refine (rsign_any _ false t (by omega) (1) HD.out.2.2.2.2.2.2).mono ?_;rintro e W6 ⟨rfl,hq⟩;replace hb:=below_next hb hq;replace hC:=hC.below hq;replace hD:=hD.below hq;replace hQ:=hQ.below hq;replace hR:=hR.below hq;replace hX:=hX.below hq;clear hq hB0 hB1;obtain ⟨hQ0,hQ1⟩:=hQ.cells;obtain ⟨hX0,hX1⟩:=hX.cells;go_wp2_with fail;clear hQ0 hQ1 hX0 hX1 hX;refine (rplus_any _ zq true oq ⟨#[1]⟩ (by omega) (by decide) z1 o1 HD.out.2.2.2.2.2.1).mono ?_;rintro e W8 ⟨rfl,hq⟩;replace hb:=below_next hb hq;replace hC:=hC.below hq;replace hD:=hD.below hq;replace hQ:=hQ.below hq;replace hR:=hR.below hq;clear hq;obtain ⟨hQ0,hQ1,hQ2,hQ3⟩:=hQ.facts;go_wp2_with fail;clear hQ0 hQ1 hQ2 hQ3;replace hC:=(hC.fr (W1.heap.size) 0 (.bool z1)).fr (W1.heap.size) 1 (.string o1);replace hD:=(hD.fr (W1.heap.size) 0 (.bool z1)).fr (W1.heap.size) 1 (.string o1);replace hR:=(hR.fr (W1.heap.size) 0 (.bool z1)).fr (W1.heap.size) 1 (.string o1);replace hQ:=hQ.set_ (.bool z1) (.string o1);replace hb:=below_set2 hb (by omega:w.heap.size≤W1.heap.size) 0 1 (.bool z1) (.string o1);generalize ((W8.setCell { block:=W1.heap.size,off:=0 } (Value.bool z1)).setCell { block:=W1.heap.size,off:=1 } (Value.string o1))=V8 at *;obtain ⟨hC0,hC1,hC2,hC3⟩:=hC.facts
 obtain ⟨hD0,hD1,hD2,hD3⟩:=hD.facts;have hin:=And.intro hQ.drew.cells hR.drew.cells;clear HD
 go_region_held3 (fun w'=>(w'.cell? ⟨W1.heap.size,0,none⟩=some (.bool z1)∧w'.cell? ⟨W1.heap.size,1,none⟩=some (.string o1))∧(w'.cell? ⟨W2.heap.size,0,none⟩=some (.bool z2)∧w'.cell? ⟨W2.heap.size,1,none⟩=some (.string o2)))
  (first|exact hin|exact s2 (by assumption) (by omega))
  (first|fail)
 go_wp2;obtain ⟨k1,k2⟩:=two_set hC hD (by omega) (.bool z1) (.string o1) (.bool z2) (.string o2);exact ret_two rfl rfl rfl rfl k1.drew k2.drew ⟨rfl,(below_set4 hb (by omega) (by omega) _ _ _ _).drew⟩
theorem rdiv_any (w:World) (m n:Bool) (s t:ByteArray) (hs:s.size≤100000) (ht:t.size≤100000) (h0:wv n t≠0)
  (z1:Bool) (o1:ByteArray) (hz1:wf (wv m s / wv n t)=wi z1 o1) (z2:Bool) (o2:ByteArray) (hz2:wf (wv m s % wv n t)=wi z2 o2) :
  Calls Tryz.prog 96 #[wi m s,wi n t] w (Ret (.tuple #[.agg #[.bool z1,.string o1],.agg #[.bool z2,.string o2],.bool true]) w):=by
 have h0' : num t≠0:=fun h=>h0 ((wv_sI n t).trans (sI_zero_iff.2 h))
 by_cases h:m=true→num s % num t=0
 ·exact rdiv_plain w m n s t hs ht h0' h z1 o1 hz1 z2 o2 hz2
 ·cases m
  ·exact absurd (fun h=>by cases h) h
  ·cases n
   ·exact rdiv_next_false w s t hs ht h0' (fun h'=>h fun _=>h') z1 o1 hz1 z2 o2 hz2
   ·exact rdiv_next_true w s t hs ht h0' (fun h'=>h fun _=>h') z1 o1 hz1 z2 o2 hz2
theorem use_rshl (w:World) (s:ByteArray) (k:Int) (r:ByteArray) (hs:s.size≤1000000) (hk:k≤10000000) (hr:fb (shlN (num s) k)=r):Calls Tryz.prog 146 #[.string s,.int .i64 k] w (Ret (.string r) w):=hr▸ref_shl w s k hs hk
theorem rshift_up (w:World) (n:Bool) (s:ByteArray) (k:Int) (hs:s.size≤10000) (hk0:0≤k) (hk:k≤100000) (z:Bool) (o:ByteArray) (hz:wf (shiftI (wv n s) k)=wi z o) :
  Calls Tryz.prog 120 #[wi n s,.int .i64 k] w (Ret (.agg #[.bool z,.string o]) w):=by
 obtain ⟨r,hr⟩:∃ r,fb (shlN (num s) k)=r:=⟨_,rfl⟩;have hz2:wf (wv n r)=wi z o:=by
  rw [← hr,sI_fb,← hz]
  congr 1
  unfold shiftI shlN;rw [if_pos hk0,if_neg (by omega),wv_sI];unfold sI
  cases n
  ·simp
  ·simp [Int.neg_mul]
 have hrs:r.size≤1000000:=by
  rw [← hr];have h1:shlN (num s) k<256 ^ (s.size+k.toNat):=by
   unfold shlN;rw [if_neg (by omega),Nat.pow_add];exact Nat.mul_lt_mul_of_lt_of_le (num_lt s) (Nat.pow_le_pow_left (by omega) _) (Nat.pow_pos (by omega))
  have:=fb_size_le h1
  omega
 have HZ:=Lib.hid (And.intro hr hz2);clear hr hz hz2;unfold wi;go_enter Tryz.func120,Tryz.ntmps120;go_wp2_with fail;obtain ⟨hA,hC,hb⟩:=blocks2 w #[.bool n,.string s] #[.bool false,.string ⟨#[]⟩];generalize ((w.alloc (.cells #[.bool n,.string s] 24)).alloc (.cells #[.bool false,.string ⟨#[]⟩] 24))=W0 at *;replace hA:=hA.drew;replace hC:=hC.drew;replace hb:=hb.drew;have hin:=hA.cells;clear hA
 go_region_held3 (fun w'=>(w'.cell? ⟨w.heap.size,0,none⟩=some (.bool n)∧w'.cell? ⟨w.heap.size,1,none⟩=some (.string s)))
  (first|assumption|exact h1 hq (by assumption)|exact h1 hq (a1 (by assumption))|exact a1 (by assumption)|exact s1 (by assumption) (by omega))
  (first
    | (go_at_call 146;go_fit (use_rshl _ s k r (by omega) (by omega) HZ.out.1);rintro e V ⟨rfl,hq⟩;replace hb:=below_next hb hq;replace hC:=hC.below hq)
    | (go_at_call 95;go_fit (rform_any _ n r (by omega) z o HZ.out.2);rintro e V ⟨rfl,hq⟩;replace hb:=below_next hb hq;replace hC:=hC.below hq;obtain ⟨hC0,hC1,hC2,hC3⟩:=hC.facts))
 go_wp2;exact ret_whole rfl rfl (hC.set_ _ _) ⟨rfl,below_set2 hb (by omega) _ _ _ _⟩
end Go.Proofs.YtemedphcafgolaaGreatDoor
