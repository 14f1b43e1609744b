/- The document's answer for decimal texts: Print, walked. -/
import Derived.Test.YtiddgplapodleaaGreatDoorDRef1
import Derived.Test.YtiddgplapodleaaGreatDoorDMem
namespace Go.Proofs.YtiddgplapodleaaGreatDoor
set_option maxRecDepth 100000
set_option maxHeartbeats 1600000
open Go.RowKit Go.Shelf Go.Lib
theorem itoa_wv (n:Bool) (s:ByteArray):itoa (wv n s)=if wv n s<0 then 45::decDigits (num s) else decDigits (num s):=by
 unfold itoa
 by_cases h:wv n s<0
 ·rw [if_pos h,if_pos h,wv_abs]
 ·rw [if_neg h,if_neg h];have h2:=wv_abs n s;rw [show (wv n s).toNat=num s by omega]
theorem dec_size (s:ByteArray):(⟨(decDigits (num s)).toArray⟩:ByteArray).size≤3*s.size+1:=by
 show (decDigits (num s)).toArray.size≤_;rw [List.size_toArray,decDigits_length];exact nDigits_num s
theorem rprint_any (w:World) (n:Bool) (s:ByteArray) (hs:s.size≤100000) (o:ByteArray) (ho:⟨(itoa (wv n s)).toArray⟩=o) :
  Calls Tryz.prog 27 #[wi n s] w (Ret (.string o) w):=by
 obtain ⟨c,hc⟩:∃ c,sg (wv n s)=c:=⟨_,rfl⟩;obtain ⟨t,ht⟩:∃ t,(⟨(decDigits (num s)).toArray⟩:ByteArray)=t:=⟨_,rfl⟩;have hts:t.size≤300001:=by rw [← ht];exact Nat.le_trans (dec_size s) (by omega)
 have htl:¬ (9223372036854775807<1+t.size):=by omega
 have hoc:(c<0→(⟨#[45]⟩:ByteArray)++t=o)∧(¬ c<0→t=o):=by
  rw [itoa_wv] at ho;have hsc:c<0↔wv n s<0:=by
   rw [← hc]
   rcases sg_cases (wv n s) with ⟨h1,h2⟩|⟨h1,h2⟩|⟨h1,h2⟩ <;> omega
  refine ⟨fun h=>?_,fun h=>?_⟩
  ·rw [if_pos (hsc.1 h)] at ho;rw [← ho,← ht];refine ba_ext ?_;rw [app_one]
  ·rw [if_neg (fun h2=>h (hsc.2 h2))] at ho;rw [← ho,← ht]
 have HO:=Lib.hid (And.intro hc (And.intro ht hoc));clear hc ht ho hoc;unfold wi;go_enter Tryz.func27,Tryz.ntmps27;go_wp2_with fail;obtain ⟨hA,hb⟩:=blocks1 w #[.bool n,.string s];generalize (w.alloc (.cells #[.bool n,.string s] 26))=W0 at *;refine (rsign_any _ n s (by omega) c HO.out.1).mono ?_;rintro e W1 ⟨rfl,hq⟩;replace hb:=below_next hb hq;replace hA:=hA.below hq;obtain ⟨hA0,hA1⟩:=hA.cells;clear hq
 by_cases h0:c<0
 ·have hfin:=HO.out.2.2.1 (by omega);have HF:=Lib.hid hfin;clear hfin;have hd:decide (c<0)=true:=decide_eq_true h0;go_wp2_with fail;refine (rfigures_any _ s hs t HO.out.2.1).mono ?_;rintro e W2 ⟨rfl,hq⟩;replace hb:=below_next hb hq;clear hA0 hA1 hA hq;go_wp2;go_ret;exact ⟨by rw [← HF.out];rfl,hb⟩
 ·have hfin:=HO.out.2.2.2 (by omega);have hd:decide (c<0)=false:=decide_eq_false h0;subst hfin;go_wp2_with fail;refine (rfigures_any _ s hs t HO.out.2.1).mono ?_;rintro e W2 ⟨rfl,hq⟩;replace hb:=below_next hb hq;clear hA0 hA1 hA hq;go_wp2;go_ret;exact ⟨rfl,hb⟩
end Go.Proofs.YtiddgplapodleaaGreatDoor
