/- Package whole: Small, walked. -/
import Derived.Test.YtiddgplapodleaaGreatDoorHW
namespace Go.Proofs.YtiddgplapodleaaGreatDoor
set_option maxRecDepth 100000
set_option maxHeartbeats 400000
open Go.RowKit Go.Shelf
def isSmall (z:Int):Bool:=decide (-9223372036854775808≤z∧z≤9223372036854775807)
def smallI (z:Int):Int:=if -9223372036854775808≤z∧z≤9223372036854775807 then z else 0
theorem small_not {z:Int} (h:¬ (-9223372036854775808≤z∧z≤9223372036854775807)):smallI z=0∧isSmall z=false:=by
 unfold smallI isSmall;exact ⟨if_neg h,decide_eq_false h⟩
theorem small_is {z:Int} (h:-9223372036854775808≤z∧z≤9223372036854775807):smallI z=z∧isSmall z=true:=by
 unfold smallI isSmall;exact ⟨if_pos h,decide_eq_true h⟩
theorem numL_take_le (l:List UInt8) (k:Nat):numL (l.take k)≤numL l:=by
 have h:=numL_append (l.take k) (l.drop k);rw [List.take_append_drop] at h;have h1:1≤256 ^ (l.drop k).length:=Nat.pos_of_ne_zero (by simp);have h2:numL (l.take k)*1≤numL (l.take k)*256 ^ (l.drop k).length:=Nat.mul_le_mul_left _ h1;omega
def intS:Value→Nat | .int _ n=>n.toNat|_=>0
def SM (w wr:World) (n:Bool) (s:ByteArray):Prop:=Bk wr w.heap.size #[.bool n,.string s]∧Below w.heap.size w wr
theorem wsmall_any (w:World) (n:Bool) (s:ByteArray) (hs:s.size≤1000000) (x:Int) (ok:Bool) (hx:smallI (wv n s)=x) (ho:isSmall (wv n s)=ok) :
  Calls Tryz.prog 34 #[wi n s] w (Ret (.tuple #[.int .i64 x,.bool ok]) w):=by
 subst hx;subst ho;unfold wi;go_enter Tryz.func34,Tryz.ntmps34;go_wp2_with fail;obtain ⟨hA,hb⟩:=blocks1 w #[.bool n,.string s];generalize (w.alloc (.cells #[.bool n,.string s] 26))=W0 at *;refine (use_len _ s _ (by omega) rfl).mono ?_;rintro e W1 ⟨rfl,hq⟩;replace hb:=below_next hb hq;replace hA:=hA.below hq;obtain ⟨hA0,hA1⟩:=hA.cells;clear hq
 by_cases hgt:64<bl (num s)
 ·have h1:0<num s:=by
   rcases Nat.eq_zero_or_pos (num s) with h|h
   ·rw [h,bl_zero] at hgt;omega
   ·exact h
  have h2:=(bl_bounds h1).2.1;have h3:2 ^ 64≤2 ^ (bl (num s)-1):=Nat.pow_le_pow_right (by omega) (by omega);have h4:¬ (-9223372036854775808≤wv n s∧wv n s≤9223372036854775807):=by
   have:=wv_abs n s
   omega
  obtain ⟨e1,e2⟩:=small_not h4;have HE:=Lib.hid (And.intro e1 e2);clear h1 h2 h3 h4 e1 e2;go_wp2;go_ret2;exact ⟨by rw [HE.out.1,HE.out.2];rfl,hb⟩
 ·have hlt64:num s<18446744073709551616:=by
   rcases Nat.eq_zero_or_pos (num s) with h|h
   ·omega
   ·have h2:=(bl_bounds h).2.2;have h3:2 ^ bl (num s)≤2 ^ 64:=Nat.pow_le_pow_right (by omega) (by omega);omega
  have hS0:SM w W1 n s:=⟨hA,hb⟩;clear hA hb;go_wp2_with fail
  go_loopw [4,13] (fun sz i wr=>∃ k top:Nat,k≤s.size∧i=.int .i64 k∧sz=.int .u64 top∧top=numL (s.data.toList.take k)∧SM w wr n s)
   (fun _ i _=>s.size-intS i)
  case atStart=>exact ⟨0,0,Nat.zero_le _,rfl,rfl,rfl,hS0⟩
  case round =>
   clear hS0;obtain ⟨k,top,hk,rfl,rfl,ht,hA,hb⟩:=hrel;obtain ⟨hA0,hA1,_,_⟩:=hA.facts
   by_cases hks:k<s.size
   ·have hs1:=numL_take_succ s.data.toList k hks;have hs2:=numL_take_le s.data.toList (k+1);have hs3:numL s.data.toList=num s:=rfl;rw [← ht] at hs1;have ol:=or_low top (s[k]'hks) (by omega);have hT:top*256+(s[k]'hks).toNat=numL (s.data.toList.take (k+1)):=hs1.symm;have HT:=Lib.hid hT;have bk:=wrap_byte (s[k]'hks);clear hs1 hs2 hs3 hT ht hlt64;go_wp2;go_roundw
    case rel=>exact ⟨k+1,_,by omega,by simp,rfl,HT.out,hA,hb⟩
    case measure=>simp [intS];omega
   ·have htop:top=num s:=by
     rw [ht,List.take_of_length_le (by show s.data.size≤k;exact Nat.le_of_not_lt hks)];rfl
    subst htop;clear ht
    cases n
    ·by_cases h63:num s≤9223372036854775807
     ·obtain ⟨e1,e2⟩:=small_is (z:=wv false s) (by rw [wv_false];omega);have HE:=Lib.hid (And.intro e1 e2);clear e1 e2;go_wp2;go_ret2;exact ⟨by rw [HE.out.1,HE.out.2];rfl,hb⟩
     ·obtain ⟨e1,e2⟩:=small_not (z:=wv false s) (by rw [wv_false];omega);have HE:=Lib.hid (And.intro e1 e2);clear e1 e2;go_wp2;go_ret2;exact ⟨by rw [HE.out.1,HE.out.2];rfl,hb⟩
    ·by_cases h63:num s≤9223372036854775808
     ·obtain ⟨e1,e2⟩:=small_is (z:=wv true s) (by rw [wv_true];omega);have e3:wrap64 (IntKind.u64.wrap (-(num s:Int)))=-(num s:Int):=by rw [IntKind.wrap_u64];unfold wrap64;omega
      have HE:=Lib.hid (And.intro e1 e2);have HW:=Lib.hid e3;clear e3;clear e1 e2;go_wp2;go_ret2;refine ⟨?_,hb⟩;rw [HE.out.1,HE.out.2,wv_true,HW.out];rfl
     ·obtain ⟨e1,e2⟩:=small_not (z:=wv true s) (by rw [wv_true];omega);have HE:=Lib.hid (And.intro e1 e2);clear e1 e2;go_wp2;go_ret2;exact ⟨by rw [HE.out.1,HE.out.2];rfl,hb⟩
end Go.Proofs.YtiddgplapodleaaGreatDoor
