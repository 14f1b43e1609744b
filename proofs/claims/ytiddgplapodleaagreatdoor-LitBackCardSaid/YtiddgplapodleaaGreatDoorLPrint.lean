/- Package lit: Print, walked. -/
import Derived.Test.YtiddgplapodleaaGreatDoorLRef
import Derived.Test.YtiddgplapodleaaGreatDoorG6
namespace Go.Proofs.YtiddgplapodleaaGreatDoor
set_option maxRecDepth 100000
set_option maxHeartbeats 1600000
open Go.RowKit Go.Shelf Go.Lib
theorem lprint_any (w:World) (htab:TabIs Tryz.prog w "internal/strconv.uint64pow10" .u64 pow10Tab) (m:Bool) (s:ByteArray) (e:Int) (hs:s.size≤100) (he:-100000≤e∧e≤100000) (z:Bool) (o:ByteArray) (x:Int) (hd:df (nv m s e)=nu z o x) (t:ByteArray) (ht:⟨(numT (wv z o) x).toArray⟩=t) :
  Calls Tryz.prog 8 #[.agg #[.bool m,.string s,.int .i64 e]] w (Ret (.string t) w):=by
 have hx:=df_exp hd hs;obtain ⟨t1,h1⟩:∃ t1,(⟨(itoa (wv z o)).toArray⟩:ByteArray)=t1:=⟨_,rfl⟩;have hl1:=itoa_size z o h1;have hl2:(t1++(⟨#[112]⟩:ByteArray)).size=t1.size+1:=by rw [ByteArray.size_append];rfl
 have HC:=Lib.hid (And.intro hd (And.intro h1 ht));clear hd h1 ht;go_enter Tryz.func8,Tryz.ntmps8;go_wp2_with fail;have hA:=Nk.new w m s e;have hb:=(Below.refl w.heap.size w).alloc (Nat.le_refl _) (.cells #[.bool m,.string s,.int .i64 e] 28);generalize (w.alloc (.cells #[.bool m,.string s,.int .i64 e] 28))=W0 at *;refine (yform_any _ m s e (by omega) (by omega) z o x HC.out.1).mono ?_;rintro e' W ⟨rfl,hq⟩;replace hb:=below_next hb hq;replace hA:=hA.below hq;clear hq;obtain ⟨hA0,hA1,hA2,hA3,hA4,hA5⟩:=hA.facts;go_wp2_with fail;replace hA:=hA.set3 z o x;replace hb:=below_set3 hb (Nat.le_refl _) 0 1 2 (.bool z) (.string o) (.int .i64 x);clear hA0 hA1 hA2 hA3 hA4 hA5;generalize ((W.setCell ⟨w.heap.size,0,none⟩ (.bool z)).setCell ⟨w.heap.size,1,none⟩ (.string o)).setCell ⟨w.heap.size,2,none⟩ (.int .i64 x)=W1 at *;refine (print_any _ (tab_below htab hb) z o (by omega) t1 HC.out.2.1).mono ?_;rintro e' W2 ⟨rfl,hq⟩;replace hb:=below_next hb hq;replace hA:=hA.below hq;clear hq;obtain ⟨hA0,hA1,hA2⟩:=hA.cells
 by_cases h0:x=0
 ·have d0:decide (x=0)=true:=decide_eq_true h0;have d1:(x == 0)=true:=by rw [beq_iff_eq];exact h0
  have e1:t1=t:=by rw [← HC.out.2.1,← HC.out.2.2,h0,numT_zero]
  subst e1;clear h0;go_wp2;go_ret;exact ⟨rfl,hb⟩
 ·have d0:decide (x=0)=false:=decide_eq_false h0;have d1:(x == 0)=false:=by rw [beq_eq_false_iff_ne];exact h0
  obtain ⟨zx,ox,kx,kv,ks⟩:=nmw (show x.natAbs<256 ^ 4 by omega);obtain ⟨t2,h2⟩:∃ t2,(⟨(itoa (wv zx ox)).toArray⟩:ByteArray)=t2:=⟨_,rfl⟩;have hl3:=itoa_size zx ox h2;have e1:t1++⟨#[112]⟩++t2=t:=by rw [← HC.out.2.1,← h2,kv,numT_some h0,← HC.out.2.2]
  have HE:=Lib.hid (And.intro e1 (And.intro kx h2));clear e1 kx h2 h0 kv;go_wp2_with fail;refine (wof_any _ x (by omega) (by omega) zx ox HE.out.2.1).mono ?_;rintro e' W3 ⟨rfl,hq⟩;replace hb:=below_next hb hq;clear hq hA0 hA1 hA2 hA;go_wp2_with fail;refine (print_any _ (tab_below htab hb) zx ox (by omega) t2 HE.out.2.2).mono ?_;rintro e' W4 ⟨rfl,hq⟩;replace hb:=below_next hb hq;clear hq;have e1:=HE.out.1;go_wp2;go_ret;exact ⟨rfl,hb⟩
end Go.Proofs.YtiddgplapodleaaGreatDoor
