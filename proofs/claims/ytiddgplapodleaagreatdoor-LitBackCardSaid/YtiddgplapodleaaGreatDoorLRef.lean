/- The document's answer for texts of numbers: Print; walked. -/
import Derived.Test.YtiddgplapodleaaGreatDoorHJ
import Derived.Test.YtiddgplapodleaaGreatDoorDRef2
import Derived.Test.YtiddgplapodleaaGreatDoorHQ
namespace Go.Proofs.YtiddgplapodleaaGreatDoor
set_option maxRecDepth 100000
set_option maxHeartbeats 1600000
open Go.RowKit Go.Shelf Go.Lib
theorem str_app (a b:List UInt8):(⟨a.toArray⟩:ByteArray)++⟨b.toArray⟩=⟨(a++b).toArray⟩:=by
 rw [ByteArray.ext_iff];simp
theorem numT_zero (z:Int):numT z 0=itoa z:=by
 unfold numT;simp
theorem numT_some {z e:Int} (h:e≠0):(⟨(itoa z).toArray⟩:ByteArray)++⟨#[112]⟩++⟨(itoa e).toArray⟩=⟨(numT z e).toArray⟩:=by
 unfold numT;rw [if_neg h,show (⟨#[112]⟩:ByteArray)=⟨([112]:List UInt8).toArray⟩ from rfl,str_app,str_app,List.append_assoc];rfl
theorem itoa_size (n:Bool) (s:ByteArray) {t:ByteArray} (h:⟨(itoa (wv n s)).toArray⟩=t):t.size≤3*s.size+2:=by
 have hd:(decDigits (num s)).length≤3*s.size+1:=dec_size s;rw [← h,itoa_wv];show (List.toArray _).size≤_;rw [List.size_toArray]
 split
 ·rw [List.length_cons];omega
 ·omega
theorem rlprint_any (w:World) (m:Bool) (s:ByteArray) (e:Int) (hs:s.size≤1000) (he:-100000≤e∧e≤100000) (z:Bool) (o:ByteArray) (x:Int) (hd:df (nv m s e)=nu z o x) (t:ByteArray) (ht:⟨(numT (wv z o) x).toArray⟩=t) :
  Calls Tryz.prog 9 #[.agg #[.bool m,.string s,.int .i64 e]] w (Ret (.string t) w):=by
 have hx:=df_exp hd hs;obtain ⟨t1,h1⟩:∃ t1,(⟨(itoa (wv z o)).toArray⟩:ByteArray)=t1:=⟨_,rfl⟩;have hl1:=itoa_size z o h1;have hl2:(t1++(⟨#[112]⟩:ByteArray)).size=t1.size+1:=by rw [ByteArray.size_append];rfl
 have HC:=Lib.hid (And.intro hd (And.intro h1 ht));clear hd h1 ht;go_enter Tryz.func9,Tryz.ntmps9;go_wp2_with fail;have hA:=Nk.new w m s e;have hb:=(Below.refl w.heap.size w).alloc (Nat.le_refl _) (.cells #[.bool m,.string s,.int .i64 e] 28);generalize (w.alloc (.cells #[.bool m,.string s,.int .i64 e] 28))=W0 at *;refine (ryform_any _ m s e (by omega) (by omega) z o x HC.out.1).mono ?_;rintro e' W ⟨rfl,hq⟩;replace hb:=below_next hb hq;clear hq;clear hA;have hX:=Nk.new W z o x;replace hb:=hb.alloc hb.size (.cells #[.bool z,.string o,.int .i64 x] 28);obtain ⟨hX0,hX1,hX2⟩:=hX.cells;go_wp2_with fail;generalize W.alloc (.cells #[.bool z,.string o,.int .i64 x] 28)=W1 at *;generalize W.heap.size=PX at *;clear hX0 hX1 hX2;refine (rprint_any _ z o (by omega) t1 HC.out.2.1).mono ?_;rintro e' W2 ⟨rfl,hq⟩;replace hb:=below_next hb hq;replace hX:=hX.below hq;clear hq;obtain ⟨hX0,hX1,hX2⟩:=hX.cells
 by_cases h0:x=0
 ·have d0:(x != 0)=false:=by rw [h0];rfl
  have e1:t1=t:=by rw [← HC.out.2.1,← HC.out.2.2,h0,numT_zero]
  subst e1;clear h0;go_wp2;go_ret;exact ⟨rfl,hb⟩
 ·have d0:(x != 0)=true:=by rw [bne_iff_ne];exact h0
  obtain ⟨zx,ox,kx,kv,ks⟩:=nmw (show x.natAbs<256 ^ 4 by omega);obtain ⟨t2,h2⟩:∃ t2,(⟨(itoa (wv zx ox)).toArray⟩:ByteArray)=t2:=⟨_,rfl⟩;have hl3:=itoa_size zx ox h2;have e1:t1++⟨#[112]⟩++t2=t:=by rw [← HC.out.2.1,← h2,kv,numT_some h0,← HC.out.2.2]
  have HE:=Lib.hid (And.intro e1 (And.intro kx h2));clear e1 kx h2 h0 kv;go_wp2_with fail;refine (rof_any _ x (by omega) (by omega) zx ox HE.out.2.1).mono ?_;rintro e' W3 ⟨rfl,hq⟩;replace hb:=below_next hb hq;clear hq hX0 hX1 hX2 hX;go_wp2_with fail;refine (rprint_any _ zx ox (by omega) t2 HE.out.2.2).mono ?_;rintro e' W4 ⟨rfl,hq⟩;replace hb:=below_next hb hq;clear hq;have e1:=HE.out.1;go_wp2;subst e1;go_ret;exact ⟨rfl,hb⟩
end Go.Proofs.YtiddgplapodleaaGreatDoor
