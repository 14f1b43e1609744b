/- The law of powers (layer 6): it answers true for all. -/
import Derived.Test.YtiddgplapodleaaGreatDoorHZ
namespace Go.Proofs.YtiddgplapodleaaGreatDoor
set_option maxRecDepth 100000
set_option maxHeartbeats 8000000
open Go.RowKit Go.Shelf Go.Lib
theorem field_num (W:World) (m:Bool) (s:ByteArray) (e:Int):Sem.run Tryz.prog (Instr.field 28 (.agg #[.bool m,.string s,.int .i64 e]) 0) W=.ok (.agg #[.bool m,.string s]) W:=by kernel_rfl
theorem lpowers_law (w:World) (htab:Lib.TabIs Tryz.prog w "internal/strconv.uint64pow10" .u64 Lib.pow10Tab) (m:Bool) (s:ByteArray) (n:Int) (hn:(Lit.int .i64 n).wf=true) :
  Calls Tryz.prog 5 #[wi m s,.int .i64 n] w (Ret (.bool true) w):=by
 have hn1:-9223372036854775808≤n∧n≤9223372036854775807:=by
  simp [Lit.wf,IntKind.min,IntKind.max,IntKind.signed,IntKind.bits] at hn;omega
 clear hn;obtain ⟨k,hk⟩:∃ k,n.tmod 300=k:=⟨_,rfl⟩;have hkb:-300<k∧k<300:=by
  rw [← hk];have h1:=Int.tmod_lt_of_pos n (b:=300) (by omega);have h2:=Int.tmod_lt_of_pos (-n) (b:=300) (by omega);rw [Int.neg_tmod] at h2;omega
 obtain ⟨j,hj⟩:∃ j:Nat,max k (-k)=(j:Int):=⟨k.natAbs,by omega⟩;have hjb:j<300:=by omega
 have hb:=Below.refl w.heap.size w;unfold wi;go_enter Tryz.func5,Tryz.ntmps5
 by_cases hg:24<s.size
 ·have hgi:(24:Int)<(s.size:Int):=by omega
  go_wp2_with fail;replace hb:=hb.alloc hb.size (.cells #[.bool m,.string s] 26);refine (lawake_any _ (tab_below htab hb)).mono ?_;rintro e W2 ⟨rfl,hq⟩;replace hb:=below_next hb hq;go_wp2;go_ret;exact ⟨rfl,hb⟩
 have hgi:¬ (24:Int)<(s.size:Int):=by omega
 obtain ⟨hA,hb⟩:=blocks1 w #[.bool m,.string s];have hA1:=hA.cells;go_wp2_with fail;generalize (w.alloc (.cells #[.bool m,.string s] 26))=W0 at *;obtain ⟨t1,ht1⟩:∃ t1,(⟨(itoa (wv m s)).toArray⟩:ByteArray)=t1:=⟨_,rfl⟩;obtain ⟨z,o,e0,hx⟩:=df_some (nv m s 0);have HT:=Lib.hid (And.intro ht1 hx);clear ht1 hx;refine (print_any _ (tab_below htab hb) m s (by omega) t1 HT.out.1).mono ?_;rintro e W1 ⟨rfl,hq⟩;replace hb:=below_next hb hq;replace hA:=hA.below hq;clear hq hA1;have hA1:=hA.cells;go_wp2_with fail;refine (ymake_any _ m s 0 (by omega) (by omega) z o e0 HT.out.2).mono ?_;rintro e W2 ⟨rfl,hq⟩;replace hb:=below_next hb hq;clear hq hA1 hA;have hX:=Nk.new W2 z o e0;replace hb:=hb.alloc hb.size (.cells #[.bool z,.string o,.int .i64 e0] 28);obtain ⟨z1,o1,ez,-,sz⟩:=nmw (z:=k) (k:=8) (by have:(256:Nat) ^ 8=18446744073709551616:=rfl;omega);obtain ⟨m1,s1,e1,hd⟩:=df_some (.ofIntWithPrec k 0);have hs1:s1.size≤8:=(df_exp (show df (nv z1 o1 0)=nu m1 s1 e1 by rw [nv_of 0 ez];exact hd) sz).2;obtain ⟨t2,ht2⟩:∃ t2,(⟨(itoa (wv m1 s1)).toArray⟩:ByteArray)=t2:=⟨_,rfl⟩;obtain ⟨t3,ht3⟩:∃ t3,(⟨(itoa k).toArray⟩:ByteArray)=t3:=⟨_,rfl⟩;have HD:=Lib.hid (And.intro hd (And.intro ht2 ht3));clear hd ht2 ht3 ez sz;go_wp2_with fail;generalize W2.alloc (.cells #[.bool z,.string o,.int .i64 e0] 28)=W3 at *;generalize W2.heap.size=PX at *;refine (yof_any _ k (by omega) (by omega) m1 s1 e1 HD.out.1).mono ?_;rintro e W4 ⟨rfl,hq⟩;replace hb:=below_next hb hq;replace hX:=hX.below hq;clear hq
 have hfd:=field_num W4 m1 s1 e1;go_wp2_with fail;clear hfd;refine (print_any _ (tab_below htab hb) m1 s1 (by omega) t2 HD.out.2.1).mono ?_;rintro e W5 ⟨rfl,hq⟩;replace hb:=below_next hb hq;replace hX:=hX.below hq;clear hq
 by_cases hk0:k=0
 case' pos =>
  have h23:t3=t2:=by
   have h1:=HD.out.1;rw [hk0] at h1;rw [← HD.out.2.1,← HD.out.2.2,zero_text h1,hk0]
  have hkn:(k != 0)=false:=by simp [hk0]
  subst h23;clear hk0;go_wp2_with fail
 case' neg =>
  have hkn:(k != 0)=true:=by simp [hk0]
  go_wp2_with fail;obtain ⟨u,hu⟩:∃ u,fb j=u:=⟨_,rfl⟩;have hus:u.size≤2:=by rw [← hu];exact small_size hjb
  have hut:(⟨(itoa (wv (decide (k<0)) u)).toArray⟩:ByteArray)=t3:=by rw [← hu,neg_text hj];exact HD.out.2.2
  refine (lsize_any _ j (by omega) (by omega) u hu).mono ?_;have HU:=Lib.hid hut;clear hu hut;rintro e W5' ⟨rfl,hq⟩;replace hb:=below_next hb hq;replace hX:=hX.below hq;clear hq;obtain ⟨sg,hsg⟩:∃ sg,decide (k<0)=sg:=⟨_,rfl⟩;have HU2:=HU.out;rw [hsg] at HU2;rw [hsg];have HU3:=Lib.hid HU2;clear HU HU2 hk0;go_wp2_with fail;refine (print_any _ (tab_below htab (by first|exact hb|exact hb.alloc hb.size _)) sg u (by omega) t3 HU3.out).mono ?_;rintro e W6 ⟨rfl,hq⟩
  first
   | (replace hb:=below_next hb hq;replace hX:=hX.below hq)
   | (replace hb:=below_next (hb.alloc hb.size _) hq;replace hX:=(hX.alloc _).below hq)
  clear hq;go_wp2_with fail
 all_goals
  obtain ⟨q,hq0⟩:∃ q,fb (2 ^ j)=q:=⟨_,rfl⟩;have hqs:q.size≤38:=by rw [← hq0];exact two_pow_size hjb
  obtain ⟨t4,ht4⟩:∃ t4,(⟨(itoa ((2 ^ j:Nat):Int)).toArray⟩:ByteArray)=t4:=⟨_,rfl⟩;have hqt:(⟨(itoa (wv false q)).toArray⟩:ByteArray)=t4:=by rw [← hq0,pow_text];exact ht4
  refine (lpower_law _ j (by omega) q hq0).mono ?_;rintro e V1 ⟨rfl,hq⟩;replace hb:=below_next hb hq;replace hX:=hX.below hq;have HQ:=Lib.hid (And.intro hqt (And.intro ht4 hj));clear hq hq0 hqt ht4;go_wp2_with fail;refine (print_any _ (tab_below htab hb) false q (by omega) t4 HQ.out.1).mono ?_;rintro e V2 ⟨rfl,hq⟩;replace hb:=below_next hb hq;replace hX:=hX.below hq;clear hq;have l1:t1.size≤74:=by have:=itoa_size m s HT.out.1;omega
  have l4:t4.size≤116:=by have:=itoa_size false q HQ.out.1;omega
  have l3:t3.size≤8:=three_size hj hjb HD.out.2.2;have hp1:(t1++(⟨#[112]⟩:ByteArray)).size=t1.size+1:=by rw [ByteArray.size_append];rfl
  have hp2:(t1++(⟨#[47]⟩:ByteArray)).size=t1.size+1:=by rw [ByteArray.size_append];rfl
  obtain ⟨hex,hos⟩:=df_exp HT.out.2 (show s.size≤24 by omega);obtain ⟨zu,ou,eu,hu2⟩:=df_some (nv z o (e0+k));obtain ⟨zd,od,ed,hd2⟩:=df_some (nv z o (e0+-(j:Int)));have HS:=Lib.hid (And.intro hu2 hd2);clear hu2 hd2;obtain ⟨hX0,hX1,hX2⟩:=hX.cells;go_wp2_with fail;refine (lis_det _ t1 (by omega) z o e0 (det_int (by rw [← HT.out.1]) HT.out.2)).mono ?_;rintro e V3 ⟨rfl,hq⟩;replace hb:=below_next hb hq;replace hX:=hX.below hq;clear hq hX0 hX1 hX2;obtain ⟨hX0,hX1,hX2⟩:=hX.cells;go_wp2_with fail;refine (yshift_any _ z o e0 k (by omega) (by omega) (by omega) zu ou eu HS.out.1).mono ?_;rintro e V4 ⟨rfl,hq⟩;replace hb:=below_next hb hq;replace hX:=hX.below hq;clear hq hX0 hX1 hX2;obtain ⟨hX0,hX1,hX2⟩:=hX.cells;go_wp2_with fail;refine (lis_det _ (t1++(⟨#[112]⟩:ByteArray)++t3) (by rw [ByteArray.size_append,hp1];omega) zu ou eu (det_up (join_up HT.out.1 HD.out.2.2 112 rfl) (by omega) (moved_dI k HT.out.2 HS.out.1))).mono ?_;rintro e V5 ⟨rfl,hq⟩;replace hb:=below_next hb hq;replace hX:=hX.below hq;clear hq hX0 hX1 hX2;obtain ⟨hX0,hX1,hX2⟩:=hX.cells;go_wp2_with fail;refine (yshift_any _ z o e0 (-(j:Int)) (by omega) (by omega) (by omega) zd od ed HS.out.2).mono ?_;rintro e V6 ⟨rfl,hq⟩;replace hb:=below_next hb hq;replace hX:=hX.below hq;clear hq hX0 hX1 hX2;obtain ⟨hX0,hX1,hX2⟩:=hX.cells;go_wp2_with fail
  refine (lis_det _ (t1++(⟨#[47]⟩:ByteArray)++t4) (by rw [ByteArray.size_append,hp2];omega) zd od ed (det_down (join_up HT.out.1 HQ.out.2.1 47 rfl) (moved_dI (-(j:Int)) HT.out.2 HS.out.2))).mono ?_;rintro e V7 ⟨rfl,hq⟩;replace hb:=below_next hb hq;clear hq hX0 hX1 hX2 hX;go_wp2_with fail;refine (lawake_any _ (tab_below htab hb)).mono ?_;rintro e V8 ⟨rfl,hq⟩;replace hb:=below_next hb hq;go_wp2;go_ret;exact ⟨rfl,hb⟩
end Go.Proofs.YtiddgplapodleaaGreatDoor
