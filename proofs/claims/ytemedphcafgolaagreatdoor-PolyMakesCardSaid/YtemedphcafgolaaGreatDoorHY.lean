/- Layer 1, laid together: YFloor, YHeld, Y3, Y10, Y11. -/
import Derived.Test.YtemedphcafgolaaGreatDoorHN
/- Numbers brought down to a grid;no function is walked in this text. -/
namespace Go.Proofs.YtemedphcafgolaaGreatDoor
set_option maxRecDepth 100000
set_option maxHeartbeats 800000
open Go.RowKit Go.Shelf
theorem held_n {W W' : World} {b:Nat} {x y z:Value} (h:W.cell? ⟨b,0,none⟩=some x∧W.cell? ⟨b,1,none⟩=some y∧W.cell? ⟨b,2,none⟩=some z) (hq:Below W.heap.size W W'):W'.cell? ⟨b,0,none⟩=some x∧W'.cell? ⟨b,1,none⟩=some y∧W'.cell? ⟨b,2,none⟩=some z:=by
 have hl:=block_lt_of_cell h.1;have hl1:(⟨b,1,none⟩:Addr).block<W.heap.size:=hl;have hl2:(⟨b,2,none⟩:Addr).block<W.heap.size:=hl;exact ⟨(hq.cell hl).trans h.1,(hq.cell hl1).trans h.2.1,(hq.cell hl2).trans h.2.2⟩
theorem past_n {W:World} {b:Nat} {x y z:Value} {o:Obj} (h:W.cell? ⟨b,0,none⟩=some x∧W.cell? ⟨b,1,none⟩=some y∧W.cell? ⟨b,2,none⟩=some z):(W.alloc o).cell? ⟨b,0,none⟩=some x∧(W.alloc o).cell? ⟨b,1,none⟩=some y∧(W.alloc o).cell? ⟨b,2,none⟩=some z:=
 ⟨cell_past h.1 o,cell_past h.2.1 o,cell_past h.2.2 o⟩
theorem set_n {W:World} {b r:Nat} {x y z u v q:Value} (h:W.cell? ⟨b,0,none⟩=some x∧W.cell? ⟨b,1,none⟩=some y∧W.cell? ⟨b,2,none⟩=some z) (hr:b≠r) :
  (((W.setCell ⟨r,0,none⟩ u).setCell ⟨r,1,none⟩ v).setCell ⟨r,2,none⟩ q).cell? ⟨b,0,none⟩=some x∧(((W.setCell ⟨r,0,none⟩ u).setCell ⟨r,1,none⟩ v).setCell ⟨r,2,none⟩ q).cell? ⟨b,1,none⟩=some y∧(((W.setCell ⟨r,0,none⟩ u).setCell ⟨r,1,none⟩ v).setCell ⟨r,2,none⟩ q).cell? ⟨b,2,none⟩=some z:=by
 have hk:(((W.setCell ⟨r,0,none⟩ u).setCell ⟨r,1,none⟩ v).setCell ⟨r,2,none⟩ q).heap[b]?=W.heap[b]?:=by
  rw [Below.heap_setCell _ _ _ _ hr,Below.heap_setCell _ _ _ _ hr,Below.heap_setCell _ _ _ _ hr]
 exact ⟨(World.cell?_of_block (w:=W) (a:=⟨b,0,none⟩) hk).trans h.1,(World.cell?_of_block (w:=W) (a:=⟨b,1,none⟩) hk).trans h.2.1,(World.cell?_of_block (w:=W) (a:=⟨b,2,none⟩) hk).trans h.2.2⟩
theorem h_n {W W' : World} {b0:Nat} {x00 x01 x02:Value} (h:(W.cell? ⟨b0,0,none⟩=some x00∧W.cell? ⟨b0,1,none⟩=some x01∧W.cell? ⟨b0,2,none⟩=some x02)) (hq:Below W.heap.size W W'):(W'.cell? ⟨b0,0,none⟩=some x00∧W'.cell? ⟨b0,1,none⟩=some x01∧W'.cell? ⟨b0,2,none⟩=some x02):=held_n (h) hq
theorem a_n {W:World} {b0:Nat} {x00 x01 x02:Value} {o:Obj} (h:(W.cell? ⟨b0,0,none⟩=some x00∧W.cell? ⟨b0,1,none⟩=some x01∧W.cell? ⟨b0,2,none⟩=some x02)):((W.alloc o).cell? ⟨b0,0,none⟩=some x00∧(W.alloc o).cell? ⟨b0,1,none⟩=some x01∧(W.alloc o).cell? ⟨b0,2,none⟩=some x02):=past_n (h)
theorem s_n {W:World} {b0 r:Nat} {x00 x01 x02 u v q:Value} (h:(W.cell? ⟨b0,0,none⟩=some x00∧W.cell? ⟨b0,1,none⟩=some x01∧W.cell? ⟨b0,2,none⟩=some x02)) (hr:∀ b∈[b0],b≠r):((((W.setCell ⟨r,0,none⟩ u).setCell ⟨r,1,none⟩ v).setCell ⟨r,2,none⟩ q).cell? ⟨b0,0,none⟩=some x00∧(((W.setCell ⟨r,0,none⟩ u).setCell ⟨r,1,none⟩ v).setCell ⟨r,2,none⟩ q).cell? ⟨b0,1,none⟩=some x01∧(((W.setCell ⟨r,0,none⟩ u).setCell ⟨r,1,none⟩ v).setCell ⟨r,2,none⟩ q).cell? ⟨b0,2,none⟩=some x02):=set_n (h) (hr b0 (by simp))
theorem h_nn {W W' : World} {b0 b1:Nat} {x00 x01 x02 x10 x11 x12:Value} (h:(W.cell? ⟨b0,0,none⟩=some x00∧W.cell? ⟨b0,1,none⟩=some x01∧W.cell? ⟨b0,2,none⟩=some x02)∧(W.cell? ⟨b1,0,none⟩=some x10∧W.cell? ⟨b1,1,none⟩=some x11∧W.cell? ⟨b1,2,none⟩=some x12)) (hq:Below W.heap.size W W'):(W'.cell? ⟨b0,0,none⟩=some x00∧W'.cell? ⟨b0,1,none⟩=some x01∧W'.cell? ⟨b0,2,none⟩=some x02)∧(W'.cell? ⟨b1,0,none⟩=some x10∧W'.cell? ⟨b1,1,none⟩=some x11∧W'.cell? ⟨b1,2,none⟩=some x12):=⟨held_n (h.1) hq,held_n (h.2) hq⟩
theorem a_nn {W:World} {b0 b1:Nat} {x00 x01 x02 x10 x11 x12:Value} {o:Obj} (h:(W.cell? ⟨b0,0,none⟩=some x00∧W.cell? ⟨b0,1,none⟩=some x01∧W.cell? ⟨b0,2,none⟩=some x02)∧(W.cell? ⟨b1,0,none⟩=some x10∧W.cell? ⟨b1,1,none⟩=some x11∧W.cell? ⟨b1,2,none⟩=some x12)):((W.alloc o).cell? ⟨b0,0,none⟩=some x00∧(W.alloc o).cell? ⟨b0,1,none⟩=some x01∧(W.alloc o).cell? ⟨b0,2,none⟩=some x02)∧((W.alloc o).cell? ⟨b1,0,none⟩=some x10∧(W.alloc o).cell? ⟨b1,1,none⟩=some x11∧(W.alloc o).cell? ⟨b1,2,none⟩=some x12):=⟨past_n (h.1),past_n (h.2)⟩
theorem s_nn {W:World} {b0 b1 r:Nat} {x00 x01 x02 x10 x11 x12 u v q:Value} (h:(W.cell? ⟨b0,0,none⟩=some x00∧W.cell? ⟨b0,1,none⟩=some x01∧W.cell? ⟨b0,2,none⟩=some x02)∧(W.cell? ⟨b1,0,none⟩=some x10∧W.cell? ⟨b1,1,none⟩=some x11∧W.cell? ⟨b1,2,none⟩=some x12)) (hr:∀ b∈[b0,b1],b≠r):((((W.setCell ⟨r,0,none⟩ u).setCell ⟨r,1,none⟩ v).setCell ⟨r,2,none⟩ q).cell? ⟨b0,0,none⟩=some x00∧(((W.setCell ⟨r,0,none⟩ u).setCell ⟨r,1,none⟩ v).setCell ⟨r,2,none⟩ q).cell? ⟨b0,1,none⟩=some x01∧(((W.setCell ⟨r,0,none⟩ u).setCell ⟨r,1,none⟩ v).setCell ⟨r,2,none⟩ q).cell? ⟨b0,2,none⟩=some x02)∧((((W.setCell ⟨r,0,none⟩ u).setCell ⟨r,1,none⟩ v).setCell ⟨r,2,none⟩ q).cell? ⟨b1,0,none⟩=some x10∧(((W.setCell ⟨r,0,none⟩ u).setCell ⟨r,1,none⟩ v).setCell ⟨r,2,none⟩ q).cell? ⟨b1,1,none⟩=some x11∧(((W.setCell ⟨r,0,none⟩ u).setCell ⟨r,1,none⟩ v).setCell ⟨r,2,none⟩ q).cell? ⟨b1,2,none⟩=some x12):=⟨set_n (h.1) (hr b0 (by simp)),set_n (h.2) (hr b1 (by simp))⟩
theorem val_of_wf {x:Int} {z:Bool} {o:ByteArray} (h:wf x=wi z o):wv z o=x:=by
 obtain ⟨h1,h2⟩:=wi_inj h;rw [← h1,← h2,sI_fb];unfold sI
 by_cases hx:x<0
 ·rw [decide_eq_true hx];simp;omega
 ·rw [decide_eq_false hx];simp;omega
theorem wf_wf {x:Int} {z:Bool} {o:ByteArray} (h:wf x=wi z o):wf (wv z o)=wi z o:=by rw [val_of_wf h,h]
theorem nv_of {z:Bool} {o:ByteArray} {x:Int} (e:Int) (h:wf x=wi z o):nv z o e=.ofIntWithPrec x (-e):=by
 unfold nv;rw [val_of_wf h]
theorem df_shift {m m1:Bool} {s s1:ByteArray} {e e1:Int} (n:Int) (h:df (nv m s e)=nu m1 s1 e1) :
  (nv m s e=0∧df (nv m s (e+n))=nu false ⟨#[]⟩ 0∧m1=false∧s1=⟨#[]⟩∧e1=0)∨(nv m s e≠0∧df (nv m s (e+n))=nu m1 s1 (e1+n)∧s1.toList.isEmpty=false):=by
 unfold nv at *
 by_cases hz:wv m s=0
 ·rw [hz] at h ⊢;obtain ⟨d1,d2,d3⟩:=nu_inj h;exact .inl ⟨rfl,rfl,d1.symm,d2.symm,d3.symm⟩
 ·refine .inr ?_;rw [df_of e hz] at h;obtain ⟨d1,d2,d3⟩:=nu_inj h;refine ⟨?_,?_,?_⟩
  ·unfold Dyadic.ofIntWithPrec;rw [dif_neg hz];exact Dyadic.of_ne_zero
  ·rw [df_of (e+n) hz,d1,d2,← d3]
   congr 1
   omega
  ·rw [← d2,fb_empty];obtain ⟨t,j,ht⟩:=tz_ex (n:=(wv m s).natAbs) (by omega);have htz:tz (wv m s).natAbs=t:=by rw [ht,tz_of]
   have hq:(wv m s).natAbs / 2 ^ t=2*j+1:=by rw [ht,Nat.mul_comm];exact Nat.mul_div_cancel _ (Nat.two_pow_pos t)
   rw [htz,hq];exact decide_eq_false (by omega)
theorem df_exp {m m1:Bool} {s s1:ByteArray} {e e1:Int} {k:Nat} (h:df (nv m s e)=nu m1 s1 e1) (hs:s.size≤k):(e1=0∨(e≤e1∧e1≤e+8*k))∧s1.size≤k:=by
 unfold nv at h;have ha:=wv_abs m s
 by_cases hz:wv m s=0
 ·rw [hz] at h;obtain ⟨d1,d2,d3⟩:=nu_inj h;refine ⟨.inl d3.symm,?_⟩;rw [← d2];exact Nat.zero_le _
 ·rw [df_of e hz,ha] at h;obtain ⟨d1,d2,d3⟩:=nu_inj h;have h1:=tz_size (s:=s) (k:=k) (by omega) hs;refine ⟨.inr ⟨by omega,by omega⟩,?_⟩;rw [← d2];refine fb_size_le (Nat.lt_of_le_of_lt (Nat.div_le_self _ _) ?_);exact lt_size hs
theorem yof_any (w:World) (n:Int) (h1:-9223372036854775808≤n) (h2:n≤9223372036854775807) (m' : Bool) (s' : ByteArray) (e' : Int) (hd:df (.ofIntWithPrec n 0)=nu m' s' e') :
  Calls Tryz.prog 49 #[.int .i64 n] w (Ret (.agg #[.bool m',.string s',.int .i64 e']) w):=by
 obtain ⟨z,o,ez,vz,sz⟩:=nmw (z:=n) (k:=8) (by have:(256:Nat) ^ 8=18446744073709551616:=rfl;omega);have HZ:=Lib.hid (And.intro ez (And.intro (wf_wf ez) (show df (nv z o 0)=nu m' s' e' by rw [nv_of 0 ez];exact hd)));clear ez vz hd;go_enter Tryz.func49,Tryz.ntmps49;go_wp2_with fail;obtain ⟨hR,hb⟩:=nblk1 w false ⟨#[]⟩ 0;generalize (w.alloc (.cells #[.bool false,.string ⟨#[]⟩,.int .i64 0] 26))=W0 at *;refine (wof_any _ n h1 h2 z o HZ.out.1).mono ?_;rintro e W ⟨rfl,hq⟩;replace hb:=below_next hb hq;replace hR:=hR.below hq;clear hq;go_wp2_with fail;refine (made_any _ z o 0 HZ.out.2.1 (by omega) (by omega) m' s' e' HZ.out.2.2).mono ?_;rintro e V ⟨rfl,hq⟩;replace hb:=below_next hb hq;replace hR:=hR.below hq;clear hq;obtain ⟨hR0,hR1,hR2,hR3,hR4,hR5⟩:=hR.facts;go_wp2;exact ret_num rfl rfl (hR.set3 _ _ _) ⟨rfl,below_set3 hb (by omega) _ _ _ _ _ _⟩
theorem ymake_any (w:World) (n:Bool) (s:ByteArray) (e:Int) (hs:s.size≤1000000) (he:-10000000000000≤e∧e≤10000000000000) (m' : Bool) (s' : ByteArray) (e' : Int) (hd:df (nv n s e)=nu m' s' e') :
  Calls Tryz.prog 66 #[wi n s,.int .i64 e] w (Ret (.agg #[.bool m',.string s',.int .i64 e']) w):=by
 obtain ⟨z,o,ez,vz,sz⟩:=form_nmw n s (k:=1000000) hs;have HZ:=Lib.hid (And.intro ez (And.intro (wf_wf ez) (show df (nv z o e)=nu m' s' e' by rw [nv_of e ez];exact hd)));clear ez vz hd;unfold wi;go_enter Tryz.func66,Tryz.ntmps66;go_wp2_with fail;obtain ⟨hA,hR,hb⟩:=iblkN w n false s ⟨#[]⟩ 0;generalize ((w.alloc (.cells #[.bool n,.string s] 24)).alloc (.cells #[.bool false,.string ⟨#[]⟩,.int .i64 0] 26))=W0 at *;refine (wform_any _ n s (by omega) z o HZ.out.1).mono ?_;rintro e W ⟨rfl,hq⟩;replace hb:=below_next hb hq;replace hR:=hR.below hq;clear hq;go_wp2_with fail;refine (made_any _ z o e HZ.out.2.1 (by omega) (by omega) m' s' e' HZ.out.2.2).mono ?_;rintro e V ⟨rfl,hq⟩;replace hb:=below_next hb hq;replace hR:=hR.below hq;clear hq;obtain ⟨hR0,hR1,hR2,hR3,hR4,hR5⟩:=hR.facts;go_wp2;exact ret_num rfl rfl (hR.set3 _ _ _) ⟨rfl,below_set3 hb (by omega) _ _ _ _ _ _⟩
theorem yform_any (w:World) (m:Bool) (s:ByteArray) (e:Int) (hs:s.size≤1000000) (he:-10000000000000≤e∧e≤10000000000000) (m' : Bool) (s' : ByteArray) (e' : Int) (hd:df (nv m s e)=nu m' s' e') :
  Calls Tryz.prog 44 #[nu m s e] w (Ret (.agg #[.bool m',.string s',.int .i64 e']) w):=by
 have HZ:=Lib.hid hd;clear hd;unfold nu;go_enter Tryz.func44,Tryz.ntmps44;go_wp2_with fail;obtain ⟨hA,hR,hb⟩:=nblk2 w m false s ⟨#[]⟩ e 0;generalize ((w.alloc (.cells #[.bool m,.string s,.int .i64 e] 26)).alloc (.cells #[.bool false,.string ⟨#[]⟩,.int .i64 0] 26))=W0 at *;refine (ymake_any _ m s e hs he m' s' e' HZ.out).mono ?_;rintro e W ⟨rfl,hq⟩;replace hb:=below_next hb hq;replace hR:=hR.below hq;clear hq;obtain ⟨hR0,hR1,hR2,hR3,hR4,hR5⟩:=hR.facts;go_wp2;exact ret_num rfl rfl (hR.set3 _ _ _) ⟨rfl,below_set3 hb (by omega) _ _ _ _ _ _⟩
theorem ysign_any (w:World) (m:Bool) (s:ByteArray) (e:Int) (hs:s.size≤1000000) (c:Int) (hc:sg (wv m s)=c) :
  Calls Tryz.prog 43 #[nu m s e] w (Ret (.int .i64 c) w):=by
 have HZ:=Lib.hid hc;clear hc;unfold nu;go_enter Tryz.func43,Tryz.ntmps43;go_wp2_with fail;obtain ⟨hA,hb⟩:=nblk1 w m s e;generalize (w.alloc (.cells #[.bool m,.string s,.int .i64 e] 26))=W0 at *;refine (wsign_any _ m s (by omega) c HZ.out).mono ?_;rintro e W ⟨rfl,hq⟩;replace hb:=below_next hb hq;clear hq;go_wp2;go_ret;exact ⟨rfl,hb⟩
end Go.Proofs.YtemedphcafgolaaGreatDoor
