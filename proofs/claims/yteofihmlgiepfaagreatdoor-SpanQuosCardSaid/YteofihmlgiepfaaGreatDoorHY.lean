/- Layer 1, laid together: YFloor, YHeld, Y3, Y10, Y11. -/
import Derived.Test.YteofihmlgiepfaaGreatDoorHN
/- Numbers brought down to a grid;no function is walked in this text. -/
namespace Go.Proofs.YteofihmlgiepfaaGreatDoor
set_option maxRecDepth 100000
set_option maxHeartbeats 1600000
open Go.RowKit Go.Shelf
theorem shr_scaled (z:Int) (a k:Nat):(z*2 ^ a) / (((2 ^ (a+k):Nat)):Int)=z / ((2 ^ k:Nat):Int):=by
 have h:((2 ^ (a+k):Nat):Int)=(2 ^ a:Int)*((2 ^ k:Nat):Int):=by
  rw [Nat.pow_add,Int.natCast_mul]
  congr 1
 rw [h,Int.mul_comm z];exact Int.mul_ediv_mul_of_pos _ _ (Int.pow_pos (by decide))
theorem floor_nv {m:Bool} {s:ByteArray} {e p:Int} (k:Nat) (hk:e+p=-(k:Int)):(nv m s e).roundDown p=.ofIntWithPrec (wv m s / ((2 ^ k:Nat):Int)) p:=by
 unfold nv;rw [← Dyadic.toDyadic_toRat,Dyadic.toRat_ofIntWithPrec_eq_mkRat,Rat.toDyadic_mkRat]
 congr 1
 rw [Int.neg_neg,Int.shiftLeft_eq,Int.shiftLeft_eq,Int.mul_assoc,← Int.pow_add,Nat.shiftLeft_eq,Nat.shiftLeft_eq,Nat.one_mul,← Nat.pow_add];have h:(-e).toNat+(-p).toNat=(e.toNat+p.toNat)+k:=by omega
 rw [h];exact shr_scaled _ _ _
theorem floor_self {m:Bool} {s:ByteArray} {e p:Int} (h0:0≤e+p):(nv m s e).roundDown p=nv m s e:=by
 obtain ⟨k,hk⟩:∃ k:Nat,e+p=k:=⟨(e+p).toNat,by omega⟩;unfold nv;rw [← Dyadic.toDyadic_toRat,Dyadic.toRat_ofIntWithPrec_eq_mkRat,Rat.toDyadic_mkRat];rw [Int.neg_neg,Int.shiftLeft_eq,Int.shiftLeft_eq,Int.mul_assoc,← Int.pow_add,Nat.shiftLeft_eq,Nat.shiftLeft_eq,Nat.one_mul,← Nat.pow_add];have h:e.toNat+p.toNat=k+((-e).toNat+(-p).toNat):=by omega
 have h2:(((2 ^ ((-e).toNat+(-p).toNat):Nat)):Int)=2 ^ ((-e).toNat+(-p).toNat):=by rw [Int.natCast_pow];rfl
 rw [h,h2,Int.pow_add,← Int.mul_assoc,Int.mul_ediv_cancel _ (Int.ne_of_gt (Int.pow_pos (by decide))),← Int.shiftLeft_eq];have h3:=Dyadic.ofIntWithPrec_shiftLeft_add (x:=wv m s) (i:=-e) (n:=k);rw [← h3]
 congr 1
 omega
theorem held_n {W W' : World} {b:Nat} {x y z:Value} (h:W.cell? ⟨b,0,none⟩=some x∧W.cell? ⟨b,1,none⟩=some y∧W.cell? ⟨b,2,none⟩=some z) (hq:Below W.heap.size W W'):W'.cell? ⟨b,0,none⟩=some x∧W'.cell? ⟨b,1,none⟩=some y∧W'.cell? ⟨b,2,none⟩=some z:=by
 have hl:=block_lt_of_cell h.1;have hl1:(⟨b,1,none⟩:Addr).block<W.heap.size:=hl;have hl2:(⟨b,2,none⟩:Addr).block<W.heap.size:=hl;exact ⟨(hq.cell hl).trans h.1,(hq.cell hl1).trans h.2.1,(hq.cell hl2).trans h.2.2⟩
theorem past_n {W:World} {b:Nat} {x y z:Value} {o:Obj} (h:W.cell? ⟨b,0,none⟩=some x∧W.cell? ⟨b,1,none⟩=some y∧W.cell? ⟨b,2,none⟩=some z):(W.alloc o).cell? ⟨b,0,none⟩=some x∧(W.alloc o).cell? ⟨b,1,none⟩=some y∧(W.alloc o).cell? ⟨b,2,none⟩=some z:=
 ⟨cell_past h.1 o,cell_past h.2.1 o,cell_past h.2.2 o⟩
theorem set_n {W:World} {b r:Nat} {x y z u v q:Value} (h:W.cell? ⟨b,0,none⟩=some x∧W.cell? ⟨b,1,none⟩=some y∧W.cell? ⟨b,2,none⟩=some z) (hr:b≠r) :
  (((W.setCell ⟨r,0,none⟩ u).setCell ⟨r,1,none⟩ v).setCell ⟨r,2,none⟩ q).cell? ⟨b,0,none⟩=some x∧(((W.setCell ⟨r,0,none⟩ u).setCell ⟨r,1,none⟩ v).setCell ⟨r,2,none⟩ q).cell? ⟨b,1,none⟩=some y∧(((W.setCell ⟨r,0,none⟩ u).setCell ⟨r,1,none⟩ v).setCell ⟨r,2,none⟩ q).cell? ⟨b,2,none⟩=some z:=by
 have hk:(((W.setCell ⟨r,0,none⟩ u).setCell ⟨r,1,none⟩ v).setCell ⟨r,2,none⟩ q).heap[b]?=W.heap[b]?:=by
  rw [Below.heap_setCell _ _ _ _ hr,Below.heap_setCell _ _ _ _ hr,Below.heap_setCell _ _ _ _ hr]
 exact ⟨(World.cell?_of_block (w:=W) (a:=⟨b,0,none⟩) hk).trans h.1,(World.cell?_of_block (w:=W) (a:=⟨b,1,none⟩) hk).trans h.2.1,(World.cell?_of_block (w:=W) (a:=⟨b,2,none⟩) hk).trans h.2.2⟩
theorem h_n {W W' : World} {b0:Nat} {x00 x01 x02:Value} (h:(W.cell? ⟨b0,0,none⟩=some x00∧W.cell? ⟨b0,1,none⟩=some x01∧W.cell? ⟨b0,2,none⟩=some x02)) (hq:Below W.heap.size W W'):(W'.cell? ⟨b0,0,none⟩=some x00∧W'.cell? ⟨b0,1,none⟩=some x01∧W'.cell? ⟨b0,2,none⟩=some x02):=held_n (h) hq
theorem a_n {W:World} {b0:Nat} {x00 x01 x02:Value} {o:Obj} (h:(W.cell? ⟨b0,0,none⟩=some x00∧W.cell? ⟨b0,1,none⟩=some x01∧W.cell? ⟨b0,2,none⟩=some x02)):((W.alloc o).cell? ⟨b0,0,none⟩=some x00∧(W.alloc o).cell? ⟨b0,1,none⟩=some x01∧(W.alloc o).cell? ⟨b0,2,none⟩=some x02):=past_n (h)
theorem s_n {W:World} {b0 r:Nat} {x00 x01 x02 u v q:Value} (h:(W.cell? ⟨b0,0,none⟩=some x00∧W.cell? ⟨b0,1,none⟩=some x01∧W.cell? ⟨b0,2,none⟩=some x02)) (hr:∀ b∈[b0],b≠r):((((W.setCell ⟨r,0,none⟩ u).setCell ⟨r,1,none⟩ v).setCell ⟨r,2,none⟩ q).cell? ⟨b0,0,none⟩=some x00∧(((W.setCell ⟨r,0,none⟩ u).setCell ⟨r,1,none⟩ v).setCell ⟨r,2,none⟩ q).cell? ⟨b0,1,none⟩=some x01∧(((W.setCell ⟨r,0,none⟩ u).setCell ⟨r,1,none⟩ v).setCell ⟨r,2,none⟩ q).cell? ⟨b0,2,none⟩=some x02):=set_n (h) (hr b0 (by simp))
theorem h_nn {W W' : World} {b0 b1:Nat} {x00 x01 x02 x10 x11 x12:Value} (h:(W.cell? ⟨b0,0,none⟩=some x00∧W.cell? ⟨b0,1,none⟩=some x01∧W.cell? ⟨b0,2,none⟩=some x02)∧(W.cell? ⟨b1,0,none⟩=some x10∧W.cell? ⟨b1,1,none⟩=some x11∧W.cell? ⟨b1,2,none⟩=some x12)) (hq:Below W.heap.size W W'):(W'.cell? ⟨b0,0,none⟩=some x00∧W'.cell? ⟨b0,1,none⟩=some x01∧W'.cell? ⟨b0,2,none⟩=some x02)∧(W'.cell? ⟨b1,0,none⟩=some x10∧W'.cell? ⟨b1,1,none⟩=some x11∧W'.cell? ⟨b1,2,none⟩=some x12):=⟨held_n (h.1) hq,held_n (h.2) hq⟩
theorem a_nn {W:World} {b0 b1:Nat} {x00 x01 x02 x10 x11 x12:Value} {o:Obj} (h:(W.cell? ⟨b0,0,none⟩=some x00∧W.cell? ⟨b0,1,none⟩=some x01∧W.cell? ⟨b0,2,none⟩=some x02)∧(W.cell? ⟨b1,0,none⟩=some x10∧W.cell? ⟨b1,1,none⟩=some x11∧W.cell? ⟨b1,2,none⟩=some x12)):((W.alloc o).cell? ⟨b0,0,none⟩=some x00∧(W.alloc o).cell? ⟨b0,1,none⟩=some x01∧(W.alloc o).cell? ⟨b0,2,none⟩=some x02)∧((W.alloc o).cell? ⟨b1,0,none⟩=some x10∧(W.alloc o).cell? ⟨b1,1,none⟩=some x11∧(W.alloc o).cell? ⟨b1,2,none⟩=some x12):=⟨past_n (h.1),past_n (h.2)⟩
theorem s_nn {W:World} {b0 b1 r:Nat} {x00 x01 x02 x10 x11 x12 u v q:Value} (h:(W.cell? ⟨b0,0,none⟩=some x00∧W.cell? ⟨b0,1,none⟩=some x01∧W.cell? ⟨b0,2,none⟩=some x02)∧(W.cell? ⟨b1,0,none⟩=some x10∧W.cell? ⟨b1,1,none⟩=some x11∧W.cell? ⟨b1,2,none⟩=some x12)) (hr:∀ b∈[b0,b1],b≠r):((((W.setCell ⟨r,0,none⟩ u).setCell ⟨r,1,none⟩ v).setCell ⟨r,2,none⟩ q).cell? ⟨b0,0,none⟩=some x00∧(((W.setCell ⟨r,0,none⟩ u).setCell ⟨r,1,none⟩ v).setCell ⟨r,2,none⟩ q).cell? ⟨b0,1,none⟩=some x01∧(((W.setCell ⟨r,0,none⟩ u).setCell ⟨r,1,none⟩ v).setCell ⟨r,2,none⟩ q).cell? ⟨b0,2,none⟩=some x02)∧((((W.setCell ⟨r,0,none⟩ u).setCell ⟨r,1,none⟩ v).setCell ⟨r,2,none⟩ q).cell? ⟨b1,0,none⟩=some x10∧(((W.setCell ⟨r,0,none⟩ u).setCell ⟨r,1,none⟩ v).setCell ⟨r,2,none⟩ q).cell? ⟨b1,1,none⟩=some x11∧(((W.setCell ⟨r,0,none⟩ u).setCell ⟨r,1,none⟩ v).setCell ⟨r,2,none⟩ q).cell? ⟨b1,2,none⟩=some x12):=⟨set_n (h.1) (hr b0 (by simp)),set_n (h.2) (hr b1 (by simp))⟩
theorem val_of_wf {x:Int} {z:Bool} {o:ByteArray} (h:wf x=wi z o):wv z o=x:=by
 obtain ⟨h1,h2⟩:=wi_inj h;rw [← h1,← h2,sI_fb];unfold sI
 by_cases hx:x<0
 ·rw [decide_eq_true hx];simp;omega
 ·rw [decide_eq_false hx];simp;omega
theorem wf_wf {x:Int} {z:Bool} {o:ByteArray} (h:wf x=wi z o):wf (wv z o)=wi z o:=by rw [val_of_wf h,h]
theorem nv_neg (m:Bool) (s:ByteArray) (e:Int):-nv m s e=nv (!m) s e:=by
 unfold nv;rw [Dyadic.neg_ofIntWithPrec,wv_not]
theorem nv_of {z:Bool} {o:ByteArray} {x:Int} (e:Int) (h:wf x=wi z o):nv z o e=.ofIntWithPrec x (-e):=by
 unfold nv;rw [val_of_wf h]
theorem df_shift {m m1:Bool} {s s1:ByteArray} {e e1:Int} (n:Int) (h:df (nv m s e)=nu m1 s1 e1) :
  (nv m s e=0∧df (nv m s (e+n))=nu false ⟨#[]⟩ 0∧m1=false∧s1=⟨#[]⟩∧e1=0)∨(nv m s e≠0∧df (nv m s (e+n))=nu m1 s1 (e1+n)∧s1.toList.isEmpty=false):=by
 unfold nv at *
 by_cases hz:wv m s=0
 ·rw [hz] at h ⊢;obtain ⟨d1,d2,d3⟩:=nu_inj h;exact .inl ⟨rfl,rfl,d1.symm,d2.symm,d3.symm⟩
 ·refine .inr ?_;rw [df_of e hz] at h;obtain ⟨d1,d2,d3⟩:=nu_inj h;refine ⟨?_,?_,?_⟩
  ·unfold Dyadic.ofIntWithPrec;rw [dif_neg hz];exact Dyadic.of_ne_zero
  ·rw [df_of (e+n) hz,d1,d2,← d3]
   congr 1
   omega
  ·rw [← d2,fb_empty];obtain ⟨t,j,ht⟩:=tz_ex (n:=(wv m s).natAbs) (by omega);have htz:tz (wv m s).natAbs=t:=by rw [ht,tz_of]
   have hq:(wv m s).natAbs / 2 ^ t=2*j+1:=by rw [ht,Nat.mul_comm];exact Nat.mul_div_cancel _ (Nat.two_pow_pos t)
   rw [htz,hq];exact decide_eq_false (by omega)
theorem df_exp {m m1:Bool} {s s1:ByteArray} {e e1:Int} {k:Nat} (h:df (nv m s e)=nu m1 s1 e1) (hs:s.size≤k):(e1=0∨(e≤e1∧e1≤e+8*k))∧s1.size≤k:=by
 unfold nv at h;have ha:=wv_abs m s
 by_cases hz:wv m s=0
 ·rw [hz] at h;obtain ⟨d1,d2,d3⟩:=nu_inj h;refine ⟨.inl d3.symm,?_⟩;rw [← d2];exact Nat.zero_le _
 ·rw [df_of e hz,ha] at h;obtain ⟨d1,d2,d3⟩:=nu_inj h;have h1:=tz_size (s:=s) (k:=k) (by omega) hs;refine ⟨.inr ⟨by omega,by omega⟩,?_⟩;rw [← d2];refine fb_size_le (Nat.lt_of_le_of_lt (Nat.div_le_self _ _) ?_);exact lt_size hs
theorem ymake_any (w:World) (n:Bool) (s:ByteArray) (e:Int) (hs:s.size≤1000000) (he:-10000000000000≤e∧e≤10000000000000) (m' : Bool) (s' : ByteArray) (e' : Int) (hd:df (nv n s e)=nu m' s' e') :
  Calls Tryz.prog 43 #[wi n s,.int .i64 e] w (Ret (.agg #[.bool m',.string s',.int .i64 e']) w):=by
 obtain ⟨z,o,ez,vz,sz⟩:=form_nmw n s (k:=1000000) hs;have HZ:=Lib.hid (And.intro ez (And.intro (wf_wf ez) (show df (nv z o e)=nu m' s' e' by rw [nv_of e ez];exact hd)));clear ez vz hd;unfold wi;go_enter Tryz.func43,Tryz.ntmps43;go_wp2_with fail;obtain ⟨hA,hR,hb⟩:=iblkN w n false s ⟨#[]⟩ 0;generalize ((w.alloc (.cells #[.bool n,.string s] 23)).alloc (.cells #[.bool false,.string ⟨#[]⟩,.int .i64 0] 25))=W0 at *;refine (wform_any _ n s (by omega) z o HZ.out.1).mono ?_;rintro e W ⟨rfl,hq⟩;replace hb:=below_next hb hq;replace hR:=hR.below hq;clear hq;go_wp2_with fail;refine (made_any _ z o e HZ.out.2.1 (by omega) (by omega) m' s' e' HZ.out.2.2).mono ?_;rintro e V ⟨rfl,hq⟩;replace hb:=below_next hb hq;replace hR:=hR.below hq;clear hq;obtain ⟨hR0,hR1,hR2,hR3,hR4,hR5⟩:=hR.facts;go_wp2;exact ret_num rfl rfl (hR.set3 _ _ _) ⟨rfl,below_set3 hb (by omega) _ _ _ _ _ _⟩
theorem yform_any (w:World) (m:Bool) (s:ByteArray) (e:Int) (hs:s.size≤1000000) (he:-10000000000000≤e∧e≤10000000000000) (m' : Bool) (s' : ByteArray) (e' : Int) (hd:df (nv m s e)=nu m' s' e') :
  Calls Tryz.prog 38 #[nu m s e] w (Ret (.agg #[.bool m',.string s',.int .i64 e']) w):=by
 have HZ:=Lib.hid hd;clear hd;unfold nu;go_enter Tryz.func38,Tryz.ntmps38;go_wp2_with fail;obtain ⟨hA,hR,hb⟩:=nblk2 w m false s ⟨#[]⟩ e 0;generalize ((w.alloc (.cells #[.bool m,.string s,.int .i64 e] 25)).alloc (.cells #[.bool false,.string ⟨#[]⟩,.int .i64 0] 25))=W0 at *;refine (ymake_any _ m s e hs he m' s' e' HZ.out).mono ?_;rintro e W ⟨rfl,hq⟩;replace hb:=below_next hb hq;replace hR:=hR.below hq;clear hq;obtain ⟨hR0,hR1,hR2,hR3,hR4,hR5⟩:=hR.facts;go_wp2;exact ret_num rfl rfl (hR.set3 _ _ _) ⟨rfl,below_set3 hb (by omega) _ _ _ _ _ _⟩
theorem ysign_any (w:World) (m:Bool) (s:ByteArray) (e:Int) (hs:s.size≤1000000) (c:Int) (hc:sg (wv m s)=c) :
  Calls Tryz.prog 73 #[nu m s e] w (Ret (.int .i64 c) w):=by
 have HZ:=Lib.hid hc;clear hc;unfold nu;go_enter Tryz.func73,Tryz.ntmps73;go_wp2_with fail;obtain ⟨hA,hb⟩:=nblk1 w m s e;generalize (w.alloc (.cells #[.bool m,.string s,.int .i64 e] 25))=W0 at *;refine (wsign_any _ m s (by omega) c HZ.out).mono ?_;rintro e W ⟨rfl,hq⟩;replace hb:=below_next hb hq;clear hq;go_wp2;go_ret;exact ⟨rfl,hb⟩
theorem yneg_any (w:World) (m:Bool) (s:ByteArray) (e:Int) (hs:s.size≤1000000) (he:-10000000000000≤e∧e≤10000000000000) (m' : Bool) (s' : ByteArray) (e' : Int) (hd:df (nv (!m) s e)=nu m' s' e') :
  Calls Tryz.prog 67 #[nu m s e] w (Ret (.agg #[.bool m',.string s',.int .i64 e']) w):=by
 obtain ⟨z,o,ez,vz,sz⟩:=neg_nmw m s (k:=1000000) hs;have HZ:=Lib.hid (And.intro ez (And.intro (wf_wf ez) (show df (nv z o e)=nu m' s' e' by rw [nv_of e ez,← wv_not];exact hd)));clear ez vz hd;unfold nu;go_enter Tryz.func67,Tryz.ntmps67;go_wp2_with fail;obtain ⟨hA,hR,hb⟩:=nblk2 w m false s ⟨#[]⟩ e 0;generalize ((w.alloc (.cells #[.bool m,.string s,.int .i64 e] 25)).alloc (.cells #[.bool false,.string ⟨#[]⟩,.int .i64 0] 25))=W0 at *;have hin:=hA.drew.cells;replace hb:=hb.drew;replace hR:=hR.drew;clear hA
 go_region_held3 (fun w'=>(w'.cell? ⟨w.heap.size,0,none⟩=some (.bool m)∧w'.cell? ⟨w.heap.size,1,none⟩=some (.string s)∧w'.cell? ⟨w.heap.size,2,none⟩=some (.int .i64 e)))
  (first|assumption|exact h_n (by assumption) (by assumption)|exact a_n (by assumption)|exact s_n (by assumption) (by simp <;> omega))
  (first
   | (go_at_call 119;go_fit (wneg_any _ m s (by omega) z o HZ.out.1);rintro e V ⟨rfl,hq⟩;replace hb:=below_next hb hq;replace hR:=hR.below hq)
   | (go_at_call 105;go_fit (made_any _ z o e HZ.out.2.1 (by omega) (by omega) m' s' e' HZ.out.2.2);rintro e V ⟨rfl,hq⟩;replace hb:=below_next hb hq;replace hR:=hR.below hq;obtain ⟨_,_,_,_,_,_⟩:=hR.facts))
 go_wp2;exact ret_num rfl rfl (hR.set3 _ _ _) ⟨rfl,below_set3 hb (by omega) _ _ _ _ _ _⟩
theorem yshift_any (w:World) (m:Bool) (s:ByteArray) (e n:Int) (hs:s.size≤1000000) (he:-10000000000000≤e∧e≤10000000000000) (hn:-10000000000000≤n∧n≤10000000000000) (m' : Bool) (s' : ByteArray) (e' : Int) (hd:df (nv m s (e+n))=nu m' s' e') :
  Calls Tryz.prog 47 #[nu m s e,.int .i64 n] w (Ret (.agg #[.bool m',.string s',.int .i64 e']) w):=by
 obtain ⟨m1,s1,e1,h1⟩:=df_some (nv m s e);obtain ⟨hx,_⟩:=df_exp h1 hs;have he1:-20000000000000≤e1∧e1≤20000000000000:=by omega
 have HZ:=Lib.hid h1;have HS:=df_shift n h1;rw [hd] at HS;clear h1 hd hx
 rcases HS with ⟨_,hd,rfl,rfl,rfl⟩|⟨_,hd,hne⟩
 ·obtain ⟨rfl,rfl,rfl⟩:=nu_inj hd;clear hd;unfold nu;go_enter Tryz.func47,Tryz.ntmps47;go_wp2_with fail;obtain ⟨hA,hR,hb⟩:=nblk2 w m false s ⟨#[]⟩ e 0;generalize ((w.alloc (.cells #[.bool m,.string s,.int .i64 e] 25)).alloc (.cells #[.bool false,.string ⟨#[]⟩,.int .i64 0] 25))=W0 at *;refine (yform_any _ m s e hs he false ⟨#[]⟩ 0 HZ.out).mono ?_;rintro e W ⟨rfl,hq⟩;replace hb:=below_next hb hq;replace hR:=hR.below hq;clear hq;go_wp2_with fail;refine (moved_zero _ false 0 n ⟨#[]⟩ (by kernel_rfl)).mono ?_;rintro e V ⟨rfl,hq⟩;replace hb:=below_next hb hq;replace hR:=hR.below hq;clear hq;obtain ⟨hR0,hR1,hR2,hR3,hR4,hR5⟩:=hR.facts;go_wp2;exact ret_num rfl rfl (hR.set3 _ _ _) ⟨rfl,below_set3 hb (by omega) _ _ _ _ _ _⟩
 ·obtain ⟨rfl,rfl,rfl⟩:=nu_inj hd;clear hd;have HN:=Lib.hid hne;clear hne;unfold nu;go_enter Tryz.func47,Tryz.ntmps47;go_wp2_with fail;obtain ⟨hA,hR,hb⟩:=nblk2 w m false s ⟨#[]⟩ e 0;generalize ((w.alloc (.cells #[.bool m,.string s,.int .i64 e] 25)).alloc (.cells #[.bool false,.string ⟨#[]⟩,.int .i64 0] 25))=W0 at *;refine (yform_any _ m s e hs he m' s' e1 HZ.out).mono ?_;rintro e W ⟨rfl,hq⟩;replace hb:=below_next hb hq;replace hR:=hR.below hq;clear hq;go_wp2_with fail;refine (moved_some _ m' s' e1 n HN.out (by omega) (by omega)).mono ?_;rintro e V ⟨rfl,hq⟩;replace hb:=below_next hb hq;replace hR:=hR.below hq;clear hq;obtain ⟨hR0,hR1,hR2,hR3,hR4,hR5⟩:=hR.facts;go_wp2;exact ret_num rfl rfl (hR.set3 _ _ _) ⟨rfl,below_set3 hb (by omega) _ _ _ _ _ _⟩
theorem yfloor_any (w:World) (m:Bool) (s:ByteArray) (e p:Int) (hs:s.size≤100000) (he:-1000000≤e∧e≤1000000) (hp:-1000000≤p∧p≤1000000) (m' : Bool) (s' : ByteArray) (e' : Int) (hd:df ((nv m s e).roundDown p)=nu m' s' e') :
  Calls Tryz.prog 86 #[nu m s e,.int .i64 p] w (Ret (.agg #[.bool m',.string s',.int .i64 e']) w):=by
 have hmx:max p (-9223372036854775807)=p:=by omega
 have hw:IntKind.i64.wrap (e+p)=e+p:=by rw [IntKind.wrap_i64];omega
 have hwn:IntKind.i64.wrap (-p)=-p:=by rw [IntKind.wrap_i64];omega
 have hov:(!decide (e≤e+p) == decide (0≤p))=false:=by
  by_cases h:0≤p
  ·rw [decide_eq_true h,decide_eq_true (by omega)];rfl
  ·rw [decide_eq_false h,decide_eq_false (by omega)];rfl
 by_cases hst:0≤e+p
 ·rw [floor_self hst] at hd;have HZ:=Lib.hid hd;clear hd;unfold nu;go_enter Tryz.func86,Tryz.ntmps86;go_wp2_with fail;obtain ⟨hA,hR,hb⟩:=nblk2 w m false s ⟨#[]⟩ e 0;generalize ((w.alloc (.cells #[.bool m,.string s,.int .i64 e] 25)).alloc (.cells #[.bool false,.string ⟨#[]⟩,.int .i64 0] 25))=W0 at *;refine (yform_any _ m s e (by omega) (by omega) m' s' e' HZ.out).mono ?_;rintro e W ⟨rfl,hq⟩;replace hb:=below_next hb hq;replace hR:=hR.below hq;clear hq;obtain ⟨hR0,hR1,hR2,hR3,hR4,hR5⟩:=hR.facts;go_wp2;exact ret_num rfl rfl (hR.set3 _ _ _) ⟨rfl,below_set3 hb (by omega) _ _ _ _ _ _⟩
 ·obtain ⟨k,hk⟩:∃ k:Nat,e+p=-(k:Int):=⟨(-(e+p)).toNat,by omega⟩;rw [floor_nv k hk] at hd;obtain ⟨z,o,ez⟩:∃ z o,wf (wv m s / ((2 ^ k:Nat):Int))=wi z o:=⟨_,_,rfl⟩;have hsh:wf (shiftI (wv m s) (e+p))=wi z o:=by
   rw [← ez,hk];unfold shiftI
   by_cases hk0:k=0
   ·omega
   ·rw [if_neg (by omega),Int.neg_neg,Int.toNat_natCast]
  have hos:o.size≤1000000:=by
   obtain ⟨_,h2⟩:=wi_inj ez;rw [← h2];refine Nat.le_trans (fb_size_le (k:=s.size) ?_) (by omega);have h1:(wv m s / ((2 ^ k:Nat):Int)).natAbs≤(wv m s).natAbs:=Int.natAbs_ediv_le_natAbs _ _;have h4:=wv_abs m s;have h5:=num_lt s;omega
  have hd2:df (nv z o (-p))=nu m' s' e':=by rw [nv_of _ ez,Int.neg_neg];exact hd
  have HZ:=Lib.hid (And.intro hsh (And.intro (wf_wf ez) (And.intro hd2 hk)));clear hsh ez hd hd2 hk;unfold nu;go_enter Tryz.func86,Tryz.ntmps86;go_wp2_with fail;obtain ⟨hA,hR,hb⟩:=nblk2 w m false s ⟨#[]⟩ e 0;generalize ((w.alloc (.cells #[.bool m,.string s,.int .i64 e] 25)).alloc (.cells #[.bool false,.string ⟨#[]⟩,.int .i64 0] 25))=W0 at *;refine (wshift_any _ m s (e+p) (by omega) (by omega) (by omega) z o HZ.out.1).mono ?_;rintro e W ⟨rfl,hq⟩;replace hb:=below_next hb hq;replace hR:=hR.below hq;clear hq;go_wp2_with fail;refine (made_any _ z o (-p) HZ.out.2.1 (by omega) (by omega) m' s' e' HZ.out.2.2.1).mono ?_;rintro e V ⟨rfl,hq⟩;replace hb:=below_next hb hq;replace hR:=hR.below hq;clear hq;obtain ⟨hR0,hR1,hR2,hR3,hR4,hR5⟩:=hR.facts;go_wp2;exact ret_num rfl rfl (hR.set3 _ _ _) ⟨rfl,below_set3 hb (by omega) _ _ _ _ _ _⟩
theorem floor_size {m m1:Bool} {s s1:ByteArray} {e p e1:Int} (hd:df ((nv m s e).roundDown p)=nu m1 s1 e1) (hs:s.size≤100000):s1.size≤100000:=by
 by_cases hst:0≤e+p
 ·rw [floor_self hst] at hd;exact (df_exp hd hs).2
 ·obtain ⟨k,hk⟩:∃ k:Nat,e+p=-(k:Int):=⟨(-(e+p)).toNat,by omega⟩;rw [floor_nv k hk] at hd;obtain ⟨z,o,ez⟩:∃ z o,wf (wv m s / ((2 ^ k:Nat):Int))=wi z o:=⟨_,_,rfl⟩;have hos:o.size≤100000:=by
   obtain ⟨_,h2⟩:=wi_inj ez;rw [← h2];refine Nat.le_trans (fb_size_le (k:=s.size) ?_) (by omega);have h1:(wv m s / ((2 ^ k:Nat):Int)).natAbs≤(wv m s).natAbs:=Int.natAbs_ediv_le_natAbs _ _;have h4:=wv_abs m s;have h5:=num_lt s;omega
  have hd2:df (nv z o (-p))=nu m1 s1 e1:=by rw [nv_of _ ez,Int.neg_neg];exact hd
  exact (df_exp hd2 hos).2
theorem yceil_any (w:World) (m:Bool) (s:ByteArray) (e p:Int) (hs:s.size≤100000) (he:-1000000≤e∧e≤1000000) (hp:-1000000≤p∧p≤1000000) (m1:Bool) (s1:ByteArray) (e1:Int) (hf:df ((nv (!m) s e).roundDown p)=nu m1 s1 e1) (c:Int) (hc:sg (wv m1 s1)=c) :
  Calls Tryz.prog 87 #[nu m s e,.int .i64 p] w (Ret (.agg #[.bool (decide (0<c)),.string s1,.int .i64 e1]) w):=by
 have hs1:=floor_size hf hs;have HZ:=Lib.hid hf;clear hf;unfold nu;go_enter Tryz.func87,Tryz.ntmps87;go_wp2_with fail;obtain ⟨hA,hR,hb⟩:=nblk2 w (!m) false s ⟨#[]⟩ e 0;generalize ((w.alloc (.cells #[.bool !m,.string s,.int .i64 e] 25)).alloc (.cells #[.bool false,.string ⟨#[]⟩,.int .i64 0] 25))=W0 at *;refine (yfloor_any _ (!m) s e p (by omega) (by omega) (by omega) m1 s1 e1 HZ.out).mono ?_;rintro e W ⟨rfl,hq⟩;replace hb:=below_next hb hq;replace hR:=hR.below hq;clear hq;go_wp2_with fail;have hbs:=hb.size;have hRl:=hR.lt;obtain ⟨hU,hb2⟩:=nblkN hb (by omega) m1 s1 e1;replace hR:=hR.alloc (.cells #[.bool m1,.string s1,.int .i64 e1] 25);clear hb hA;have hb:=hb2;clear hb2;generalize hU0:(W.alloc (.cells #[.bool m1,.string s1,.int .i64 e1] 25))=U at *;have hUs:U.heap.size=W.heap.size+1:=by rw [← hU0,World.size_alloc]
 clear hU0;generalize W.heap.size=B at *;refine (ysign_any _ m1 s1 e1 (by omega) c hc).mono ?_;rintro e V ⟨rfl,hq⟩;replace hb:=below_next hb hq;replace hR:=hR.below hq;replace hU:=hU.below hq;clear hq;obtain ⟨hU0,hU1,hU2,hU3,hU4,hU5⟩:=hU.facts;obtain ⟨hR0,hR1,hR2,hR3,hR4,hR5⟩:=hR.facts;go_wp2_with fail;exact ret_num rfl rfl ((hR.far (show w.heap.size+1≠B by omega) _).set3 _ _ _) ⟨rfl,below_set3 (hb.setCell (show w.heap.size≤B by omega) _) (by omega) _ _ _ _ _ _⟩
end Go.Proofs.YteofihmlgiepfaaGreatDoor
