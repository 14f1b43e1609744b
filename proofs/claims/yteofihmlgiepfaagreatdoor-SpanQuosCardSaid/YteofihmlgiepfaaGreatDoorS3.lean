/- Package span: Form, Neg, Has, Within; walked. -/
import Derived.Test.YteofihmlgiepfaaGreatDoorHE
import Derived.Test.YteofihmlgiepfaaGreatDoorY17
namespace Go.Proofs.YteofihmlgiepfaaGreatDoor
set_option maxRecDepth 100000
set_option maxHeartbeats 1600000
open Go.RowKit Go.Shelf
def Ok2 (s:ByteArray) (d:Int):Prop:=s.size≤400∧-3000≤d∧d≤3000
theorem Ok2.ok3 {s:ByteArray} {d:Int} (h:Ok2 s d):Ok3 s d:=by unfold Ok2 at h;unfold Ok3;omega
theorem Ok2.form {m:Bool} {s:ByteArray} {d:Int} (h:Ok2 s d) {z:Bool} {o:ByteArray} {e:Int} (hd:df (nv m s d)=nu z o e):Ok3 o e:=by
 unfold Ok2 at h
 have:=df_exp hd h.1
 unfold Ok3;omega
theorem low_form {x y:Dyadic} {z1 z2 z3 z4:Bool} {o1 o2 o3 o4:ByteArray} {e1 e2 e3 e4:Int} (k1:df x=nu z1 o1 e1) (k2:df y=nu z2 o2 e2) (h3:df (dlo x y)=nu z3 o3 e3) (h4:df (dhi x y)=nu z4 o4 e4) :
  lowN (z1,o1,e1) (z2,o2,e2)=(z3,o3,e3)∧highN (z1,o1,e1) (z2,o2,e2)=(z4,o4,e4):=by
 have v1:nvl (z1,o1,e1)=x:=form_nv k1;have v2:nvl (z2,o2,e2)=y:=form_nv k2;unfold lowN highN;unfold dlo at h3;unfold dhi at h4;rw [v1,v2]
 by_cases h:0<dsg (x-y)
 ·rw [if_pos h] at h3 h4;rw [if_pos h,if_pos h];rw [k2] at h3;rw [k1] at h4;obtain ⟨a1,a2,a3⟩:=nu_inj h3;obtain ⟨b1,b2,b3⟩:=nu_inj h4;rw [a1,a2,a3,b1,b2,b3];exact ⟨rfl,rfl⟩
 ·rw [if_neg h] at h3 h4;rw [if_neg h,if_neg h];rw [k1] at h3;rw [k2] at h4;obtain ⟨a1,a2,a3⟩:=nu_inj h3;obtain ⟨b1,b2,b3⟩:=nu_inj h4;rw [a1,a2,a3,b1,b2,b3];exact ⟨rfl,rfl⟩
theorem low_some (x y:NV):∃ z o e,lowN x y=(z,o,e):=⟨_,_,_,rfl⟩
theorem high_some (x y:NV):∃ z o e,highN x y=(z,o,e):=⟨_,_,_,rfl⟩
theorem low_nv {x y:NV} {z:Bool} {o:ByteArray} {e:Int} (h:lowN x y=(z,o,e)):nv z o e=dlo (nvl x) (nvl y):=by rw [← lowN_val,h];rfl
theorem high_nv {x y:NV} {z:Bool} {o:ByteArray} {e:Int} (h:highN x y=(z,o,e)):nv z o e=dhi (nvl x) (nvl y):=by rw [← highN_val,h];rfl
theorem low_ok {x y:NV} {z:Bool} {o:ByteArray} {e:Int} (h:lowN x y=(z,o,e)) (h1:Ok3 x.2.1 x.2.2) (h2:Ok3 y.2.1 y.2.2):Ok3 o e:=by
 have:=Ok3.of_pick (lowN_pick x y) h1 h2
 rw [h] at this;exact this
theorem high_ok {x y:NV} {z:Bool} {o:ByteArray} {e:Int} (h:highN x y=(z,o,e)) (h1:Ok3 x.2.1 x.2.2) (h2:Ok3 y.2.1 y.2.2):Ok3 o e:=by
 have:=Ok3.of_pick (highN_pick x y) h1 h2
 rw [h] at this;exact this
theorem low_ok2 {x y:NV} {z:Bool} {o:ByteArray} {e:Int} (h:lowN x y=(z,o,e)) (h1:Ok2 x.2.1 x.2.2) (h2:Ok2 y.2.1 y.2.2):Ok2 o e:=by
 rcases lowN_pick x y with k|k
 ·rw [← k,h] at h1;exact h1
 ·rw [← k,h] at h2;exact h2
theorem high_ok2 {x y:NV} {z:Bool} {o:ByteArray} {e:Int} (h:highN x y=(z,o,e)) (h1:Ok2 x.2.1 x.2.2) (h2:Ok2 y.2.1 y.2.2):Ok2 o e:=by
 rcases highN_pick x y with k|k
 ·rw [← k,h] at h1;exact h1
 ·rw [← k,h] at h2;exact h2
theorem goes_neg (aa:Array Value) (W:World):Sem.run Tryz.prog (callFunc 67 aa) W=.ok (.enter 67 aa) W:=by kernel_rfl
theorem sform_any (w:World) (m:Bool) (s:ByteArray) (d:Int) (n:Bool) (t:ByteArray) (e:Int) (ok1:Ok2 s d) (ok2:Ok2 t e) (z3:Bool) (o3:ByteArray) (e3:Int) (z4:Bool) (o4:ByteArray) (e4:Int) (h3:df (dlo (nv m s d) (nv n t e))=nu z3 o3 e3) (h4:df (dhi (nv m s d) (nv n t e))=nu z4 o4 e4) :
  Calls Tryz.prog 51 #[.agg #[.bool m,.string s,.int .i64 d,.bool n,.string t,.int .i64 e]] w (Ret (.agg #[.bool z3,.string o3,.int .i64 e3,.bool z4,.string o4,.int .i64 e4]) w):=by
 obtain ⟨z1,o1,e1,k1⟩:=df_some (nv m s d);obtain ⟨z2,o2,e2,k2⟩:=df_some (nv n t e);have p1:=ok1.form k1;have p2:=ok2.form k2;obtain ⟨hl,hh⟩:=low_form k1 k2 h3 h4;unfold Ok2 at ok1 ok2;have HC:=Lib.hid (And.intro k1 (And.intro k2 (And.intro p1 (And.intro p2 (And.intro hl hh)))));clear k1 k2 p1 p2 hl hh h3 h4;go_enter Tryz.func51,Tryz.ntmps51;go_wp2_with fail;have hA:=Sk.new w 27 m s d n t e;have hb:=(Below.refl w.heap.size w).alloc (Nat.le_refl _) (.cells #[.bool m,.string s,.int .i64 d,.bool n,.string t,.int .i64 e] 27);have hR:=Sk.new ((w.alloc (.cells #[.bool m,.string s,.int .i64 d,.bool n,.string t,.int .i64 e] 27))) 27 false ⟨#[]⟩ 0 false ⟨#[]⟩ 0;simp only [World.size_alloc] at hR;replace hA:=hA.alloc (.cells #[.bool false,.string ⟨#[]⟩,.int .i64 0,.bool false,.string ⟨#[]⟩,.int .i64 0] 27);replace hb:=hb.alloc (by simp only [World.size_alloc];omega) (.cells #[.bool false,.string ⟨#[]⟩,.int .i64 0,.bool false,.string ⟨#[]⟩,.int .i64 0] 27);generalize ((w.alloc (.cells #[.bool m,.string s,.int .i64 d,.bool n,.string t,.int .i64 e] 27)).alloc (.cells #[.bool false,.string ⟨#[]⟩,.int .i64 0,.bool false,.string ⟨#[]⟩,.int .i64 0] 27))=W0 at *;refine (both_any _ 38 goes_form m s d n t e z1 o1 e1 z2 o2 e2 (fun W=>yform_any W m s d (by omega) (by omega) z1 o1 e1 HC.out.1) (fun W=>yform_any W n t e (by omega) (by omega) z2 o2 e2 HC.out.2.1) HC.out.2.2.1 HC.out.2.2.2.1 z3 o3 e3 z4 o4 e4 HC.out.2.2.2.2.1 HC.out.2.2.2.2.2).mono ?_;rintro e' W ⟨rfl,hq⟩;replace hb:=below_next hb hq
 replace hR:=hR.below hq;clear hq;obtain ⟨hR0,hR1,hR2,hR3,hR4,hR5,hR6,hR7,hR8,hR9,hR10,hR11⟩:=hR.facts;go_wp2;exact ret_span rfl rfl (hR.set6 _ _ _ _ _ _) ⟨rfl,below_set6 hb (by omega) _ _ _ _ _ _⟩
theorem sneg_any (w:World) (m:Bool) (s:ByteArray) (d:Int) (n:Bool) (t:ByteArray) (e:Int) (ok1:Ok2 s d) (ok2:Ok2 t e) (z3:Bool) (o3:ByteArray) (e3:Int) (z4:Bool) (o4:ByteArray) (e4:Int) (h3:df (dlo (nv (!m) s d) (nv (!n) t e))=nu z3 o3 e3) (h4:df (dhi (nv (!m) s d) (nv (!n) t e))=nu z4 o4 e4) :
  Calls Tryz.prog 19 #[.agg #[.bool m,.string s,.int .i64 d,.bool n,.string t,.int .i64 e]] w (Ret (.agg #[.bool z3,.string o3,.int .i64 e3,.bool z4,.string o4,.int .i64 e4]) w):=by
 obtain ⟨z1,o1,e1,k1⟩:=df_some (nv (!m) s d);obtain ⟨z2,o2,e2,k2⟩:=df_some (nv (!n) t e);have p1:=ok1.form k1;have p2:=ok2.form k2;obtain ⟨hl,hh⟩:=low_form k1 k2 h3 h4;unfold Ok2 at ok1 ok2;have HC:=Lib.hid (And.intro k1 (And.intro k2 (And.intro p1 (And.intro p2 (And.intro hl hh)))));clear k1 k2 p1 p2 hl hh h3 h4;go_enter Tryz.func19,Tryz.ntmps19;go_wp2_with fail;have hA:=Sk.new w 27 m s d n t e;have hb:=(Below.refl w.heap.size w).alloc (Nat.le_refl _) (.cells #[.bool m,.string s,.int .i64 d,.bool n,.string t,.int .i64 e] 27);have hR:=Sk.new ((w.alloc (.cells #[.bool m,.string s,.int .i64 d,.bool n,.string t,.int .i64 e] 27))) 27 false ⟨#[]⟩ 0 false ⟨#[]⟩ 0;simp only [World.size_alloc] at hR;replace hA:=hA.alloc (.cells #[.bool false,.string ⟨#[]⟩,.int .i64 0,.bool false,.string ⟨#[]⟩,.int .i64 0] 27);replace hb:=hb.alloc (by simp only [World.size_alloc];omega) (.cells #[.bool false,.string ⟨#[]⟩,.int .i64 0,.bool false,.string ⟨#[]⟩,.int .i64 0] 27);generalize ((w.alloc (.cells #[.bool m,.string s,.int .i64 d,.bool n,.string t,.int .i64 e] 27)).alloc (.cells #[.bool false,.string ⟨#[]⟩,.int .i64 0,.bool false,.string ⟨#[]⟩,.int .i64 0] 27))=W0 at *;refine (both_any _ 67 goes_neg m s d n t e z1 o1 e1 z2 o2 e2 (fun W=>yneg_any W m s d (by omega) (by omega) z1 o1 e1 HC.out.1) (fun W=>yneg_any W n t e (by omega) (by omega) z2 o2 e2 HC.out.2.1) HC.out.2.2.1 HC.out.2.2.2.1 z3 o3 e3 z4 o4 e4 HC.out.2.2.2.2.1 HC.out.2.2.2.2.2).mono ?_;rintro e' W ⟨rfl,hq⟩
 replace hb:=below_next hb hq;replace hR:=hR.below hq;clear hq;obtain ⟨hR0,hR1,hR2,hR3,hR4,hR5,hR6,hR7,hR8,hR9,hR10,hR11⟩:=hR.facts;go_wp2;exact ret_span rfl rfl (hR.set6 _ _ _ _ _ _) ⟨rfl,below_set6 hb (by omega) _ _ _ _ _ _⟩
theorem shas_any (w:World) (m:Bool) (s:ByteArray) (d:Int) (n:Bool) (t:ByteArray) (e:Int) (p:Bool) (u:ByteArray) (f:Int) (ok1:Ok3 s d) (ok2:Ok3 t e) (ok3:Ok3 u f) (r:Bool) (hr:hasD (dlo (nv m s d) (nv n t e)) (dhi (nv m s d) (nv n t e)) (nv p u f)=r) :
  Calls Tryz.prog 52 #[.agg #[.bool m,.string s,.int .i64 d,.bool n,.string t,.int .i64 e],.agg #[.bool p,.string u,.int .i64 f]] w (Ret (.bool r) w):=by
 obtain ⟨z1,o1,e1,l1⟩:=low_some (m,s,d) (n,t,e);obtain ⟨z2,o2,e2,l2⟩:=high_some (m,s,d) (n,t,e);have p1:=low_ok l1 ok1 ok2;have p2:=high_ok l2 ok1 ok2;have hr2:hasD (nv z1 o1 e1) (nv z2 o2 e2) (nv p u f)=r:=by rw [low_nv l1,high_nv l2];exact hr
 have HC:=Lib.hid (And.intro ok1 (And.intro ok2 (And.intro ok3 (And.intro l1 (And.intro l2 (And.intro p1 (And.intro p2 hr2)))))));clear ok1 ok2 ok3 l1 l2 p1 p2 hr hr2;go_enter Tryz.func52,Tryz.ntmps52;go_wp2_with fail;have hA:=Sk.new w 27 m s d n t e;have hb:=(Below.refl w.heap.size w).alloc (Nat.le_refl _) (.cells #[.bool m,.string s,.int .i64 d,.bool n,.string t,.int .i64 e] 27);have hB:=Nk.new ((w.alloc (.cells #[.bool m,.string s,.int .i64 d,.bool n,.string t,.int .i64 e] 27))) p u f;simp only [World.size_alloc] at hB;replace hA:=hA.alloc (.cells #[.bool p,.string u,.int .i64 f] 25);replace hb:=hb.alloc (by simp only [World.size_alloc];omega) (.cells #[.bool p,.string u,.int .i64 f] 25);generalize ((w.alloc (.cells #[.bool m,.string s,.int .i64 d,.bool n,.string t,.int .i64 e] 27)).alloc (.cells #[.bool p,.string u,.int .i64 f] 25))=W0 at *;refine region_segs (n:=5) #[false,false,false,false,false] (by kernel_rfl) (by kernel_rfl) (by kernel_rfl) ?_;intro fu hf
 refine ls 5 [0,1,2,3,4] 4 (fun L ac Wn=>∃ l0 l1 l2 l3:Bool,L=#[l0,l1,l2,l3,false]∧ac={tmps:=#[.agg #[.bool m,.string s,.int .i64 d,.bool n,.string t,.int .i64 e],.agg #[.bool p,.string u,.int .i64 f],.pointer (some ⟨w.heap.size,0,none⟩),.pointer (some ⟨w.heap.size+1,0,none⟩),.bool false,sel l0 (.agg #[.bool m,.string s,.int .i64 d,.bool n,.string t,.int .i64 e]) (undef),sel l1 (.agg #[.bool z1,.string o1,.int .i64 e1,.bool z2,.string o2,.int .i64 e2]) (undef),sel l2 (.agg #[.bool p,.string u,.int .i64 f]) (undef),sel l3 (.bool r) (undef)],defers:=[] }∧Below (w.heap.size) w Wn∧(Sk Wn (w.heap.size) 27 m s d n t e)∧(Nk Wn (w.heap.size+1) p u f)) hf ?_ ?_ ?_ ?_
 ·exact ⟨false,false,false,false,by kernel_rfl,by kernel_rfl,hb.drew,hA.drew,hB.drew⟩
 ·rintro L ac Wn ⟨l0,l1,l2,l3,rfl,_⟩
  kernel_rfl
 ·refine (seg_all (b:=4) [0,1,2,3] ?_:∀ j∈[0,1,2,3,4],j≠4→_);refine lc [] [1,3] ?_ ?_
  ·rintro L ac Wn ⟨l0,l1,l2,l3,rfl,hI⟩ rfl - ⟨rfl,rfl,-⟩ Kc hK;simp only [sel_f] at hI;obtain ⟨rfl,hb,hA,hB⟩:=hI;obtain ⟨q0,q1,q2,q3,q4,q5,q6,q7,q8,q9,q10,q11⟩:=(hA).facts;refine ly (.agg #[.bool m,.string s,.int .i64 d,.bool n,.string t,.int .i64 e]) ?_;exact hK.out _ _ ⟨true,false,l2,false,by kernel_rfl,by kernel_rfl,hb,hA,hB⟩
  refine lc [0] [3] ?_ ?_
  ·rintro L ac Wn ⟨l0,l1,l2,l3,rfl,hI⟩ rfl ⟨rfl,-⟩ ⟨rfl,-⟩ Kc hK;simp only [sel_t,sel_f] at hI;obtain ⟨rfl,hb,hA,hB⟩:=hI;go_simp;go_fit (turn_any _ (m,s,d) (n,t,e) HC.out.1 HC.out.2.1 (z1,o1,e1) (z2,o2,e2) HC.out.2.2.2.1 HC.out.2.2.2.2.1);rintro e V ⟨rfl,hq⟩;exact hK.out _ _ ⟨true,true,l2,false,by kernel_rfl,by kernel_rfl,(below_next hb hq),(hA.below hq),(hB.below hq)⟩
  refine lc [] [3] ?_ ?_
  ·rintro L ac Wn ⟨l0,l1,l2,l3,rfl,hI⟩ rfl - ⟨rfl,-⟩ Kc hK;simp only [sel_f] at hI;obtain ⟨rfl,hb,hA,hB⟩:=hI;obtain ⟨q0,q1,q2,q3,q4,q5⟩:=(hB).facts;refine ly (.agg #[.bool p,.string u,.int .i64 f]) ?_;exact hK.out _ _ ⟨l0,l1,true,false,by kernel_rfl,by kernel_rfl,hb,hA,hB⟩
  refine ln [0,1,2] [] ?_;rintro L ac Wn ⟨l0,l1,l2,l3,rfl,hI⟩ rfl ⟨rfl,rfl,rfl,-⟩ - Kc hK;simp only [sel_t,sel_f] at hI;obtain ⟨rfl,hb,hA,hB⟩:=hI;go_simp;go_fit (has_any _ (z1,o1,e1) (z2,o2,e2) (p,u,f) HC.out.2.2.2.2.2.1 HC.out.2.2.2.2.2.2.1 HC.out.2.2.1 r HC.out.2.2.2.2.2.2.2);rintro e V ⟨rfl,hq⟩;exact hK.out _ _ ⟨true,true,true,true,by kernel_rfl,by kernel_rfl,(below_next hb hq),(hA.below hq),(hB.below hq)⟩
 refine bo [0,1,2,3] ?_;rintro L ac Wn ⟨l0,l1,l2,l3,rfl,hI⟩ ⟨rfl,rfl,rfl,rfl,-⟩ Kc hK;simp only [sel_t] at hI;obtain ⟨rfl,hb,hA,hB⟩:=hI;refine ly (.bool r) ?_;refine hK.out _ _ (fun fu hf=>wpAnyH_done (by kernel_rfl) ?_ _);clear hK Kc hf;go_wp2;go_ret;exact ⟨rfl,hb⟩
end Go.Proofs.YteofihmlgiepfaaGreatDoor
