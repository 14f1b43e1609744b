/- Package span: Width, Mid, Of; walked. -/
import Derived.Test.YtbijggomdpaknaaGreatDoorS3
import Derived.Test.YtbijggomdpaknaaGreatDoorHC
import Derived.Test.YtbijggomdpaknaaGreatDoorYFormsL
namespace Go.Proofs.YtbijggomdpaknaaGreatDoor
set_option maxRecDepth 100000
set_option maxHeartbeats 1600000
open Go.RowKit Go.Shelf
def dabs (x:Dyadic):Dyadic:=if dsg x<0 then -x else x
theorem abs_form {x:Dyadic} {z:Bool} {o:ByteArray} {e:Int} (k:df x=nu z o e):nv false o e=dabs x:=by
 have v:=form_nv k;unfold dabs;rw [← v,sgn_nv]
 by_cases h:sg (wv z o)<0
 ·rw [if_pos h,← size_neg h,nv_neg]
 ·rw [if_neg h,← size_pos h]
def dhalf (x:Dyadic):Dyadic:=x*.ofIntWithPrec 1 1
theorem nv_halved (z:Bool) (o:ByteArray) (e:Int):nv z o (e+-1)=dhalf (nv z o e):=by
 unfold dhalf;rw [← Dyadic.toRat_inj,Dyadic.toRat_mul,nv_toRat,nv_toRat,ofI_toRat,Rat.zpow_add (by decide)];rw [show ((1:Int):Rat)=1 from rfl]
 grind
theorem swidth_any (w:World) (m:Bool) (s:ByteArray) (d:Int) (n:Bool) (t:ByteArray) (e:Int) (ok1:Ok3 s d) (ok2:Ok3 t e) (z3:Bool) (o3:ByteArray) (e3:Int) (h3:df (dabs (nv n t e-nv m s d))=nu z3 o3 e3) :
  Calls Tryz.prog 62 #[.agg #[.bool m,.string s,.int .i64 d,.bool n,.string t,.int .i64 e]] w (Ret (.agg #[.bool z3,.string o3,.int .i64 e3]) w):=by
 obtain ⟨z1,o1,e1,k1⟩:=df_some (nv n t e-nv m s d);rw [← abs_form k1] at h3;have hs1:o1.size≤1000000∧-1000000≤e1∧e1≤1000000:=by
  unfold Ok3 at ok1 ok2;have b1:Bnd (nv n t e) 4000 10000:=Bnd.of (B:=1000) (K:=3000) 10000 ok2.1 (by omega) (by omega);have b2:Bnd (nv m s d) 4000 10000:=Bnd.of (B:=1000) (K:=3000) 10000 ok1.1 (by omega) (by omega)
  have:=(b1.add b2.neg).form (by rw [← dy_sub];exact k1)
  omega
 have HC:=Lib.hid (And.intro ok1 (And.intro ok2 (And.intro k1 h3)));clear ok1 ok2 k1 h3;go_enter Tryz.func62,Tryz.ntmps62;go_wp2_with fail;have hA:=Sk.new w 41 m s d n t e;have hb:=(Below.refl w.heap.size w).alloc (Nat.le_refl _) (.cells #[.bool m,.string s,.int .i64 d,.bool n,.string t,.int .i64 e] 41);have hR:=Nk.new ((w.alloc (.cells #[.bool m,.string s,.int .i64 d,.bool n,.string t,.int .i64 e] 41))) false ⟨#[]⟩ 0;simp only [World.size_alloc] at hR;replace hA:=hA.alloc (.cells #[.bool false,.string ⟨#[]⟩,.int .i64 0] 36);replace hb:=hb.alloc (by simp only [World.size_alloc];omega) (.cells #[.bool false,.string ⟨#[]⟩,.int .i64 0] 36);generalize ((w.alloc (.cells #[.bool m,.string s,.int .i64 d,.bool n,.string t,.int .i64 e] 41)).alloc (.cells #[.bool false,.string ⟨#[]⟩,.int .i64 0] 36))=W0 at *;refine (use_ysub HC.out.2.1 HC.out.1 HC.out.2.2.1).mono ?_;rintro e' W ⟨rfl,hq⟩;replace hb:=below_next hb hq;replace hR:=hR.below hq;clear hq;go_wp2_with fail;refine (yabs_any _ z1 o1 e1 (by omega) (by omega) z3 o3 e3 HC.out.2.2.2).mono ?_;rintro e' W ⟨rfl,hq⟩;replace hb:=below_next hb hq;replace hR:=hR.below hq;clear hq;obtain ⟨hR0,hR1,hR2,hR3,hR4,hR5⟩:=hR.facts;go_wp2;exact ret_num rfl rfl (hR.set3 _ _ _) ⟨rfl,below_set3 hb (by omega) _ _ _ _ _ _⟩
theorem smid_any (w:World) (m:Bool) (s:ByteArray) (d:Int) (n:Bool) (t:ByteArray) (e:Int) (ok1:Ok3 s d) (ok2:Ok3 t e) (z3:Bool) (o3:ByteArray) (e3:Int) (h3:df (dhalf (nv m s d+nv n t e))=nu z3 o3 e3) :
  Calls Tryz.prog 58 #[.agg #[.bool m,.string s,.int .i64 d,.bool n,.string t,.int .i64 e]] w (Ret (.agg #[.bool z3,.string o3,.int .i64 e3]) w):=by
 obtain ⟨z1,o1,e1,k1⟩:=df_some (nv m s d+nv n t e);have v1:=form_nv k1;rw [← v1,← nv_halved] at h3;clear v1;have hs1:o1.size≤1000000∧-1000000≤e1∧e1≤1000000:=by
  unfold Ok3 at ok1 ok2;have b1:Bnd (nv n t e) 4000 10000:=Bnd.of (B:=1000) (K:=3000) 10000 ok2.1 (by omega) (by omega);have b2:Bnd (nv m s d) 4000 10000:=Bnd.of (B:=1000) (K:=3000) 10000 ok1.1 (by omega) (by omega)
  have:=(b2.add b1).form k1
  omega
 have HC:=Lib.hid (And.intro ok1 (And.intro ok2 (And.intro k1 h3)));clear ok1 ok2 k1 h3;go_enter Tryz.func58,Tryz.ntmps58;go_wp2_with fail;have hA:=Sk.new w 41 m s d n t e;have hb:=(Below.refl w.heap.size w).alloc (Nat.le_refl _) (.cells #[.bool m,.string s,.int .i64 d,.bool n,.string t,.int .i64 e] 41);have hR:=Nk.new ((w.alloc (.cells #[.bool m,.string s,.int .i64 d,.bool n,.string t,.int .i64 e] 41))) false ⟨#[]⟩ 0;simp only [World.size_alloc] at hR;replace hA:=hA.alloc (.cells #[.bool false,.string ⟨#[]⟩,.int .i64 0] 36);replace hb:=hb.alloc (by simp only [World.size_alloc];omega) (.cells #[.bool false,.string ⟨#[]⟩,.int .i64 0] 36);have hrow:=NAt.new ((w.alloc (.cells #[.bool m,.string s,.int .i64 d,.bool n,.string t,.int .i64 e] 41)).alloc (.cells #[.bool false,.string ⟨#[]⟩,.int .i64 0] 36)) 36 [(m,s,d),(n,t,e)] #[.bool m,.string s,.int .i64 d,.bool n,.string t,.int .i64 e] rfl;simp only [World.size_alloc] at hrow;replace hR:=hR.alloc (.cells #[.bool m,.string s,.int .i64 d,.bool n,.string t,.int .i64 e] 36);replace hb:=hb.alloc (by simp only [World.size_alloc];omega) (.cells #[.bool m,.string s,.int .i64 d,.bool n,.string t,.int .i64 e] 36);clear hA;generalize (((w.alloc (.cells #[.bool m,.string s,.int .i64 d,.bool n,.string t,.int .i64 e] 41)).alloc (.cells #[.bool false,.string ⟨#[]⟩,.int .i64 0] 36)).alloc (.cells #[.bool m,.string s,.int .i64 d,.bool n,.string t,.int .i64 e] 36))=W0 at *;refine (use_yadd2 HC.out.1 HC.out.2.1 hrow HC.out.2.2.1).mono ?_
 rintro e' W ⟨rfl,hq⟩;replace hb:=below_next hb hq;replace hR:=hR.below hq;clear hq;clear hrow;go_wp2_with fail;refine (yshift_any _ z1 o1 e1 (-1) (by omega) (by omega) (by omega) z3 o3 e3 HC.out.2.2.2).mono ?_;rintro e' W ⟨rfl,hq⟩;replace hb:=below_next hb hq;replace hR:=hR.below hq;clear hq;obtain ⟨hR0,hR1,hR2,hR3,hR4,hR5⟩:=hR.facts;go_wp2;exact ret_num rfl rfl (hR.set3 _ _ _) ⟨rfl,below_set3 hb (by omega) _ _ _ _ _ _⟩
end Go.Proofs.YtbijggomdpaknaaGreatDoor
