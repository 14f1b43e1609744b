/- Package dyad: Min, Max; walked. -/
import Derived.Test.YtbijggomdpaknaaGreatDoorY16
namespace Go.Proofs.YtbijggomdpaknaaGreatDoor
set_option maxRecDepth 100000
set_option maxHeartbeats 1600000
open Go.RowKit Go.Shelf
theorem yfar_any (w:World) (side:Int) (hsd:side=-1∨side=1) (ad:Option Addr) (l:List NV) (n c:Nat) (hn:l.length=n) (hmax:n≤250) (hl:NAt w ad l) (hs:∀ x∈l,x.2.1.size≤50000∧-100000≤x.2.2∧x.2.2≤100000) (m' : Bool) (s' : ByteArray) (e' : Int) (hd:df (farD side l n)=nu m' s' e') :
  Calls Tryz.prog 76 #[.int .i64 side,.slice ad n c] w (Ret (.agg #[.bool m',.string s',.int .i64 e']) w):=by
 have hP:=Rw.new w 3 [.int .i64 side];have hR:=(Nk.new (w.alloc (.cells #[.int .i64 side] 3)) false ⟨#[]⟩ 0);have hb:=((Below.refl w.heap.size w).alloc (Nat.le_refl _) (.cells #[.int .i64 side] 3)).alloc (by rw [World.size_alloc];omega) (.cells #[.bool false,.string ⟨#[]⟩,.int .i64 0] 36);rw [World.size_alloc] at hR
 by_cases hn0:n=0
 ·subst hn0;obtain ⟨rfl,rfl,rfl⟩:=nu_inj (show nu false ⟨#[]⟩ 0=nu m' s' e' by rw [← hd];rfl);clear hd hP;go_enter Tryz.func76,Tryz.ntmps76;go_wp2;exact ret_num rfl rfl hR ⟨rfl,hb⟩
 ·have hn0b:((n:Int) == 0)=false:=by rw [beq_eq_false_iff_ne];omega
  have HD:=Lib.hid (And.intro hn hd);replace hP:=hP.alloc (.cells #[.bool false,.string ⟨#[]⟩,.int .i64 0] 36);have hl2:=(hl.alloc (.cells #[.int .i64 side] 3)).alloc (.cells #[.bool false,.string ⟨#[]⟩,.int .i64 0] 36);clear hn hd;go_enter Tryz.func76,Tryz.ntmps76;go_wp2_with fail;generalize ((w.alloc (.cells #[.int .i64 side] 3)).alloc (.cells #[.bool false,.string ⟨#[]⟩,.int .i64 0] 36))=W0 at *;refine (maxfunc_any W0 w.heap.size side hsd hP ad l n c HD.out.1 hmax (by omega) hl2 hs).mono ?_;rintro e1 W ⟨⟨m,s,d,rfl,hv,hmem⟩,hq⟩;replace hb:=below_next hb hq;replace hR:=hR.below hq;have hss:=hs _ hmem;simp only at hss;have HV:=Lib.hid (show df (nv m s d)=nu m' s' e' by rw [hv];exact HD.out.2);clear hq hl2 hP hv hmem;go_wp2_with fail;refine (yform_any _ m s d (by omega) (by omega) m' s' e' HV.out).mono ?_;rintro e2 V ⟨rfl,hq⟩;replace hb:=below_next hb hq;replace hR:=hR.below hq;clear hq;obtain ⟨hR0,hR1,hR2,hR3,hR4,hR5⟩:=hR.facts;go_wp2;exact ret_num rfl rfl (hR.set3 _ _ _) ⟨rfl,below_set3 hb (by omega) _ _ _ _ _ _⟩
theorem ymax_any (w:World) (ad:Option Addr) (l:List NV) (n c:Nat) (hn:l.length=n) (hmax:n≤250) (hl:NAt w ad l) (hs:∀ x∈l,x.2.1.size≤50000∧-100000≤x.2.2∧x.2.2≤100000) (m' : Bool) (s' : ByteArray) (e' : Int) (hd:df (farD 1 l n)=nu m' s' e') :
  Calls Tryz.prog 42 #[.slice ad n c] w (Ret (.agg #[.bool m',.string s',.int .i64 e']) w):=by
 have HD:=Lib.hid (And.intro hn hd);clear hn hd;go_enter Tryz.func42,Tryz.ntmps42;go_wp2_with fail;obtain ⟨hR,hb⟩:=nblk1 w false ⟨#[]⟩ 0;have hl2:=hl.alloc (.cells #[.bool false,.string ⟨#[]⟩,.int .i64 0] 36);generalize (w.alloc (.cells #[.bool false,.string ⟨#[]⟩,.int .i64 0] 36))=W0 at *;refine (yfar_any W0 1 (by omega) ad l n c HD.out.1 hmax hl2 hs m' s' e' HD.out.2).mono ?_;rintro e1 W ⟨rfl,hq⟩;replace hb:=below_next hb hq;replace hR:=hR.below hq;clear hq hl2;obtain ⟨hR0,hR1,hR2,hR3,hR4,hR5⟩:=hR.facts;go_wp2;exact ret_num rfl rfl (hR.set3 _ _ _) ⟨rfl,below_set3 hb (by omega) _ _ _ _ _ _⟩
end Go.Proofs.YtbijggomdpaknaaGreatDoor
