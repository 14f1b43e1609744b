/- Package span: Width, Mid, Of; walked. -/
import Derived.Test.YteofihmlgiepfaaGreatDoorS3
import Derived.Test.YteofihmlgiepfaaGreatDoorHC
import Derived.Test.YteofihmlgiepfaaGreatDoorYFormsL
namespace Go.Proofs.YteofihmlgiepfaaGreatDoor
set_option maxRecDepth 100000
set_option maxHeartbeats 1600000
open Go.RowKit Go.Shelf
theorem sof_any (w:World) (ad:Option Addr) (l:List NV) (n c:Nat) (hn:l.length=n) (hmax:n≤250) (hl:NAt w ad l) (hs:∀ x∈l,x.2.1.size≤50000∧-100000≤x.2.2∧x.2.2≤100000) (z3:Bool) (o3:ByteArray) (e3:Int) (h3:df (farD (-1) l n)=nu z3 o3 e3) (z4:Bool) (o4:ByteArray) (e4:Int) (h4:df (farD 1 l n)=nu z4 o4 e4) :
  Calls Tryz.prog 50 #[.slice ad n c] w (Ret (.agg #[.bool z3,.string o3,.int .i64 e3,.bool z4,.string o4,.int .i64 e4]) w):=by
 have HC:=Lib.hid (And.intro hn (And.intro hs (And.intro h3 h4)));clear hn hs h3 h4;go_enter Tryz.func50,Tryz.ntmps50;go_wp2_with fail;have hR:=Sk.new w 27 false ⟨#[]⟩ 0 false ⟨#[]⟩ 0;have hb:=(Below.refl w.heap.size w).alloc (Nat.le_refl _) (.cells #[.bool false,.string ⟨#[]⟩,.int .i64 0,.bool false,.string ⟨#[]⟩,.int .i64 0] 27);replace hl:=hl.alloc (.cells #[.bool false,.string ⟨#[]⟩,.int .i64 0,.bool false,.string ⟨#[]⟩,.int .i64 0] 27);generalize (w.alloc (.cells #[.bool false,.string ⟨#[]⟩,.int .i64 0,.bool false,.string ⟨#[]⟩,.int .i64 0] 27))=W0 at *;refine (ymin_any _ _ l n c HC.out.1 hmax hl HC.out.2.1 z3 o3 e3 HC.out.2.2.1).mono ?_;rintro e' W ⟨rfl,hq⟩;replace hb:=below_next hb hq;replace hR:=hR.below hq;replace hl:=hl.below hq;clear hq;go_wp2_with fail;refine (ymax_any _ _ l n c HC.out.1 hmax hl HC.out.2.1 z4 o4 e4 HC.out.2.2.2).mono ?_;rintro e' V ⟨rfl,hq⟩;replace hb:=below_next hb hq;replace hR:=hR.below hq;clear hq;obtain ⟨hR0,hR1,hR2,hR3,hR4,hR5,hR6,hR7,hR8,hR9,hR10,hR11⟩:=hR.facts;go_wp2;exact ret_span rfl rfl (hR.set6 _ _ _ _ _ _) ⟨rfl,below_set6 hb (by omega) _ _ _ _ _ _⟩
end Go.Proofs.YteofihmlgiepfaaGreatDoor
