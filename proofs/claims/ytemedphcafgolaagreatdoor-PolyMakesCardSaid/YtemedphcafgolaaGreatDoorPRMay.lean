/- May of the document (package ogeeref07), its answer. No function is walked in this text. -/
import Derived.Test.YtemedphcafgolaaGreatDoorPGath
import Derived.Test.YtemedphcafgolaaGreatDoorPB
namespace Go.Proofs.YtemedphcafgolaaGreatDoor
open Go.RowKit Go.Shelf Go.Lib
theorem rmay_ret (w:World) (s:ByteArray) (hs:s.size≤1000000000) (v:Int) (o:Bool) (ho:mayB s v=o):Calls Tryz.prog 41 #[.string s,.int .i64 v] w (Ret (.bool o) w):=
 (rmay_any w s hs v o ho).mono (by rintro e w' ⟨rfl,rfl⟩;exact ⟨rfl,Below.refl _ _⟩)
end Go.Proofs.YtemedphcafgolaaGreatDoor
