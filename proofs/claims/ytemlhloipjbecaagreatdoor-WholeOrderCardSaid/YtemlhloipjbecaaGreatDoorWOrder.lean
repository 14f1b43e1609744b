/- The law of order: it answers true for all. -/
import Derived.Test.YtemlhloipjbecaaGreatDoorWOrdEq
import Derived.Test.YtemlhloipjbecaaGreatDoorWOrdLt
import Derived.Test.YtemlhloipjbecaaGreatDoorWOrdGt
namespace Go.Proofs.YtemlhloipjbecaaGreatDoor
open Go.RowKit Go.Shelf

theorem worder_any (w : World) (m n q : Bool) (s t u : ByteArray) : Calls Tryz.prog 9 #[wi m s, wi n t, wi q u] w (Ret (.bool true) w) := by
  rcases sg_cases (wv m s - wv n t) with ⟨h, _⟩ | ⟨h, _⟩ | ⟨h, _⟩
  · exact worder_eq w m n q s t u h
  · exact worder_lt w m n q s t u h
  · exact worder_gt w m n q s t u h
end Go.Proofs.YtemlhloipjbecaaGreatDoor
