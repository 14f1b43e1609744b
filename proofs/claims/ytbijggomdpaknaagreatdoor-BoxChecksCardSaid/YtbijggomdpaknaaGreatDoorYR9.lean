/- The document's answer for dyadic numbers: Min, Max; walked. -/
import Derived.Test.YtbijggomdpaknaaGreatDoorYR6
import Derived.Test.YtbijggomdpaknaaGreatDoorY16
namespace Go.Proofs.YtbijggomdpaknaaGreatDoor
open Go.RowKit Go.Shelf
end Go.Proofs.YtbijggomdpaknaaGreatDoor
