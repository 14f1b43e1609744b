/- Answers of an Int out of its block, and one or two numbers. -/
import Derived.Test.YtbijggomdpaknaaGreatDoorHW
namespace Go.Proofs.YtbijggomdpaknaaGreatDoor
open Go.RowKit Go.Shelf
end Go.Proofs.YtbijggomdpaknaaGreatDoor
