/- Numbers between their Floor and their Ceil; no function is walked in this text. -/
import Derived.Test.YtbijggomdpaknaaGreatDoorYBnd
namespace Go.Proofs.YtbijggomdpaknaaGreatDoor
open Go.RowKit Go.Shelf
end Go.Proofs.YtbijggomdpaknaaGreatDoor
