/- The document's answer for whole numbers: Shift, walked. -/
import Derived.Test.YthggjlkeadjhcaaGreatDoorHR
namespace Go.Proofs.YthggjlkeadjhcaaGreatDoor
open Go.RowKit Go.Shelf
end Go.Proofs.YthggjlkeadjhcaaGreatDoor
