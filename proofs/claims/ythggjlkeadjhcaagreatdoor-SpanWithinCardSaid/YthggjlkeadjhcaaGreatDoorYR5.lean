/- The document's answer for dyadic numbers: Plus, walked. -/
import Derived.Test.YthggjlkeadjhcaaGreatDoorHQ
import Derived.Test.YthggjlkeadjhcaaGreatDoorWRef8
namespace Go.Proofs.YthggjlkeadjhcaaGreatDoor
open Go.RowKit Go.Shelf
end Go.Proofs.YthggjlkeadjhcaaGreatDoor
