/- Layer 1, laid together: Y6, Y7, Y8. -/
import Derived.Test.YtiddgplapodleaaGreatDoorHM
/- Package dyad: the scale that numbers share,walked. -/
namespace Go.Proofs.YtiddgplapodleaaGreatDoor
open Go.RowKit Go.Shelf
end Go.Proofs.YtiddgplapodleaaGreatDoor
