/- Package dyad: the number farthest to one side; walked. -/
import Derived.Test.YtiddgplapodleaaGreatDoorHP
namespace Go.Proofs.YtiddgplapodleaaGreatDoor
open Go.RowKit Go.Shelf
end Go.Proofs.YtiddgplapodleaaGreatDoor
