/- Package dyad: the number farthest to one side; walked. -/
import Derived.Test.YtemedphcafgolaaGreatDoorHP
namespace Go.Proofs.YtemedphcafgolaaGreatDoor
open Go.RowKit Go.Shelf
end Go.Proofs.YtemedphcafgolaaGreatDoor
