/- Answers of an Int out of its block, and one or two numbers. -/
import Derived.Test.YtemedphcafgolaaGreatDoorHW
namespace Go.Proofs.YtemedphcafgolaaGreatDoor
open Go.RowKit Go.Shelf
end Go.Proofs.YtemedphcafgolaaGreatDoor
