/- Answers of an Int out of its block, and one or two numbers. -/
import Derived.Test.YtlmckjodahbgbaaGreatDoorHW
namespace Go.Proofs.YtlmckjodahbgbaaGreatDoor
open Go.RowKit Go.Shelf
end Go.Proofs.YtlmckjodahbgbaaGreatDoor
