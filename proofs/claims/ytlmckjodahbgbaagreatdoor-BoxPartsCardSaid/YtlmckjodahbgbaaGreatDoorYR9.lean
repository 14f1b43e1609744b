/- The document's answer for dyadic numbers: Min, Max; walked. -/
import Derived.Test.YtlmckjodahbgbaaGreatDoorYR6
import Derived.Test.YtlmckjodahbgbaaGreatDoorY16
namespace Go.Proofs.YtlmckjodahbgbaaGreatDoor
open Go.RowKit Go.Shelf
end Go.Proofs.YtlmckjodahbgbaaGreatDoor
