/- Numbers between their Floor and their Ceil; no function is walked in this text. -/
import Derived.Test.YtlmckjodahbgbaaGreatDoorYBnd
namespace Go.Proofs.YtlmckjodahbgbaaGreatDoor
open Go.RowKit Go.Shelf
end Go.Proofs.YtlmckjodahbgbaaGreatDoor
