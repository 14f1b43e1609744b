/-
  DERIVED. GIVEN WITH THE SEED: THE CARDS: each row of YtbijggomdpaknaaGreatDoorRows.lean that lists a variable, with what it lists TIED to the program's text (the seventh form; the later family's looks); each row that meets fmt, with fmt's text TOLD by the authors' own Lean function (tested against real Go, not proved from fmt's source: count such statements apart). THE CARD IS WHAT COUNTS. Prove the row's statement (the work); the ties are given (YtbijggomdpaknaaGreatDoorTie.lean); close each card by the builder's one call (the guide's Derived/Test/ToyasCard.lean, 'card_holds'). Laid BY PROGRAM, IN A SANDBOX (cutbox-door.mjs). By AI agents, Wed Nov 11 2026. No macro, syntax, notation, axiom, sorry.
-/
import Derived.Test.YtbijggomdpaknaaGreatDoorRows
import GoSem.ClaimSeven
namespace Go.Proofs.YtbijggomdpaknaaGreatDoor
namespace Rows

/-- THE TIED CARD OF 'ogeelaw11.BoxChecks'. -/
def boxChecksCard : Claim7 := { stood := { row := boxChecksRow, standIns := [], harness := (true, "37330062891f82ecde3f2317d207860d0622a8bd9637e52da2d7c6a3b48738b5"), looks := false }, kinds := [], alts := [], laidByText := true, laidKinds := [.data, .pinned], laidTests := true, laidLooks := .later }
def BoxChecksCardSaid : Prop := Claim7.holds Tryz.pinned (.plain (OpenSpec.ofChange boxChecksSpec)) boxChecksCard

/-- THE SECOND FORM's CARD OF 'ogeelaw11.BoxChecks'. -/
def boxChecksUptoCard : Claim7 := { stood := { row := boxChecksUptoRow, standIns := [], harness := (true, "37330062891f82ecde3f2317d207860d0622a8bd9637e52da2d7c6a3b48738b5"), looks := false }, kinds := [], alts := [], laidByText := true, laidKinds := [.data, .pinned], laidTests := true, laidLooks := .later }
def BoxChecksUptoCardSaid : Prop := Claim7.holds Tryz.pinned (.plain (OpenSpec.upto boxChecksSpec)) boxChecksUptoCard
end Rows
end Go.Proofs.YtbijggomdpaknaaGreatDoor
