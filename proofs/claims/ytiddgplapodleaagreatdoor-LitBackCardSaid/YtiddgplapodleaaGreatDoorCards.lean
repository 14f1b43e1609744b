/-
  DERIVED. GIVEN WITH THE SEED: THE CARDS: each row of YtiddgplapodleaaGreatDoorRows.lean that lists a variable, with what it lists TIED to the program's text (the seventh form; the later family's looks); each row that meets fmt, with fmt's text TOLD by the authors' own Lean function (tested against real Go, not proved from fmt's source: count such statements apart). THE CARD IS WHAT COUNTS. Prove the row's statement (the work); the ties are given (YtiddgplapodleaaGreatDoorTie.lean); close each card by the builder's one call (the guide's Derived/Test/ToyasCard.lean, 'card_holds'). Laid BY PROGRAM, IN A SANDBOX (cutbox-door.mjs). By AI agents, Wed Nov 11 2026. No macro, syntax, notation, axiom, sorry.
-/
import Derived.Test.YtiddgplapodleaaGreatDoorRows
import GoSem.ClaimSeven
namespace Go.Proofs.YtiddgplapodleaaGreatDoor
namespace Rows

/-- THE TIED CARD OF 'ogeelaw06.LitPrints'. -/
def litPrintsCard : Claim7 := { stood := { row := litPrintsRow, standIns := [], harness := (true, "f50235e7ebd4b9e79f73812278f8626738838ded17a7b054b83970784b27532c"), looks := false }, kinds := [], alts := [], laidByText := true, laidKinds := [.data, .data, .data, .data, .pinned], laidTests := true, laidLooks := .later }
def LitPrintsCardSaid : Prop := Claim7.holds Tryz.pinned (.plain (OpenSpec.ofChange litPrintsSpec)) litPrintsCard

/-- THE TIED CARD OF 'ogeelaw06.LitBack'. -/
def litBackCard : Claim7 := { stood := { row := litBackRow, standIns := [], harness := (true, "f50235e7ebd4b9e79f73812278f8626738838ded17a7b054b83970784b27532c"), looks := false }, kinds := [], alts := [], laidByText := true, laidKinds := [.data, .data, .data, .data, .pinned], laidTests := true, laidLooks := .later }
def LitBackCardSaid : Prop := Claim7.holds Tryz.pinned (.plain (OpenSpec.ofChange litBackSpec)) litBackCard

/-- THE TIED CARD OF 'ogeelaw06.LitPowers'. -/
def litPowersCard : Claim7 := { stood := { row := litPowersRow, standIns := [], harness := (true, "f50235e7ebd4b9e79f73812278f8626738838ded17a7b054b83970784b27532c"), looks := false }, kinds := [], alts := [], laidByText := true, laidKinds := [.data, .data, .data, .data, .pinned], laidTests := true, laidLooks := .later }
def LitPowersCardSaid : Prop := Claim7.holds Tryz.pinned (.plain (OpenSpec.ofChange litPowersSpec)) litPowersCard

/-- THE SECOND FORM's CARD OF 'ogeelaw06.LitPrints'. -/
def litPrintsUptoCard : Claim7 := { stood := { row := litPrintsUptoRow, standIns := [], harness := (true, "f50235e7ebd4b9e79f73812278f8626738838ded17a7b054b83970784b27532c"), looks := false }, kinds := [], alts := [], laidByText := true, laidKinds := [.data, .data, .data, .data, .pinned], laidTests := true, laidLooks := .later }
def LitPrintsUptoCardSaid : Prop := Claim7.holds Tryz.pinned (.plain (OpenSpec.upto litPrintsSpec)) litPrintsUptoCard

/-- THE SECOND FORM's CARD OF 'ogeelaw06.LitBack'. -/
def litBackUptoCard : Claim7 := { stood := { row := litBackUptoRow, standIns := [], harness := (true, "f50235e7ebd4b9e79f73812278f8626738838ded17a7b054b83970784b27532c"), looks := false }, kinds := [], alts := [], laidByText := true, laidKinds := [.data, .data, .data, .data, .pinned], laidTests := true, laidLooks := .later }
def LitBackUptoCardSaid : Prop := Claim7.holds Tryz.pinned (.plain (OpenSpec.upto litBackSpec)) litBackUptoCard

/-- THE SECOND FORM's CARD OF 'ogeelaw06.LitPowers'. -/
def litPowersUptoCard : Claim7 := { stood := { row := litPowersUptoRow, standIns := [], harness := (true, "f50235e7ebd4b9e79f73812278f8626738838ded17a7b054b83970784b27532c"), looks := false }, kinds := [], alts := [], laidByText := true, laidKinds := [.data, .data, .data, .data, .pinned], laidTests := true, laidLooks := .later }
def LitPowersUptoCardSaid : Prop := Claim7.holds Tryz.pinned (.plain (OpenSpec.upto litPowersSpec)) litPowersUptoCard
end Rows
end Go.Proofs.YtiddgplapodleaaGreatDoor
