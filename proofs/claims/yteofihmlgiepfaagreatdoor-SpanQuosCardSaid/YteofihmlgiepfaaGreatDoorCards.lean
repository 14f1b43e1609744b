/-
  DERIVED. GIVEN WITH THE SEED: THE CARDS: each row of YteofihmlgiepfaaGreatDoorRows.lean that lists a variable, with what it lists TIED to the program's text (the seventh form; the later family's looks); each row that meets fmt, with fmt's text TOLD by the authors' own Lean function (tested against real Go, not proved from fmt's source: count such statements apart). THE CARD IS WHAT COUNTS. Prove the row's statement (the work); the ties are given (YteofihmlgiepfaaGreatDoorTie.lean); close each card by the builder's one call (the guide's Derived/Test/ToyasCard.lean, 'card_holds'). Laid BY PROGRAM, IN A SANDBOX (cutbox-door.mjs). By AI agents, Wed Nov 11 2026. No macro, syntax, notation, axiom, sorry.
-/
import Derived.Test.YteofihmlgiepfaaGreatDoorRows
import GoSem.ClaimSeven
namespace Go.Proofs.YteofihmlgiepfaaGreatDoor
namespace Rows

/-- THE TIED CARD OF 'ogeelaw05.SpanMeets'. -/
def spanMeetsCard : Claim7 := { stood := { row := spanMeetsRow, standIns := [], harness := (true, "6143b8fe3f6f825a889aca517d7006df77f51bf2c2d3376aef7f19cd8088b4be"), looks := false }, kinds := [], alts := [], laidByText := true, laidKinds := [.data, .pinned], laidTests := true, laidLooks := .later }
def SpanMeetsCardSaid : Prop := Claim7.holds Tryz.pinned (.plain (OpenSpec.ofChange spanMeetsSpec)) spanMeetsCard

/-- THE TIED CARD OF 'ogeelaw05.SpanRing'. -/
def spanRingCard : Claim7 := { stood := { row := spanRingRow, standIns := [], harness := (true, "6143b8fe3f6f825a889aca517d7006df77f51bf2c2d3376aef7f19cd8088b4be"), looks := false }, kinds := [], alts := [], laidByText := true, laidKinds := [.data, .pinned], laidTests := true, laidLooks := .later }
def SpanRingCardSaid : Prop := Claim7.holds Tryz.pinned (.plain (OpenSpec.ofChange spanRingSpec)) spanRingCard

/-- THE TIED CARD OF 'ogeelaw05.SpanQuos'. -/
def spanQuosCard : Claim7 := { stood := { row := spanQuosRow, standIns := [], harness := (true, "6143b8fe3f6f825a889aca517d7006df77f51bf2c2d3376aef7f19cd8088b4be"), looks := false }, kinds := [], alts := [], laidByText := true, laidKinds := [.data, .pinned], laidTests := true, laidLooks := .later }
def SpanQuosCardSaid : Prop := Claim7.holds Tryz.pinned (.plain (OpenSpec.ofChange spanQuosSpec)) spanQuosCard

/-- THE TIED CARD OF 'ogeelaw06.LitPrints'. -/
def litPrintsCard : Claim7 := { stood := { row := litPrintsRow, standIns := [], harness := (true, "6143b8fe3f6f825a889aca517d7006df77f51bf2c2d3376aef7f19cd8088b4be"), looks := false }, kinds := [], alts := [], laidByText := true, laidKinds := [.data, .data, .data, .data, .pinned], laidTests := true, laidLooks := .later }
def LitPrintsCardSaid : Prop := Claim7.holds Tryz.pinned (.plain (OpenSpec.ofChange litPrintsSpec)) litPrintsCard

/-- THE TIED CARD OF 'ogeelaw06.LitBack'. -/
def litBackCard : Claim7 := { stood := { row := litBackRow, standIns := [], harness := (true, "6143b8fe3f6f825a889aca517d7006df77f51bf2c2d3376aef7f19cd8088b4be"), looks := false }, kinds := [], alts := [], laidByText := true, laidKinds := [.data, .data, .data, .data, .pinned], laidTests := true, laidLooks := .later }
def LitBackCardSaid : Prop := Claim7.holds Tryz.pinned (.plain (OpenSpec.ofChange litBackSpec)) litBackCard

/-- THE TIED CARD OF 'ogeelaw06.LitPowers'. -/
def litPowersCard : Claim7 := { stood := { row := litPowersRow, standIns := [], harness := (true, "6143b8fe3f6f825a889aca517d7006df77f51bf2c2d3376aef7f19cd8088b4be"), looks := false }, kinds := [], alts := [], laidByText := true, laidKinds := [.data, .data, .data, .data, .pinned], laidTests := true, laidLooks := .later }
def LitPowersCardSaid : Prop := Claim7.holds Tryz.pinned (.plain (OpenSpec.ofChange litPowersSpec)) litPowersCard

/-- THE SECOND FORM's CARD OF 'ogeelaw05.SpanMeets'. -/
def spanMeetsUptoCard : Claim7 := { stood := { row := spanMeetsUptoRow, standIns := [], harness := (true, "6143b8fe3f6f825a889aca517d7006df77f51bf2c2d3376aef7f19cd8088b4be"), looks := false }, kinds := [], alts := [], laidByText := true, laidKinds := [.data, .pinned], laidTests := true, laidLooks := .later }
def SpanMeetsUptoCardSaid : Prop := Claim7.holds Tryz.pinned (.plain (OpenSpec.upto spanMeetsSpec)) spanMeetsUptoCard

/-- THE SECOND FORM's CARD OF 'ogeelaw05.SpanRing'. -/
def spanRingUptoCard : Claim7 := { stood := { row := spanRingUptoRow, standIns := [], harness := (true, "6143b8fe3f6f825a889aca517d7006df77f51bf2c2d3376aef7f19cd8088b4be"), looks := false }, kinds := [], alts := [], laidByText := true, laidKinds := [.data, .pinned], laidTests := true, laidLooks := .later }
def SpanRingUptoCardSaid : Prop := Claim7.holds Tryz.pinned (.plain (OpenSpec.upto spanRingSpec)) spanRingUptoCard

/-- THE SECOND FORM's CARD OF 'ogeelaw05.SpanQuos'. -/
def spanQuosUptoCard : Claim7 := { stood := { row := spanQuosUptoRow, standIns := [], harness := (true, "6143b8fe3f6f825a889aca517d7006df77f51bf2c2d3376aef7f19cd8088b4be"), looks := false }, kinds := [], alts := [], laidByText := true, laidKinds := [.data, .pinned], laidTests := true, laidLooks := .later }
def SpanQuosUptoCardSaid : Prop := Claim7.holds Tryz.pinned (.plain (OpenSpec.upto spanQuosSpec)) spanQuosUptoCard

/-- THE SECOND FORM's CARD OF 'ogeelaw06.LitPrints'. -/
def litPrintsUptoCard : Claim7 := { stood := { row := litPrintsUptoRow, standIns := [], harness := (true, "6143b8fe3f6f825a889aca517d7006df77f51bf2c2d3376aef7f19cd8088b4be"), looks := false }, kinds := [], alts := [], laidByText := true, laidKinds := [.data, .data, .data, .data, .pinned], laidTests := true, laidLooks := .later }
def LitPrintsUptoCardSaid : Prop := Claim7.holds Tryz.pinned (.plain (OpenSpec.upto litPrintsSpec)) litPrintsUptoCard

/-- THE SECOND FORM's CARD OF 'ogeelaw06.LitBack'. -/
def litBackUptoCard : Claim7 := { stood := { row := litBackUptoRow, standIns := [], harness := (true, "6143b8fe3f6f825a889aca517d7006df77f51bf2c2d3376aef7f19cd8088b4be"), looks := false }, kinds := [], alts := [], laidByText := true, laidKinds := [.data, .data, .data, .data, .pinned], laidTests := true, laidLooks := .later }
def LitBackUptoCardSaid : Prop := Claim7.holds Tryz.pinned (.plain (OpenSpec.upto litBackSpec)) litBackUptoCard

/-- THE SECOND FORM's CARD OF 'ogeelaw06.LitPowers'. -/
def litPowersUptoCard : Claim7 := { stood := { row := litPowersUptoRow, standIns := [], harness := (true, "6143b8fe3f6f825a889aca517d7006df77f51bf2c2d3376aef7f19cd8088b4be"), looks := false }, kinds := [], alts := [], laidByText := true, laidKinds := [.data, .data, .data, .data, .pinned], laidTests := true, laidLooks := .later }
def LitPowersUptoCardSaid : Prop := Claim7.holds Tryz.pinned (.plain (OpenSpec.upto litPowersSpec)) litPowersUptoCard
end Rows
end Go.Proofs.YteofihmlgiepfaaGreatDoor
