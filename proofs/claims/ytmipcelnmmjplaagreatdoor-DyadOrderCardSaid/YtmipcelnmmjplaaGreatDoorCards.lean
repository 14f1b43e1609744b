/-
  DERIVED. GIVEN WITH THE SEED: THE CARDS: each row of YtmipcelnmmjplaaGreatDoorRows.lean that lists a variable, with what it lists TIED to the program's text (the seventh form; the later family's looks); each row that meets fmt, with fmt's text TOLD by the authors' own Lean function (tested against real Go, not proved from fmt's source: count such statements apart). THE CARD IS WHAT COUNTS. Prove the row's statement (the work); the ties are given (YtmipcelnmmjplaaGreatDoorTie.lean); close each card by the builder's one call (the guide's Derived/Test/ToyasCard.lean, 'card_holds'). Laid BY PROGRAM, IN A SANDBOX (cutbox-door.mjs). By AI agents, Wed Nov 11 2026. No macro, syntax, notation, axiom, sorry.
-/
import Derived.Test.YtmipcelnmmjplaaGreatDoorRows
import GoSem.ClaimSeven
namespace Go.Proofs.YtmipcelnmmjplaaGreatDoor
namespace Rows

/-- THE TIED CARD OF 'ogeelaw04.DyadOrder'. -/
def dyadOrderCard : Claim7 := { stood := { row := dyadOrderRow, standIns := [], harness := (true, "a1e76a7b3b0c57d6924086dfd886e2ca04e4932741eec66b3a869837890950d4"), looks := false }, kinds := [], alts := [], laidByText := true, laidKinds := [.data, .pinned], laidTests := true, laidLooks := .later }
def DyadOrderCardSaid : Prop := Claim7.holds Tryz.pinned (.plain (OpenSpec.ofChange dyadOrderSpec)) dyadOrderCard

/-- THE TIED CARD OF 'ogeelaw05.SpanForms'. -/
def spanFormsCard : Claim7 := { stood := { row := spanFormsRow, standIns := [], harness := (true, "a1e76a7b3b0c57d6924086dfd886e2ca04e4932741eec66b3a869837890950d4"), looks := false }, kinds := [], alts := [], laidByText := true, laidKinds := [.data, .pinned], laidTests := true, laidLooks := .later }
def SpanFormsCardSaid : Prop := Claim7.holds Tryz.pinned (.plain (OpenSpec.ofChange spanFormsSpec)) spanFormsCard

/-- THE TIED CARD OF 'ogeelaw05.SpanMeets'. -/
def spanMeetsCard : Claim7 := { stood := { row := spanMeetsRow, standIns := [], harness := (true, "a1e76a7b3b0c57d6924086dfd886e2ca04e4932741eec66b3a869837890950d4"), looks := false }, kinds := [], alts := [], laidByText := true, laidKinds := [.data, .pinned], laidTests := true, laidLooks := .later }
def SpanMeetsCardSaid : Prop := Claim7.holds Tryz.pinned (.plain (OpenSpec.ofChange spanMeetsSpec)) spanMeetsCard

/-- THE TIED CARD OF 'ogeelaw05.SpanRing'. -/
def spanRingCard : Claim7 := { stood := { row := spanRingRow, standIns := [], harness := (true, "a1e76a7b3b0c57d6924086dfd886e2ca04e4932741eec66b3a869837890950d4"), looks := false }, kinds := [], alts := [], laidByText := true, laidKinds := [.data, .pinned], laidTests := true, laidLooks := .later }
def SpanRingCardSaid : Prop := Claim7.holds Tryz.pinned (.plain (OpenSpec.ofChange spanRingSpec)) spanRingCard

/-- THE TIED CARD OF 'ogeelaw05.SpanQuos'. -/
def spanQuosCard : Claim7 := { stood := { row := spanQuosRow, standIns := [], harness := (true, "a1e76a7b3b0c57d6924086dfd886e2ca04e4932741eec66b3a869837890950d4"), looks := false }, kinds := [], alts := [], laidByText := true, laidKinds := [.data, .pinned], laidTests := true, laidLooks := .later }
def SpanQuosCardSaid : Prop := Claim7.holds Tryz.pinned (.plain (OpenSpec.ofChange spanQuosSpec)) spanQuosCard

/-- THE TIED CARD OF 'ogeelaw05.SpanInside'. -/
def spanInsideCard : Claim7 := { stood := { row := spanInsideRow, standIns := [], harness := (true, "a1e76a7b3b0c57d6924086dfd886e2ca04e4932741eec66b3a869837890950d4"), looks := false }, kinds := [], alts := [], laidByText := true, laidKinds := [.data, .pinned], laidTests := true, laidLooks := .later }
def SpanInsideCardSaid : Prop := Claim7.holds Tryz.pinned (.plain (OpenSpec.ofChange spanInsideSpec)) spanInsideCard

/-- THE TIED CARD OF 'ogeelaw05.SpanWithin'. -/
def spanWithinCard : Claim7 := { stood := { row := spanWithinRow, standIns := [], harness := (true, "a1e76a7b3b0c57d6924086dfd886e2ca04e4932741eec66b3a869837890950d4"), looks := false }, kinds := [], alts := [], laidByText := true, laidKinds := [.data, .pinned], laidTests := true, laidLooks := .later }
def SpanWithinCardSaid : Prop := Claim7.holds Tryz.pinned (.plain (OpenSpec.ofChange spanWithinSpec)) spanWithinCard

/-- THE TIED CARD OF 'ogeelaw05.SpanTight'. -/
def spanTightCard : Claim7 := { stood := { row := spanTightRow, standIns := [], harness := (true, "a1e76a7b3b0c57d6924086dfd886e2ca04e4932741eec66b3a869837890950d4"), looks := false }, kinds := [], alts := [], laidByText := true, laidKinds := [.data, .pinned], laidTests := true, laidLooks := .later }
def SpanTightCardSaid : Prop := Claim7.holds Tryz.pinned (.plain (OpenSpec.ofChange spanTightSpec)) spanTightCard

/-- THE TIED CARD OF 'ogeelaw06.LitPrints'. -/
def litPrintsCard : Claim7 := { stood := { row := litPrintsRow, standIns := [], harness := (true, "a1e76a7b3b0c57d6924086dfd886e2ca04e4932741eec66b3a869837890950d4"), looks := false }, kinds := [], alts := [], laidByText := true, laidKinds := [.data, .data, .data, .data, .pinned], laidTests := true, laidLooks := .later }
def LitPrintsCardSaid : Prop := Claim7.holds Tryz.pinned (.plain (OpenSpec.ofChange litPrintsSpec)) litPrintsCard

/-- THE TIED CARD OF 'ogeelaw06.LitBack'. -/
def litBackCard : Claim7 := { stood := { row := litBackRow, standIns := [], harness := (true, "a1e76a7b3b0c57d6924086dfd886e2ca04e4932741eec66b3a869837890950d4"), looks := false }, kinds := [], alts := [], laidByText := true, laidKinds := [.data, .data, .data, .data, .pinned], laidTests := true, laidLooks := .later }
def LitBackCardSaid : Prop := Claim7.holds Tryz.pinned (.plain (OpenSpec.ofChange litBackSpec)) litBackCard

/-- THE TIED CARD OF 'ogeelaw06.LitPowers'. -/
def litPowersCard : Claim7 := { stood := { row := litPowersRow, standIns := [], harness := (true, "a1e76a7b3b0c57d6924086dfd886e2ca04e4932741eec66b3a869837890950d4"), looks := false }, kinds := [], alts := [], laidByText := true, laidKinds := [.data, .data, .data, .data, .pinned], laidTests := true, laidLooks := .later }
def LitPowersCardSaid : Prop := Claim7.holds Tryz.pinned (.plain (OpenSpec.ofChange litPowersSpec)) litPowersCard

/-- THE SECOND FORM's CARD OF 'ogeelaw04.DyadOrder'. -/
def dyadOrderUptoCard : Claim7 := { stood := { row := dyadOrderUptoRow, standIns := [], harness := (true, "a1e76a7b3b0c57d6924086dfd886e2ca04e4932741eec66b3a869837890950d4"), looks := false }, kinds := [], alts := [], laidByText := true, laidKinds := [.data, .pinned], laidTests := true, laidLooks := .later }
def DyadOrderUptoCardSaid : Prop := Claim7.holds Tryz.pinned (.plain (OpenSpec.upto dyadOrderSpec)) dyadOrderUptoCard

/-- THE SECOND FORM's CARD OF 'ogeelaw05.SpanForms'. -/
def spanFormsUptoCard : Claim7 := { stood := { row := spanFormsUptoRow, standIns := [], harness := (true, "a1e76a7b3b0c57d6924086dfd886e2ca04e4932741eec66b3a869837890950d4"), looks := false }, kinds := [], alts := [], laidByText := true, laidKinds := [.data, .pinned], laidTests := true, laidLooks := .later }
def SpanFormsUptoCardSaid : Prop := Claim7.holds Tryz.pinned (.plain (OpenSpec.upto spanFormsSpec)) spanFormsUptoCard

/-- THE SECOND FORM's CARD OF 'ogeelaw05.SpanMeets'. -/
def spanMeetsUptoCard : Claim7 := { stood := { row := spanMeetsUptoRow, standIns := [], harness := (true, "a1e76a7b3b0c57d6924086dfd886e2ca04e4932741eec66b3a869837890950d4"), looks := false }, kinds := [], alts := [], laidByText := true, laidKinds := [.data, .pinned], laidTests := true, laidLooks := .later }
def SpanMeetsUptoCardSaid : Prop := Claim7.holds Tryz.pinned (.plain (OpenSpec.upto spanMeetsSpec)) spanMeetsUptoCard

/-- THE SECOND FORM's CARD OF 'ogeelaw05.SpanRing'. -/
def spanRingUptoCard : Claim7 := { stood := { row := spanRingUptoRow, standIns := [], harness := (true, "a1e76a7b3b0c57d6924086dfd886e2ca04e4932741eec66b3a869837890950d4"), looks := false }, kinds := [], alts := [], laidByText := true, laidKinds := [.data, .pinned], laidTests := true, laidLooks := .later }
def SpanRingUptoCardSaid : Prop := Claim7.holds Tryz.pinned (.plain (OpenSpec.upto spanRingSpec)) spanRingUptoCard

/-- THE SECOND FORM's CARD OF 'ogeelaw05.SpanQuos'. -/
def spanQuosUptoCard : Claim7 := { stood := { row := spanQuosUptoRow, standIns := [], harness := (true, "a1e76a7b3b0c57d6924086dfd886e2ca04e4932741eec66b3a869837890950d4"), looks := false }, kinds := [], alts := [], laidByText := true, laidKinds := [.data, .pinned], laidTests := true, laidLooks := .later }
def SpanQuosUptoCardSaid : Prop := Claim7.holds Tryz.pinned (.plain (OpenSpec.upto spanQuosSpec)) spanQuosUptoCard

/-- THE SECOND FORM's CARD OF 'ogeelaw05.SpanInside'. -/
def spanInsideUptoCard : Claim7 := { stood := { row := spanInsideUptoRow, standIns := [], harness := (true, "a1e76a7b3b0c57d6924086dfd886e2ca04e4932741eec66b3a869837890950d4"), looks := false }, kinds := [], alts := [], laidByText := true, laidKinds := [.data, .pinned], laidTests := true, laidLooks := .later }
def SpanInsideUptoCardSaid : Prop := Claim7.holds Tryz.pinned (.plain (OpenSpec.upto spanInsideSpec)) spanInsideUptoCard

/-- THE SECOND FORM's CARD OF 'ogeelaw05.SpanWithin'. -/
def spanWithinUptoCard : Claim7 := { stood := { row := spanWithinUptoRow, standIns := [], harness := (true, "a1e76a7b3b0c57d6924086dfd886e2ca04e4932741eec66b3a869837890950d4"), looks := false }, kinds := [], alts := [], laidByText := true, laidKinds := [.data, .pinned], laidTests := true, laidLooks := .later }
def SpanWithinUptoCardSaid : Prop := Claim7.holds Tryz.pinned (.plain (OpenSpec.upto spanWithinSpec)) spanWithinUptoCard

/-- THE SECOND FORM's CARD OF 'ogeelaw05.SpanTight'. -/
def spanTightUptoCard : Claim7 := { stood := { row := spanTightUptoRow, standIns := [], harness := (true, "a1e76a7b3b0c57d6924086dfd886e2ca04e4932741eec66b3a869837890950d4"), looks := false }, kinds := [], alts := [], laidByText := true, laidKinds := [.data, .pinned], laidTests := true, laidLooks := .later }
def SpanTightUptoCardSaid : Prop := Claim7.holds Tryz.pinned (.plain (OpenSpec.upto spanTightSpec)) spanTightUptoCard

/-- THE SECOND FORM's CARD OF 'ogeelaw06.LitPrints'. -/
def litPrintsUptoCard : Claim7 := { stood := { row := litPrintsUptoRow, standIns := [], harness := (true, "a1e76a7b3b0c57d6924086dfd886e2ca04e4932741eec66b3a869837890950d4"), looks := false }, kinds := [], alts := [], laidByText := true, laidKinds := [.data, .data, .data, .data, .pinned], laidTests := true, laidLooks := .later }
def LitPrintsUptoCardSaid : Prop := Claim7.holds Tryz.pinned (.plain (OpenSpec.upto litPrintsSpec)) litPrintsUptoCard

/-- THE SECOND FORM's CARD OF 'ogeelaw06.LitBack'. -/
def litBackUptoCard : Claim7 := { stood := { row := litBackUptoRow, standIns := [], harness := (true, "a1e76a7b3b0c57d6924086dfd886e2ca04e4932741eec66b3a869837890950d4"), looks := false }, kinds := [], alts := [], laidByText := true, laidKinds := [.data, .data, .data, .data, .pinned], laidTests := true, laidLooks := .later }
def LitBackUptoCardSaid : Prop := Claim7.holds Tryz.pinned (.plain (OpenSpec.upto litBackSpec)) litBackUptoCard

/-- THE SECOND FORM's CARD OF 'ogeelaw06.LitPowers'. -/
def litPowersUptoCard : Claim7 := { stood := { row := litPowersUptoRow, standIns := [], harness := (true, "a1e76a7b3b0c57d6924086dfd886e2ca04e4932741eec66b3a869837890950d4"), looks := false }, kinds := [], alts := [], laidByText := true, laidKinds := [.data, .data, .data, .data, .pinned], laidTests := true, laidLooks := .later }
def LitPowersUptoCardSaid : Prop := Claim7.holds Tryz.pinned (.plain (OpenSpec.upto litPowersSpec)) litPowersUptoCard
end Rows
end Go.Proofs.YtmipcelnmmjplaaGreatDoor
