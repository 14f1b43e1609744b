/-
  DERIVED. GIVEN WITH THE SEED: THE CARDS: each row of YthggjlkeadjhcaaGreatDoorRows.lean that lists a variable, with what it lists TIED to the program's text (the seventh form; the later family's looks); each row that meets fmt, with fmt's text TOLD by the authors' own Lean function (tested against real Go, not proved from fmt's source: count such statements apart). THE CARD IS WHAT COUNTS. Prove the row's statement (the work); the ties are given (YthggjlkeadjhcaaGreatDoorTie.lean); close each card by the builder's one call (the guide's Derived/Test/ToyasCard.lean, 'card_holds'). Laid BY PROGRAM, IN A SANDBOX (cutbox-door.mjs). By AI agents, Wed Nov 11 2026. No macro, syntax, notation, axiom, sorry.
-/
import Derived.Test.YthggjlkeadjhcaaGreatDoorRows
import GoSem.ClaimSeven
namespace Go.Proofs.YthggjlkeadjhcaaGreatDoor
namespace Rows

/-- THE TIED CARD OF 'ogeelaw05.SpanForms'. -/
def spanFormsCard : Claim7 := { stood := { row := spanFormsRow, standIns := [], harness := (true, "70c9cad26ea943928d66d29dd7317c0534fd02ad657f27dc044b183abd8b1fa9"), looks := false }, kinds := [], alts := [], laidByText := true, laidKinds := [.data, .pinned], laidTests := true, laidLooks := .later }
def SpanFormsCardSaid : Prop := Claim7.holds Tryz.pinned (.plain (OpenSpec.ofChange spanFormsSpec)) spanFormsCard

/-- THE TIED CARD OF 'ogeelaw05.SpanMeets'. -/
def spanMeetsCard : Claim7 := { stood := { row := spanMeetsRow, standIns := [], harness := (true, "70c9cad26ea943928d66d29dd7317c0534fd02ad657f27dc044b183abd8b1fa9"), looks := false }, kinds := [], alts := [], laidByText := true, laidKinds := [.data, .pinned], laidTests := true, laidLooks := .later }
def SpanMeetsCardSaid : Prop := Claim7.holds Tryz.pinned (.plain (OpenSpec.ofChange spanMeetsSpec)) spanMeetsCard

/-- THE TIED CARD OF 'ogeelaw05.SpanRing'. -/
def spanRingCard : Claim7 := { stood := { row := spanRingRow, standIns := [], harness := (true, "70c9cad26ea943928d66d29dd7317c0534fd02ad657f27dc044b183abd8b1fa9"), looks := false }, kinds := [], alts := [], laidByText := true, laidKinds := [.data, .pinned], laidTests := true, laidLooks := .later }
def SpanRingCardSaid : Prop := Claim7.holds Tryz.pinned (.plain (OpenSpec.ofChange spanRingSpec)) spanRingCard

/-- THE TIED CARD OF 'ogeelaw05.SpanQuos'. -/
def spanQuosCard : Claim7 := { stood := { row := spanQuosRow, standIns := [], harness := (true, "70c9cad26ea943928d66d29dd7317c0534fd02ad657f27dc044b183abd8b1fa9"), looks := false }, kinds := [], alts := [], laidByText := true, laidKinds := [.data, .pinned], laidTests := true, laidLooks := .later }
def SpanQuosCardSaid : Prop := Claim7.holds Tryz.pinned (.plain (OpenSpec.ofChange spanQuosSpec)) spanQuosCard

/-- THE TIED CARD OF 'ogeelaw05.SpanInside'. -/
def spanInsideCard : Claim7 := { stood := { row := spanInsideRow, standIns := [], harness := (true, "70c9cad26ea943928d66d29dd7317c0534fd02ad657f27dc044b183abd8b1fa9"), looks := false }, kinds := [], alts := [], laidByText := true, laidKinds := [.data, .pinned], laidTests := true, laidLooks := .later }
def SpanInsideCardSaid : Prop := Claim7.holds Tryz.pinned (.plain (OpenSpec.ofChange spanInsideSpec)) spanInsideCard

/-- THE TIED CARD OF 'ogeelaw05.SpanWithin'. -/
def spanWithinCard : Claim7 := { stood := { row := spanWithinRow, standIns := [], harness := (true, "70c9cad26ea943928d66d29dd7317c0534fd02ad657f27dc044b183abd8b1fa9"), looks := false }, kinds := [], alts := [], laidByText := true, laidKinds := [.data, .pinned], laidTests := true, laidLooks := .later }
def SpanWithinCardSaid : Prop := Claim7.holds Tryz.pinned (.plain (OpenSpec.ofChange spanWithinSpec)) spanWithinCard

/-- THE TIED CARD OF 'ogeelaw05.SpanTight'. -/
def spanTightCard : Claim7 := { stood := { row := spanTightRow, standIns := [], harness := (true, "70c9cad26ea943928d66d29dd7317c0534fd02ad657f27dc044b183abd8b1fa9"), looks := false }, kinds := [], alts := [], laidByText := true, laidKinds := [.data, .pinned], laidTests := true, laidLooks := .later }
def SpanTightCardSaid : Prop := Claim7.holds Tryz.pinned (.plain (OpenSpec.ofChange spanTightSpec)) spanTightCard

/-- THE SECOND FORM's CARD OF 'ogeelaw05.SpanForms'. -/
def spanFormsUptoCard : Claim7 := { stood := { row := spanFormsUptoRow, standIns := [], harness := (true, "70c9cad26ea943928d66d29dd7317c0534fd02ad657f27dc044b183abd8b1fa9"), looks := false }, kinds := [], alts := [], laidByText := true, laidKinds := [.data, .pinned], laidTests := true, laidLooks := .later }
def SpanFormsUptoCardSaid : Prop := Claim7.holds Tryz.pinned (.plain (OpenSpec.upto spanFormsSpec)) spanFormsUptoCard

/-- THE SECOND FORM's CARD OF 'ogeelaw05.SpanMeets'. -/
def spanMeetsUptoCard : Claim7 := { stood := { row := spanMeetsUptoRow, standIns := [], harness := (true, "70c9cad26ea943928d66d29dd7317c0534fd02ad657f27dc044b183abd8b1fa9"), looks := false }, kinds := [], alts := [], laidByText := true, laidKinds := [.data, .pinned], laidTests := true, laidLooks := .later }
def SpanMeetsUptoCardSaid : Prop := Claim7.holds Tryz.pinned (.plain (OpenSpec.upto spanMeetsSpec)) spanMeetsUptoCard

/-- THE SECOND FORM's CARD OF 'ogeelaw05.SpanRing'. -/
def spanRingUptoCard : Claim7 := { stood := { row := spanRingUptoRow, standIns := [], harness := (true, "70c9cad26ea943928d66d29dd7317c0534fd02ad657f27dc044b183abd8b1fa9"), looks := false }, kinds := [], alts := [], laidByText := true, laidKinds := [.data, .pinned], laidTests := true, laidLooks := .later }
def SpanRingUptoCardSaid : Prop := Claim7.holds Tryz.pinned (.plain (OpenSpec.upto spanRingSpec)) spanRingUptoCard

/-- THE SECOND FORM's CARD OF 'ogeelaw05.SpanQuos'. -/
def spanQuosUptoCard : Claim7 := { stood := { row := spanQuosUptoRow, standIns := [], harness := (true, "70c9cad26ea943928d66d29dd7317c0534fd02ad657f27dc044b183abd8b1fa9"), looks := false }, kinds := [], alts := [], laidByText := true, laidKinds := [.data, .pinned], laidTests := true, laidLooks := .later }
def SpanQuosUptoCardSaid : Prop := Claim7.holds Tryz.pinned (.plain (OpenSpec.upto spanQuosSpec)) spanQuosUptoCard

/-- THE SECOND FORM's CARD OF 'ogeelaw05.SpanInside'. -/
def spanInsideUptoCard : Claim7 := { stood := { row := spanInsideUptoRow, standIns := [], harness := (true, "70c9cad26ea943928d66d29dd7317c0534fd02ad657f27dc044b183abd8b1fa9"), looks := false }, kinds := [], alts := [], laidByText := true, laidKinds := [.data, .pinned], laidTests := true, laidLooks := .later }
def SpanInsideUptoCardSaid : Prop := Claim7.holds Tryz.pinned (.plain (OpenSpec.upto spanInsideSpec)) spanInsideUptoCard

/-- THE SECOND FORM's CARD OF 'ogeelaw05.SpanWithin'. -/
def spanWithinUptoCard : Claim7 := { stood := { row := spanWithinUptoRow, standIns := [], harness := (true, "70c9cad26ea943928d66d29dd7317c0534fd02ad657f27dc044b183abd8b1fa9"), looks := false }, kinds := [], alts := [], laidByText := true, laidKinds := [.data, .pinned], laidTests := true, laidLooks := .later }
def SpanWithinUptoCardSaid : Prop := Claim7.holds Tryz.pinned (.plain (OpenSpec.upto spanWithinSpec)) spanWithinUptoCard

/-- THE SECOND FORM's CARD OF 'ogeelaw05.SpanTight'. -/
def spanTightUptoCard : Claim7 := { stood := { row := spanTightUptoRow, standIns := [], harness := (true, "70c9cad26ea943928d66d29dd7317c0534fd02ad657f27dc044b183abd8b1fa9"), looks := false }, kinds := [], alts := [], laidByText := true, laidKinds := [.data, .pinned], laidTests := true, laidLooks := .later }
def SpanTightUptoCardSaid : Prop := Claim7.holds Tryz.pinned (.plain (OpenSpec.upto spanTightSpec)) spanTightUptoCard
end Rows
end Go.Proofs.YthggjlkeadjhcaaGreatDoor
