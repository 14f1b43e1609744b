/-
  DERIVED. GIVEN WITH THE SEED: THE CARDS: each row of YtpahmnifkinpiaaGreatDoorRows.lean that lists a variable, with what it lists TIED to the program's text (the seventh form; the later family's looks); each row that meets fmt, with fmt's text TOLD by the authors' own Lean function (tested against real Go, not proved from fmt's source: count such statements apart). THE CARD IS WHAT COUNTS. Prove the row's statement (the work); the ties are given (YtpahmnifkinpiaaGreatDoorTie.lean); close each card by the builder's one call (the guide's Derived/Test/ToyasCard.lean, 'card_holds'). Laid BY PROGRAM, IN A SANDBOX (cutbox-door.mjs). By AI agents, Wed Nov 11 2026. No macro, syntax, notation, axiom, sorry.
-/
import Derived.Test.YtpahmnifkinpiaaGreatDoorRows
import GoSem.ClaimSeven
namespace Go.Proofs.YtpahmnifkinpiaaGreatDoor
namespace Rows

/-- THE TIED CARD OF 'ogeelaw04.DyadForms'. -/
def dyadFormsCard : Claim7 := { stood := { row := dyadFormsRow, standIns := [], harness := (true, "b120546a5618131919ed2550ea6a2be1c683c5eddd50cb8c30ab28c9c3134b83"), looks := false }, kinds := [], alts := [], laidByText := true, laidKinds := [.data, .pinned], laidTests := true, laidLooks := .later }
def DyadFormsCardSaid : Prop := Claim7.holds Tryz.pinned (.plain (OpenSpec.ofChange dyadFormsSpec)) dyadFormsCard

/-- THE TIED CARD OF 'ogeelaw04.DyadAdds'. -/
def dyadAddsCard : Claim7 := { stood := { row := dyadAddsRow, standIns := [], harness := (true, "b120546a5618131919ed2550ea6a2be1c683c5eddd50cb8c30ab28c9c3134b83"), looks := false }, kinds := [], alts := [], laidByText := true, laidKinds := [.data, .pinned], laidTests := true, laidLooks := .later }
def DyadAddsCardSaid : Prop := Claim7.holds Tryz.pinned (.plain (OpenSpec.ofChange dyadAddsSpec)) dyadAddsCard

/-- THE TIED CARD OF 'ogeelaw04.DyadMuls'. -/
def dyadMulsCard : Claim7 := { stood := { row := dyadMulsRow, standIns := [], harness := (true, "b120546a5618131919ed2550ea6a2be1c683c5eddd50cb8c30ab28c9c3134b83"), looks := false }, kinds := [], alts := [], laidByText := true, laidKinds := [.data, .pinned], laidTests := true, laidLooks := .later }
def DyadMulsCardSaid : Prop := Claim7.holds Tryz.pinned (.plain (OpenSpec.ofChange dyadMulsSpec)) dyadMulsCard

/-- THE TIED CARD OF 'ogeelaw04.DyadGrids'. -/
def dyadGridsCard : Claim7 := { stood := { row := dyadGridsRow, standIns := [], harness := (true, "b120546a5618131919ed2550ea6a2be1c683c5eddd50cb8c30ab28c9c3134b83"), looks := false }, kinds := [], alts := [], laidByText := true, laidKinds := [.data, .pinned], laidTests := true, laidLooks := .later }
def DyadGridsCardSaid : Prop := Claim7.holds Tryz.pinned (.plain (OpenSpec.ofChange dyadGridsSpec)) dyadGridsCard

/-- THE TIED CARD OF 'ogeelaw04.DyadRing'. -/
def dyadRingCard : Claim7 := { stood := { row := dyadRingRow, standIns := [], harness := (true, "b120546a5618131919ed2550ea6a2be1c683c5eddd50cb8c30ab28c9c3134b83"), looks := false }, kinds := [], alts := [], laidByText := true, laidKinds := [.data, .pinned], laidTests := true, laidLooks := .later }
def DyadRingCardSaid : Prop := Claim7.holds Tryz.pinned (.plain (OpenSpec.ofChange dyadRingSpec)) dyadRingCard

/-- THE TIED CARD OF 'ogeelaw04.DyadOrder'. -/
def dyadOrderCard : Claim7 := { stood := { row := dyadOrderRow, standIns := [], harness := (true, "b120546a5618131919ed2550ea6a2be1c683c5eddd50cb8c30ab28c9c3134b83"), looks := false }, kinds := [], alts := [], laidByText := true, laidKinds := [.data, .pinned], laidTests := true, laidLooks := .later }
def DyadOrderCardSaid : Prop := Claim7.holds Tryz.pinned (.plain (OpenSpec.ofChange dyadOrderSpec)) dyadOrderCard

/-- THE TIED CARD OF 'ogeelaw04.DyadGrid'. -/
def dyadGridCard : Claim7 := { stood := { row := dyadGridRow, standIns := [], harness := (true, "b120546a5618131919ed2550ea6a2be1c683c5eddd50cb8c30ab28c9c3134b83"), looks := false }, kinds := [], alts := [], laidByText := true, laidKinds := [.data, .pinned], laidTests := true, laidLooks := .later }
def DyadGridCardSaid : Prop := Claim7.holds Tryz.pinned (.plain (OpenSpec.ofChange dyadGridSpec)) dyadGridCard

/-- THE TIED CARD OF 'ogeelaw05.SpanForms'. -/
def spanFormsCard : Claim7 := { stood := { row := spanFormsRow, standIns := [], harness := (true, "b120546a5618131919ed2550ea6a2be1c683c5eddd50cb8c30ab28c9c3134b83"), looks := false }, kinds := [], alts := [], laidByText := true, laidKinds := [.data, .pinned], laidTests := true, laidLooks := .later }
def SpanFormsCardSaid : Prop := Claim7.holds Tryz.pinned (.plain (OpenSpec.ofChange spanFormsSpec)) spanFormsCard

/-- THE TIED CARD OF 'ogeelaw05.SpanMeets'. -/
def spanMeetsCard : Claim7 := { stood := { row := spanMeetsRow, standIns := [], harness := (true, "b120546a5618131919ed2550ea6a2be1c683c5eddd50cb8c30ab28c9c3134b83"), looks := false }, kinds := [], alts := [], laidByText := true, laidKinds := [.data, .pinned], laidTests := true, laidLooks := .later }
def SpanMeetsCardSaid : Prop := Claim7.holds Tryz.pinned (.plain (OpenSpec.ofChange spanMeetsSpec)) spanMeetsCard

/-- THE TIED CARD OF 'ogeelaw05.SpanRing'. -/
def spanRingCard : Claim7 := { stood := { row := spanRingRow, standIns := [], harness := (true, "b120546a5618131919ed2550ea6a2be1c683c5eddd50cb8c30ab28c9c3134b83"), looks := false }, kinds := [], alts := [], laidByText := true, laidKinds := [.data, .pinned], laidTests := true, laidLooks := .later }
def SpanRingCardSaid : Prop := Claim7.holds Tryz.pinned (.plain (OpenSpec.ofChange spanRingSpec)) spanRingCard

/-- THE TIED CARD OF 'ogeelaw05.SpanQuos'. -/
def spanQuosCard : Claim7 := { stood := { row := spanQuosRow, standIns := [], harness := (true, "b120546a5618131919ed2550ea6a2be1c683c5eddd50cb8c30ab28c9c3134b83"), looks := false }, kinds := [], alts := [], laidByText := true, laidKinds := [.data, .pinned], laidTests := true, laidLooks := .later }
def SpanQuosCardSaid : Prop := Claim7.holds Tryz.pinned (.plain (OpenSpec.ofChange spanQuosSpec)) spanQuosCard

/-- THE TIED CARD OF 'ogeelaw05.SpanInside'. -/
def spanInsideCard : Claim7 := { stood := { row := spanInsideRow, standIns := [], harness := (true, "b120546a5618131919ed2550ea6a2be1c683c5eddd50cb8c30ab28c9c3134b83"), looks := false }, kinds := [], alts := [], laidByText := true, laidKinds := [.data, .pinned], laidTests := true, laidLooks := .later }
def SpanInsideCardSaid : Prop := Claim7.holds Tryz.pinned (.plain (OpenSpec.ofChange spanInsideSpec)) spanInsideCard

/-- THE TIED CARD OF 'ogeelaw05.SpanWithin'. -/
def spanWithinCard : Claim7 := { stood := { row := spanWithinRow, standIns := [], harness := (true, "b120546a5618131919ed2550ea6a2be1c683c5eddd50cb8c30ab28c9c3134b83"), looks := false }, kinds := [], alts := [], laidByText := true, laidKinds := [.data, .pinned], laidTests := true, laidLooks := .later }
def SpanWithinCardSaid : Prop := Claim7.holds Tryz.pinned (.plain (OpenSpec.ofChange spanWithinSpec)) spanWithinCard

/-- THE TIED CARD OF 'ogeelaw05.SpanTight'. -/
def spanTightCard : Claim7 := { stood := { row := spanTightRow, standIns := [], harness := (true, "b120546a5618131919ed2550ea6a2be1c683c5eddd50cb8c30ab28c9c3134b83"), looks := false }, kinds := [], alts := [], laidByText := true, laidKinds := [.data, .pinned], laidTests := true, laidLooks := .later }
def SpanTightCardSaid : Prop := Claim7.holds Tryz.pinned (.plain (OpenSpec.ofChange spanTightSpec)) spanTightCard

/-- THE SECOND FORM's CARD OF 'ogeelaw04.DyadForms'. -/
def dyadFormsUptoCard : Claim7 := { stood := { row := dyadFormsUptoRow, standIns := [], harness := (true, "b120546a5618131919ed2550ea6a2be1c683c5eddd50cb8c30ab28c9c3134b83"), looks := false }, kinds := [], alts := [], laidByText := true, laidKinds := [.data, .pinned], laidTests := true, laidLooks := .later }
def DyadFormsUptoCardSaid : Prop := Claim7.holds Tryz.pinned (.plain (OpenSpec.upto dyadFormsSpec)) dyadFormsUptoCard

/-- THE SECOND FORM's CARD OF 'ogeelaw04.DyadAdds'. -/
def dyadAddsUptoCard : Claim7 := { stood := { row := dyadAddsUptoRow, standIns := [], harness := (true, "b120546a5618131919ed2550ea6a2be1c683c5eddd50cb8c30ab28c9c3134b83"), looks := false }, kinds := [], alts := [], laidByText := true, laidKinds := [.data, .pinned], laidTests := true, laidLooks := .later }
def DyadAddsUptoCardSaid : Prop := Claim7.holds Tryz.pinned (.plain (OpenSpec.upto dyadAddsSpec)) dyadAddsUptoCard

/-- THE SECOND FORM's CARD OF 'ogeelaw04.DyadMuls'. -/
def dyadMulsUptoCard : Claim7 := { stood := { row := dyadMulsUptoRow, standIns := [], harness := (true, "b120546a5618131919ed2550ea6a2be1c683c5eddd50cb8c30ab28c9c3134b83"), looks := false }, kinds := [], alts := [], laidByText := true, laidKinds := [.data, .pinned], laidTests := true, laidLooks := .later }
def DyadMulsUptoCardSaid : Prop := Claim7.holds Tryz.pinned (.plain (OpenSpec.upto dyadMulsSpec)) dyadMulsUptoCard

/-- THE SECOND FORM's CARD OF 'ogeelaw04.DyadGrids'. -/
def dyadGridsUptoCard : Claim7 := { stood := { row := dyadGridsUptoRow, standIns := [], harness := (true, "b120546a5618131919ed2550ea6a2be1c683c5eddd50cb8c30ab28c9c3134b83"), looks := false }, kinds := [], alts := [], laidByText := true, laidKinds := [.data, .pinned], laidTests := true, laidLooks := .later }
def DyadGridsUptoCardSaid : Prop := Claim7.holds Tryz.pinned (.plain (OpenSpec.upto dyadGridsSpec)) dyadGridsUptoCard

/-- THE SECOND FORM's CARD OF 'ogeelaw04.DyadRing'. -/
def dyadRingUptoCard : Claim7 := { stood := { row := dyadRingUptoRow, standIns := [], harness := (true, "b120546a5618131919ed2550ea6a2be1c683c5eddd50cb8c30ab28c9c3134b83"), looks := false }, kinds := [], alts := [], laidByText := true, laidKinds := [.data, .pinned], laidTests := true, laidLooks := .later }
def DyadRingUptoCardSaid : Prop := Claim7.holds Tryz.pinned (.plain (OpenSpec.upto dyadRingSpec)) dyadRingUptoCard

/-- THE SECOND FORM's CARD OF 'ogeelaw04.DyadOrder'. -/
def dyadOrderUptoCard : Claim7 := { stood := { row := dyadOrderUptoRow, standIns := [], harness := (true, "b120546a5618131919ed2550ea6a2be1c683c5eddd50cb8c30ab28c9c3134b83"), looks := false }, kinds := [], alts := [], laidByText := true, laidKinds := [.data, .pinned], laidTests := true, laidLooks := .later }
def DyadOrderUptoCardSaid : Prop := Claim7.holds Tryz.pinned (.plain (OpenSpec.upto dyadOrderSpec)) dyadOrderUptoCard

/-- THE SECOND FORM's CARD OF 'ogeelaw04.DyadGrid'. -/
def dyadGridUptoCard : Claim7 := { stood := { row := dyadGridUptoRow, standIns := [], harness := (true, "b120546a5618131919ed2550ea6a2be1c683c5eddd50cb8c30ab28c9c3134b83"), looks := false }, kinds := [], alts := [], laidByText := true, laidKinds := [.data, .pinned], laidTests := true, laidLooks := .later }
def DyadGridUptoCardSaid : Prop := Claim7.holds Tryz.pinned (.plain (OpenSpec.upto dyadGridSpec)) dyadGridUptoCard

/-- THE SECOND FORM's CARD OF 'ogeelaw05.SpanForms'. -/
def spanFormsUptoCard : Claim7 := { stood := { row := spanFormsUptoRow, standIns := [], harness := (true, "b120546a5618131919ed2550ea6a2be1c683c5eddd50cb8c30ab28c9c3134b83"), looks := false }, kinds := [], alts := [], laidByText := true, laidKinds := [.data, .pinned], laidTests := true, laidLooks := .later }
def SpanFormsUptoCardSaid : Prop := Claim7.holds Tryz.pinned (.plain (OpenSpec.upto spanFormsSpec)) spanFormsUptoCard

/-- THE SECOND FORM's CARD OF 'ogeelaw05.SpanMeets'. -/
def spanMeetsUptoCard : Claim7 := { stood := { row := spanMeetsUptoRow, standIns := [], harness := (true, "b120546a5618131919ed2550ea6a2be1c683c5eddd50cb8c30ab28c9c3134b83"), looks := false }, kinds := [], alts := [], laidByText := true, laidKinds := [.data, .pinned], laidTests := true, laidLooks := .later }
def SpanMeetsUptoCardSaid : Prop := Claim7.holds Tryz.pinned (.plain (OpenSpec.upto spanMeetsSpec)) spanMeetsUptoCard

/-- THE SECOND FORM's CARD OF 'ogeelaw05.SpanRing'. -/
def spanRingUptoCard : Claim7 := { stood := { row := spanRingUptoRow, standIns := [], harness := (true, "b120546a5618131919ed2550ea6a2be1c683c5eddd50cb8c30ab28c9c3134b83"), looks := false }, kinds := [], alts := [], laidByText := true, laidKinds := [.data, .pinned], laidTests := true, laidLooks := .later }
def SpanRingUptoCardSaid : Prop := Claim7.holds Tryz.pinned (.plain (OpenSpec.upto spanRingSpec)) spanRingUptoCard

/-- THE SECOND FORM's CARD OF 'ogeelaw05.SpanQuos'. -/
def spanQuosUptoCard : Claim7 := { stood := { row := spanQuosUptoRow, standIns := [], harness := (true, "b120546a5618131919ed2550ea6a2be1c683c5eddd50cb8c30ab28c9c3134b83"), looks := false }, kinds := [], alts := [], laidByText := true, laidKinds := [.data, .pinned], laidTests := true, laidLooks := .later }
def SpanQuosUptoCardSaid : Prop := Claim7.holds Tryz.pinned (.plain (OpenSpec.upto spanQuosSpec)) spanQuosUptoCard

/-- THE SECOND FORM's CARD OF 'ogeelaw05.SpanInside'. -/
def spanInsideUptoCard : Claim7 := { stood := { row := spanInsideUptoRow, standIns := [], harness := (true, "b120546a5618131919ed2550ea6a2be1c683c5eddd50cb8c30ab28c9c3134b83"), looks := false }, kinds := [], alts := [], laidByText := true, laidKinds := [.data, .pinned], laidTests := true, laidLooks := .later }
def SpanInsideUptoCardSaid : Prop := Claim7.holds Tryz.pinned (.plain (OpenSpec.upto spanInsideSpec)) spanInsideUptoCard

/-- THE SECOND FORM's CARD OF 'ogeelaw05.SpanWithin'. -/
def spanWithinUptoCard : Claim7 := { stood := { row := spanWithinUptoRow, standIns := [], harness := (true, "b120546a5618131919ed2550ea6a2be1c683c5eddd50cb8c30ab28c9c3134b83"), looks := false }, kinds := [], alts := [], laidByText := true, laidKinds := [.data, .pinned], laidTests := true, laidLooks := .later }
def SpanWithinUptoCardSaid : Prop := Claim7.holds Tryz.pinned (.plain (OpenSpec.upto spanWithinSpec)) spanWithinUptoCard

/-- THE SECOND FORM's CARD OF 'ogeelaw05.SpanTight'. -/
def spanTightUptoCard : Claim7 := { stood := { row := spanTightUptoRow, standIns := [], harness := (true, "b120546a5618131919ed2550ea6a2be1c683c5eddd50cb8c30ab28c9c3134b83"), looks := false }, kinds := [], alts := [], laidByText := true, laidKinds := [.data, .pinned], laidTests := true, laidLooks := .later }
def SpanTightUptoCardSaid : Prop := Claim7.holds Tryz.pinned (.plain (OpenSpec.upto spanTightSpec)) spanTightUptoCard
end Rows
end Go.Proofs.YtpahmnifkinpiaaGreatDoor
