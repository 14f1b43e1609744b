/-
  DERIVED. GIVEN WITH THE SEED: THE CARDS: each row of YtfgolecbchhokaaGreatDoorRows.lean that lists a variable, with what it lists TIED to the program's text (the seventh form; the later family's looks); each row that meets fmt, with fmt's text TOLD by the authors' own Lean function (tested against real Go, not proved from fmt's source: count such statements apart). THE CARD IS WHAT COUNTS. Prove the row's statement (the work); the ties are given (YtfgolecbchhokaaGreatDoorTie.lean); close each card by the builder's one call (the guide's Derived/Test/ToyasCard.lean, 'card_holds'). Laid BY PROGRAM, IN A SANDBOX (cutbox-door.mjs). By AI agents, Wed Nov 11 2026. No macro, syntax, notation, axiom, sorry.
-/
import Derived.Test.YtfgolecbchhokaaGreatDoorRows
import GoSem.ClaimSeven
namespace Go.Proofs.YtfgolecbchhokaaGreatDoor
namespace Rows

/-- THE TIED CARD OF 'ogeelaw03.DigitsPrints'. -/
def digitsPrintsCard : Claim7 := { stood := { row := digitsPrintsRow, standIns := [], harness := (true, "221c58ee23a29426448627b40d4d7cfcd6798a69d20b06d9e98592b6bb710ec3"), looks := false }, kinds := [], alts := [], laidByText := true, laidKinds := [.data, .data, .data, .data, .pinned], laidTests := true, laidLooks := .later }
def DigitsPrintsCardSaid : Prop := Claim7.holds Tryz.pinned (.plain (OpenSpec.ofChange digitsPrintsSpec)) digitsPrintsCard

/-- THE TIED CARD OF 'ogeelaw03.DigitsParses'. -/
def digitsParsesCard : Claim7 := { stood := { row := digitsParsesRow, standIns := [], harness := (true, "221c58ee23a29426448627b40d4d7cfcd6798a69d20b06d9e98592b6bb710ec3"), looks := false }, kinds := [], alts := [], laidByText := true, laidKinds := [.data, .data, .data, .data, .pinned], laidTests := true, laidLooks := .later }
def DigitsParsesCardSaid : Prop := Claim7.holds Tryz.pinned (.plain (OpenSpec.ofChange digitsParsesSpec)) digitsParsesCard

/-- THE TIED CARD OF 'ogeelaw03.DigitsBack'. -/
def digitsBackCard : Claim7 := { stood := { row := digitsBackRow, standIns := [], harness := (true, "221c58ee23a29426448627b40d4d7cfcd6798a69d20b06d9e98592b6bb710ec3"), looks := false }, kinds := [], alts := [], laidByText := true, laidKinds := [.data, .data, .data, .data, .pinned], laidTests := true, laidLooks := .later }
def DigitsBackCardSaid : Prop := Claim7.holds Tryz.pinned (.plain (OpenSpec.ofChange digitsBackSpec)) digitsBackCard

/-- THE TIED CARD OF 'ogeelaw03.DigitsStep'. -/
def digitsStepCard : Claim7 := { stood := { row := digitsStepRow, standIns := [], harness := (true, "221c58ee23a29426448627b40d4d7cfcd6798a69d20b06d9e98592b6bb710ec3"), looks := false }, kinds := [], alts := [], laidByText := true, laidKinds := [.data, .data, .data, .data, .pinned], laidTests := true, laidLooks := .later }
def DigitsStepCardSaid : Prop := Claim7.holds Tryz.pinned (.plain (OpenSpec.ofChange digitsStepSpec)) digitsStepCard

/-- THE TIED CARD OF 'ogeelaw04.DyadForms'. -/
def dyadFormsCard : Claim7 := { stood := { row := dyadFormsRow, standIns := [], harness := (true, "221c58ee23a29426448627b40d4d7cfcd6798a69d20b06d9e98592b6bb710ec3"), looks := false }, kinds := [], alts := [], laidByText := true, laidKinds := [.data, .pinned], laidTests := true, laidLooks := .later }
def DyadFormsCardSaid : Prop := Claim7.holds Tryz.pinned (.plain (OpenSpec.ofChange dyadFormsSpec)) dyadFormsCard

/-- THE TIED CARD OF 'ogeelaw04.DyadAdds'. -/
def dyadAddsCard : Claim7 := { stood := { row := dyadAddsRow, standIns := [], harness := (true, "221c58ee23a29426448627b40d4d7cfcd6798a69d20b06d9e98592b6bb710ec3"), looks := false }, kinds := [], alts := [], laidByText := true, laidKinds := [.data, .pinned], laidTests := true, laidLooks := .later }
def DyadAddsCardSaid : Prop := Claim7.holds Tryz.pinned (.plain (OpenSpec.ofChange dyadAddsSpec)) dyadAddsCard

/-- THE TIED CARD OF 'ogeelaw04.DyadMuls'. -/
def dyadMulsCard : Claim7 := { stood := { row := dyadMulsRow, standIns := [], harness := (true, "221c58ee23a29426448627b40d4d7cfcd6798a69d20b06d9e98592b6bb710ec3"), looks := false }, kinds := [], alts := [], laidByText := true, laidKinds := [.data, .pinned], laidTests := true, laidLooks := .later }
def DyadMulsCardSaid : Prop := Claim7.holds Tryz.pinned (.plain (OpenSpec.ofChange dyadMulsSpec)) dyadMulsCard

/-- THE TIED CARD OF 'ogeelaw04.DyadGrids'. -/
def dyadGridsCard : Claim7 := { stood := { row := dyadGridsRow, standIns := [], harness := (true, "221c58ee23a29426448627b40d4d7cfcd6798a69d20b06d9e98592b6bb710ec3"), looks := false }, kinds := [], alts := [], laidByText := true, laidKinds := [.data, .pinned], laidTests := true, laidLooks := .later }
def DyadGridsCardSaid : Prop := Claim7.holds Tryz.pinned (.plain (OpenSpec.ofChange dyadGridsSpec)) dyadGridsCard

/-- THE TIED CARD OF 'ogeelaw04.DyadRing'. -/
def dyadRingCard : Claim7 := { stood := { row := dyadRingRow, standIns := [], harness := (true, "221c58ee23a29426448627b40d4d7cfcd6798a69d20b06d9e98592b6bb710ec3"), looks := false }, kinds := [], alts := [], laidByText := true, laidKinds := [.data, .pinned], laidTests := true, laidLooks := .later }
def DyadRingCardSaid : Prop := Claim7.holds Tryz.pinned (.plain (OpenSpec.ofChange dyadRingSpec)) dyadRingCard

/-- THE TIED CARD OF 'ogeelaw04.DyadOrder'. -/
def dyadOrderCard : Claim7 := { stood := { row := dyadOrderRow, standIns := [], harness := (true, "221c58ee23a29426448627b40d4d7cfcd6798a69d20b06d9e98592b6bb710ec3"), looks := false }, kinds := [], alts := [], laidByText := true, laidKinds := [.data, .pinned], laidTests := true, laidLooks := .later }
def DyadOrderCardSaid : Prop := Claim7.holds Tryz.pinned (.plain (OpenSpec.ofChange dyadOrderSpec)) dyadOrderCard

/-- THE TIED CARD OF 'ogeelaw04.DyadGrid'. -/
def dyadGridCard : Claim7 := { stood := { row := dyadGridRow, standIns := [], harness := (true, "221c58ee23a29426448627b40d4d7cfcd6798a69d20b06d9e98592b6bb710ec3"), looks := false }, kinds := [], alts := [], laidByText := true, laidKinds := [.data, .pinned], laidTests := true, laidLooks := .later }
def DyadGridCardSaid : Prop := Claim7.holds Tryz.pinned (.plain (OpenSpec.ofChange dyadGridSpec)) dyadGridCard

/-- THE SECOND FORM's CARD OF 'ogeelaw03.DigitsPrints'. -/
def digitsPrintsUptoCard : Claim7 := { stood := { row := digitsPrintsUptoRow, standIns := [], harness := (true, "221c58ee23a29426448627b40d4d7cfcd6798a69d20b06d9e98592b6bb710ec3"), looks := false }, kinds := [], alts := [], laidByText := true, laidKinds := [.data, .data, .data, .data, .pinned], laidTests := true, laidLooks := .later }
def DigitsPrintsUptoCardSaid : Prop := Claim7.holds Tryz.pinned (.plain (OpenSpec.upto digitsPrintsSpec)) digitsPrintsUptoCard

/-- THE SECOND FORM's CARD OF 'ogeelaw03.DigitsParses'. -/
def digitsParsesUptoCard : Claim7 := { stood := { row := digitsParsesUptoRow, standIns := [], harness := (true, "221c58ee23a29426448627b40d4d7cfcd6798a69d20b06d9e98592b6bb710ec3"), looks := false }, kinds := [], alts := [], laidByText := true, laidKinds := [.data, .data, .data, .data, .pinned], laidTests := true, laidLooks := .later }
def DigitsParsesUptoCardSaid : Prop := Claim7.holds Tryz.pinned (.plain (OpenSpec.upto digitsParsesSpec)) digitsParsesUptoCard

/-- THE SECOND FORM's CARD OF 'ogeelaw03.DigitsBack'. -/
def digitsBackUptoCard : Claim7 := { stood := { row := digitsBackUptoRow, standIns := [], harness := (true, "221c58ee23a29426448627b40d4d7cfcd6798a69d20b06d9e98592b6bb710ec3"), looks := false }, kinds := [], alts := [], laidByText := true, laidKinds := [.data, .data, .data, .data, .pinned], laidTests := true, laidLooks := .later }
def DigitsBackUptoCardSaid : Prop := Claim7.holds Tryz.pinned (.plain (OpenSpec.upto digitsBackSpec)) digitsBackUptoCard

/-- THE SECOND FORM's CARD OF 'ogeelaw03.DigitsStep'. -/
def digitsStepUptoCard : Claim7 := { stood := { row := digitsStepUptoRow, standIns := [], harness := (true, "221c58ee23a29426448627b40d4d7cfcd6798a69d20b06d9e98592b6bb710ec3"), looks := false }, kinds := [], alts := [], laidByText := true, laidKinds := [.data, .data, .data, .data, .pinned], laidTests := true, laidLooks := .later }
def DigitsStepUptoCardSaid : Prop := Claim7.holds Tryz.pinned (.plain (OpenSpec.upto digitsStepSpec)) digitsStepUptoCard

/-- THE SECOND FORM's CARD OF 'ogeelaw04.DyadForms'. -/
def dyadFormsUptoCard : Claim7 := { stood := { row := dyadFormsUptoRow, standIns := [], harness := (true, "221c58ee23a29426448627b40d4d7cfcd6798a69d20b06d9e98592b6bb710ec3"), looks := false }, kinds := [], alts := [], laidByText := true, laidKinds := [.data, .pinned], laidTests := true, laidLooks := .later }
def DyadFormsUptoCardSaid : Prop := Claim7.holds Tryz.pinned (.plain (OpenSpec.upto dyadFormsSpec)) dyadFormsUptoCard

/-- THE SECOND FORM's CARD OF 'ogeelaw04.DyadAdds'. -/
def dyadAddsUptoCard : Claim7 := { stood := { row := dyadAddsUptoRow, standIns := [], harness := (true, "221c58ee23a29426448627b40d4d7cfcd6798a69d20b06d9e98592b6bb710ec3"), looks := false }, kinds := [], alts := [], laidByText := true, laidKinds := [.data, .pinned], laidTests := true, laidLooks := .later }
def DyadAddsUptoCardSaid : Prop := Claim7.holds Tryz.pinned (.plain (OpenSpec.upto dyadAddsSpec)) dyadAddsUptoCard

/-- THE SECOND FORM's CARD OF 'ogeelaw04.DyadMuls'. -/
def dyadMulsUptoCard : Claim7 := { stood := { row := dyadMulsUptoRow, standIns := [], harness := (true, "221c58ee23a29426448627b40d4d7cfcd6798a69d20b06d9e98592b6bb710ec3"), looks := false }, kinds := [], alts := [], laidByText := true, laidKinds := [.data, .pinned], laidTests := true, laidLooks := .later }
def DyadMulsUptoCardSaid : Prop := Claim7.holds Tryz.pinned (.plain (OpenSpec.upto dyadMulsSpec)) dyadMulsUptoCard

/-- THE SECOND FORM's CARD OF 'ogeelaw04.DyadGrids'. -/
def dyadGridsUptoCard : Claim7 := { stood := { row := dyadGridsUptoRow, standIns := [], harness := (true, "221c58ee23a29426448627b40d4d7cfcd6798a69d20b06d9e98592b6bb710ec3"), looks := false }, kinds := [], alts := [], laidByText := true, laidKinds := [.data, .pinned], laidTests := true, laidLooks := .later }
def DyadGridsUptoCardSaid : Prop := Claim7.holds Tryz.pinned (.plain (OpenSpec.upto dyadGridsSpec)) dyadGridsUptoCard

/-- THE SECOND FORM's CARD OF 'ogeelaw04.DyadRing'. -/
def dyadRingUptoCard : Claim7 := { stood := { row := dyadRingUptoRow, standIns := [], harness := (true, "221c58ee23a29426448627b40d4d7cfcd6798a69d20b06d9e98592b6bb710ec3"), looks := false }, kinds := [], alts := [], laidByText := true, laidKinds := [.data, .pinned], laidTests := true, laidLooks := .later }
def DyadRingUptoCardSaid : Prop := Claim7.holds Tryz.pinned (.plain (OpenSpec.upto dyadRingSpec)) dyadRingUptoCard

/-- THE SECOND FORM's CARD OF 'ogeelaw04.DyadOrder'. -/
def dyadOrderUptoCard : Claim7 := { stood := { row := dyadOrderUptoRow, standIns := [], harness := (true, "221c58ee23a29426448627b40d4d7cfcd6798a69d20b06d9e98592b6bb710ec3"), looks := false }, kinds := [], alts := [], laidByText := true, laidKinds := [.data, .pinned], laidTests := true, laidLooks := .later }
def DyadOrderUptoCardSaid : Prop := Claim7.holds Tryz.pinned (.plain (OpenSpec.upto dyadOrderSpec)) dyadOrderUptoCard

/-- THE SECOND FORM's CARD OF 'ogeelaw04.DyadGrid'. -/
def dyadGridUptoCard : Claim7 := { stood := { row := dyadGridUptoRow, standIns := [], harness := (true, "221c58ee23a29426448627b40d4d7cfcd6798a69d20b06d9e98592b6bb710ec3"), looks := false }, kinds := [], alts := [], laidByText := true, laidKinds := [.data, .pinned], laidTests := true, laidLooks := .later }
def DyadGridUptoCardSaid : Prop := Claim7.holds Tryz.pinned (.plain (OpenSpec.upto dyadGridSpec)) dyadGridUptoCard
end Rows
end Go.Proofs.YtfgolecbchhokaaGreatDoor
