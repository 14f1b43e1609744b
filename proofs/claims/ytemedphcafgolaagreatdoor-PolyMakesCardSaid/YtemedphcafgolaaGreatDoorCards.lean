/-
  DERIVED. GIVEN WITH THE SEED: THE CARDS: each row of YtemedphcafgolaaGreatDoorRows.lean that lists a variable, with what it lists TIED to the program's text (the seventh form; the later family's looks); each row that meets fmt, with fmt's text TOLD by the authors' own Lean function (tested against real Go, not proved from fmt's source: count such statements apart). THE CARD IS WHAT COUNTS. Prove the row's statement (the work); the ties are given (YtemedphcafgolaaGreatDoorTie.lean); close each card by the builder's one call (the guide's Derived/Test/ToyasCard.lean, 'card_holds'). Laid BY PROGRAM, IN A SANDBOX (cutbox-door.mjs). By AI agents, Wed Nov 11 2026. No macro, syntax, notation, axiom, sorry.
-/
import Derived.Test.YtemedphcafgolaaGreatDoorRows
import GoSem.ClaimSeven
namespace Go.Proofs.YtemedphcafgolaaGreatDoor
namespace Rows

/-- THE TIED CARD OF 'ogeelaw08.PolyMakes'. -/
def polyMakesCard : Claim7 := { stood := { row := polyMakesRow, standIns := [], harness := (true, "4886ea15cb34760752bc1a24db3508cf26982b8b0d95c4762f9c78880cb67ef7"), looks := false }, kinds := [], alts := [], laidByText := true, laidKinds := [.data, .pinned], laidTests := true, laidLooks := .later }
def PolyMakesCardSaid : Prop := Claim7.holds Tryz.pinned (.plain (OpenSpec.ofChange polyMakesSpec)) polyMakesCard

/-- THE TIED CARD OF 'ogeelaw08.PolyMuls'. -/
def polyMulsCard : Claim7 := { stood := { row := polyMulsRow, standIns := [], harness := (true, "4886ea15cb34760752bc1a24db3508cf26982b8b0d95c4762f9c78880cb67ef7"), looks := false }, kinds := [], alts := [], laidByText := true, laidKinds := [.data, .pinned], laidTests := true, laidLooks := .later }
def PolyMulsCardSaid : Prop := Claim7.holds Tryz.pinned (.plain (OpenSpec.ofChange polyMulsSpec)) polyMulsCard

/-- THE TIED CARD OF 'ogeelaw08.PolyRing'. -/
def polyRingCard : Claim7 := { stood := { row := polyRingRow, standIns := [], harness := (true, "4886ea15cb34760752bc1a24db3508cf26982b8b0d95c4762f9c78880cb67ef7"), looks := false }, kinds := [], alts := [], laidByText := true, laidKinds := [.data, .pinned], laidTests := true, laidLooks := .later }
def PolyRingCardSaid : Prop := Claim7.holds Tryz.pinned (.plain (OpenSpec.ofChange polyRingSpec)) polyRingCard

/-- THE TIED CARD OF 'ogeelaw08.PolyForm'. -/
def polyFormCard : Claim7 := { stood := { row := polyFormRow, standIns := [], harness := (true, "4886ea15cb34760752bc1a24db3508cf26982b8b0d95c4762f9c78880cb67ef7"), looks := false }, kinds := [], alts := [], laidByText := true, laidKinds := [.data, .pinned], laidTests := true, laidLooks := .later }
def PolyFormCardSaid : Prop := Claim7.holds Tryz.pinned (.plain (OpenSpec.ofChange polyFormSpec)) polyFormCard

/-- THE SECOND FORM's CARD OF 'ogeelaw08.PolyMakes'. -/
def polyMakesUptoCard : Claim7 := { stood := { row := polyMakesUptoRow, standIns := [], harness := (true, "4886ea15cb34760752bc1a24db3508cf26982b8b0d95c4762f9c78880cb67ef7"), looks := false }, kinds := [], alts := [], laidByText := true, laidKinds := [.data, .pinned], laidTests := true, laidLooks := .later }
def PolyMakesUptoCardSaid : Prop := Claim7.holds Tryz.pinned (.plain (OpenSpec.upto polyMakesSpec)) polyMakesUptoCard

/-- THE SECOND FORM's CARD OF 'ogeelaw08.PolyMuls'. -/
def polyMulsUptoCard : Claim7 := { stood := { row := polyMulsUptoRow, standIns := [], harness := (true, "4886ea15cb34760752bc1a24db3508cf26982b8b0d95c4762f9c78880cb67ef7"), looks := false }, kinds := [], alts := [], laidByText := true, laidKinds := [.data, .pinned], laidTests := true, laidLooks := .later }
def PolyMulsUptoCardSaid : Prop := Claim7.holds Tryz.pinned (.plain (OpenSpec.upto polyMulsSpec)) polyMulsUptoCard

/-- THE SECOND FORM's CARD OF 'ogeelaw08.PolyRing'. -/
def polyRingUptoCard : Claim7 := { stood := { row := polyRingUptoRow, standIns := [], harness := (true, "4886ea15cb34760752bc1a24db3508cf26982b8b0d95c4762f9c78880cb67ef7"), looks := false }, kinds := [], alts := [], laidByText := true, laidKinds := [.data, .pinned], laidTests := true, laidLooks := .later }
def PolyRingUptoCardSaid : Prop := Claim7.holds Tryz.pinned (.plain (OpenSpec.upto polyRingSpec)) polyRingUptoCard

/-- THE SECOND FORM's CARD OF 'ogeelaw08.PolyForm'. -/
def polyFormUptoCard : Claim7 := { stood := { row := polyFormUptoRow, standIns := [], harness := (true, "4886ea15cb34760752bc1a24db3508cf26982b8b0d95c4762f9c78880cb67ef7"), looks := false }, kinds := [], alts := [], laidByText := true, laidKinds := [.data, .pinned], laidTests := true, laidLooks := .later }
def PolyFormUptoCardSaid : Prop := Claim7.holds Tryz.pinned (.plain (OpenSpec.upto polyFormSpec)) polyFormUptoCard
end Rows
end Go.Proofs.YtemedphcafgolaaGreatDoor
