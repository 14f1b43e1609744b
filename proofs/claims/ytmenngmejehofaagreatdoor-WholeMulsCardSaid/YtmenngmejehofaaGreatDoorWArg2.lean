/- A row of Ints among the arguments, opened. -/
import Derived.Test.YtmenngmejehofaaGreatDoorWRow
import Derived.Test.YtmenngmejehofaaGreatDoorWArg
import Derived.Deep.Strs
import Derived.Carry
import Derived.ProofKit
namespace Go.Proofs.YtmenngmejehofaaGreatDoor
open Go.RowKit Go.ChangeShapes Go.WideShapes Go.Deep

theorem laidOut : laidOutB Tryz.prog = true := by kernel_rfl
def boolOf : Value → Bool | .bool b => b | _ => false
def textOf : Value → ByteArray | .string s => s | _ => ⟨#[]⟩
section
variable {H : Type} {enc : TypeId × Value → H} {W : World} {base : Nat} {sp : Nat → Bool} {held : Bool}
set_option maxRecDepth 100000 in
theorem open_ints {r : Reach} {b0 : Nat} {v : Value} {d : DataW H} {ps : List MemPlace} (hval : Value.okWide Tryz.prog W r b0 32 v) (hd : DataW.Trod enc Tryz.prog W base sp held 32 v d ps) :
    ∃ (ad : Option Addr) (l : List IV) (n c : Nat), v = .slice ad n c ∧ l.length = n ∧ (n ≤ c ∧ (ad = none → c = 0)) ∧ IAt W ad l := by
  obtain ⟨a0, len, cap, rfl⟩ := okWide_slice Tryz.underlying32 hval
  obtain ⟨fuel, hf⟩ := hd
  rcases open_slice_pairs Tryz.underlying32 Tryz.underlying23 int_cells rfl rfl bool_cells string_cells hf with ⟨hcs, _⟩ | ⟨a, len', cap', m, k, V0, V1, D0, D1, P0, P1, hcs, _, hl, _, hmm, _, hcell⟩
  · simp [Value.cells] at hcs
    obtain ⟨rfl, rfl, rfl⟩ := hcs
    exact ⟨none, [], 0, 0, rfl, rfl, ⟨Nat.le_refl _, fun _ => rfl⟩, IAt.nil _ _⟩
  · simp [Value.cells] at hcs
    obtain ⟨rfl, rfl, rfl⟩ := hcs
    have hlm : len ≤ m := by rw [hmm]; split <;> omega
    refine ⟨some a, (List.range len).map fun i => (boolOf (V0 i), textOf (V1 i)), len, cap, rfl, by simp, ⟨hl, fun h => by cases h⟩, fun i hi => ?_⟩
    simp at hi
    obtain ⟨hc0, hc1, h0, h1⟩ := hcell i (by omega)
    obtain ⟨b, off, spot⟩ := a
    have hspot : spot = none := by simpa [Addr.add] using World.cell?_spot (hcell 0 (by omega)).1
    subst hspot
    obtain ⟨x, e0, _⟩ := DataW.trod_bool Tryz.underlying4 h0
    obtain ⟨y, e1, _, _⟩ := DataW.trod_string Tryz.underlying9 h1
    simp only [List.cons.injEq, and_true] at e0 e1
    have ea : ∀ j : Nat, (⟨b, off, none⟩ : Addr).add j = ⟨b, off + j, none⟩ := fun j => by unfold Addr.add; split <;> simp_all
    rw [ea] at hc0 hc1
    refine ⟨b, off, rfl, World.block_lt_of_cell? W _ hc0, ?_, ?_⟩
    · rw [hc0, e0]; simp [boolOf, e0]
    · rw [show off + i * 2 + 1 = off + (i * 2 + 1) by omega, hc1, e1]; simp [textOf, e1]
end
end Go.Proofs.YtmenngmejehofaaGreatDoor
