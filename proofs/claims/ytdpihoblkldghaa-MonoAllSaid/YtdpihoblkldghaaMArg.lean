/- A row of numbers among the arguments, opened. -/
import Derived.Test.YtdpihoblkldghaaMBase
import Derived.ChangeSlices
import Derived.Carry
import Derived.ProofKit
import Derived.Deep.Slices
namespace Go.Proofs.Ytdpihoblkldghaa
open Go.RowKit Go.ChangeShapes Go.WideShapes

theorem laidOut : laidOutB Try.prog = true := by kernel_rfl
theorem cells_int : Try.prog.cellsOf 3 = 1 := by kernel_rfl
theorem cells_byte : Try.prog.cellsOf 5 = 1 := by kernel_rfl
/-- A row of bytes: its cells from the address on. -/
def RB (w : World) (ad : Option Addr) (bs : List Int) : Prop := ∀ i (h : i < bs.length), ∃ b off, ad = some ⟨b, off, none⟩ ∧ b < w.heap.size ∧ w.cell? ⟨b, off + i, none⟩ = some (.int .u8 bs[i])
section
variable {H : Type} {enc : TypeId × Value → H} {W : World} {base : Nat} {sp : Nat → Bool} {held : Bool}
theorem row_of {k : IntKind} {a : Addr} {zs : List Int} {n : Nat} (hn : n ≤ zs.length) (hcell : ∀ i, i < zs.length → W.cell? (a.add i) = some (.int k (zs.getD i 0))) :
    ∀ i (h : i < (zs.take n).length), ∃ b off, (some a : Option Addr) = some ⟨b, off, none⟩ ∧ b < W.heap.size ∧ W.cell? ⟨b, off + i, none⟩ = some (.int k (zs.take n)[i]) := by
  intro i hi
  rw [List.length_take] at hi
  obtain ⟨b, off, spot⟩ := a
  have hspot : spot = none := by simpa [Addr.add] using World.cell?_spot (hcell 0 (by omega))
  subst hspot
  have h := hcell i (by omega)
  rw [addr0] at h
  refine ⟨b, off, rfl, World.block_lt_of_cell? W _ h, ?_⟩
  rw [h, List.getElem_take]
  simp [List.getD, show i < zs.length by omega]
set_option maxRecDepth 100000 in
theorem open_irow {r : Reach} {b0 : Nat} {v : Value} {d : DataW H} {ps : List MemPlace} (hval : Value.okWide Try.prog W r b0 22 v) (hd : DataW.Trod enc Try.prog W base sp held 22 v d ps) :
    ∃ (ad : Option Addr) (ns : List Int) (n c : Nat), v = .slice ad n c ∧ ns.length = n ∧ RI W ad ns ∧ (ad = none → c = 0) ∧ n ≤ c := by
  obtain ⟨a0, len, cap, rfl⟩ := okWide_slice Try.underlying22 hval
  obtain ⟨fuel, hf⟩ := hd
  rcases open_ints Try.underlying22 Try.underlying3 cells_int hf with ⟨hcs, _⟩ | ⟨a, len', cap', zs, hcs, _, hl, _, hzl, _, hcell, _⟩
  · simp [Value.cells] at hcs
    obtain ⟨rfl, rfl, rfl⟩ := hcs
    exact ⟨none, [], 0, 0, rfl, rfl, RI.nil _ _, fun _ => rfl, Nat.le_refl _⟩
  · simp [Value.cells] at hcs
    obtain ⟨rfl, rfl, rfl⟩ := hcs
    have hlz : len ≤ zs.length := by rw [hzl]; split <;> omega
    exact ⟨some a, zs.take len, len, cap, rfl, by rw [List.length_take]; omega, row_of hlz hcell, (fun h => by cases h), hl⟩
set_option maxRecDepth 100000 in
theorem open_brow {r : Reach} {b0 : Nat} {v : Value} {d : DataW H} {ps : List MemPlace} (hval : Value.okWide Try.prog W r b0 43 v) (hd : DataW.Trod enc Try.prog W base sp held 43 v d ps) :
    ∃ (ad : Option Addr) (bs : List Int) (n c : Nat), v = .slice ad n c ∧ bs.length = n ∧ RB W ad bs ∧ ∀ x ∈ bs, 0 ≤ x ∧ x ≤ 255 := by
  obtain ⟨a0, len, cap, rfl⟩ := okWide_slice Try.underlying43 hval
  obtain ⟨fuel, hf⟩ := hd
  rcases open_ints Try.underlying43 Try.underlying5 cells_byte hf with ⟨hcs, _⟩ | ⟨a, len', cap', zs, hcs, _, hl, _, hzl, _, hcell, hwf⟩
  · simp [Value.cells] at hcs
    obtain ⟨rfl, rfl, rfl⟩ := hcs
    exact ⟨none, [], 0, 0, rfl, rfl, (fun i h => by simp at h), (fun x h => by simp at h)⟩
  · simp [Value.cells] at hcs
    obtain ⟨rfl, rfl, rfl⟩ := hcs
    have hlz : len ≤ zs.length := by rw [hzl]; split <;> omega
    refine ⟨some a, zs.take len, len, cap, rfl, by rw [List.length_take]; omega, row_of hlz hcell, fun x hx => ?_⟩
    have := hwf x (List.mem_of_mem_take hx)
    simp [Lit.wf, IntKind.min, IntKind.max, IntKind.signed, IntKind.bits] at this
    omega
end
end Go.Proofs.Ytdpihoblkldghaa
