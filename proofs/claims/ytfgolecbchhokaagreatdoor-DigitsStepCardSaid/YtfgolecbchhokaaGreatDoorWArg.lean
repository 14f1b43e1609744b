/- An Int among the arguments, and a slice of Ints: opened and shut. -/
import Derived.Test.YtfgolecbchhokaaGreatDoorWNum
import Derived.ChangeMaps5
import Derived.Deep.SlicePairs
import Derived.OpenShut
namespace Go.Proofs.YtfgolecbchhokaaGreatDoor
open Go.ChangeShapes Go.WideShapes

theorem two_of {cs : Array Value} (h : cs.size = 2) : ∃ c0 c1, cs = #[c0, c1] := by
  obtain ⟨l⟩ := cs
  match l, h with
  | [a, b], _ => exact ⟨a, b, rfl⟩
section
variable {H : Type} {enc : TypeId × Value → H} {W : World} {base : Nat} {sp : Nat → Bool} {held : Bool}
theorem int_cells : Tryz.prog.cellsOf 23 = 2 := by kernel_rfl
theorem bool_cells : Tryz.prog.cellsOf 4 = 1 := by kernel_rfl
theorem string_cells : Tryz.prog.cellsOf 9 = 1 := by kernel_rfl
set_option maxRecDepth 100000 in
theorem open_whole {r : Reach} {b0 : Nat} {v : Value} {d : DataW H} {ps : List MemPlace} (hval : Value.okWide Tryz.prog W r b0 23 v) (hd : DataW.Trod enc Tryz.prog W base sp held 23 v d ps) :
    ∃ (n : Bool) (s : ByteArray), v = wi n s ∧ d = .agg [.lit (.bool n), .lit (.string s.data.toList)] ∧ ps = [] ∧ s.size ≤ maxLen := by
  have hu := Tryz.underlying23
  simp only [Value.okWide, hu] at hval
  obtain ⟨cs, rfl, h2, _⟩ := hval
  obtain ⟨fuel, hf⟩ := hd
  obtain ⟨y0, y1, n, hx, _, h0, h1⟩ := trod_struct2 hu hf
  rw [int_cells] at h2
  obtain ⟨c0, c1, rfl⟩ := two_of h2
  simp only [bool_cells, string_cells, Value.cells, List.drop_zero, List.take_succ_cons, List.take_zero, List.drop_succ_cons] at h0 h1
  obtain ⟨b, e0, rfl⟩ := DataW.trod_bool Tryz.underlying4 h0
  obtain ⟨s, e1, rfl, hs⟩ := DataW.trod_string Tryz.underlying9 h1
  simp only [List.cons.injEq, and_true] at e0 e1
  subst e0; subst e1
  simp only [Prod.mk.injEq] at hx
  exact ⟨b, s, rfl, hx.1, hx.2, hs⟩
set_option maxRecDepth 100000 in
theorem shut_whole {n : Bool} {s : ByteArray} (hs : s.size ≤ maxLen) :
    DataW.Trod enc Tryz.prog W base sp held 23 (wi n s) (.agg [.lit (.bool n), .lit (.string s.data.toList)]) [] := by
  refine ⟨1 + 1, ?_⟩
  refine trod_struct2_mk Tryz.underlying23 (by rw [int_cells]; rfl) (y0 := (.lit (.bool n), [])) (y1 := (.lit (.string s.data.toList), [])) ?_ ?_
  · simp [wi, Value.cells, bool_cells, DataW.trod, Tryz.underlying4]
  · simp [wi, Value.cells, string_cells, DataW.trod, Tryz.underlying9, hs]
end
end Go.Proofs.YtfgolecbchhokaaGreatDoor
