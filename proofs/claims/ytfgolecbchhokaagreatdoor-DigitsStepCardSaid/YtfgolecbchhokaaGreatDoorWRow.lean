/- Rows of Ints in memory, and the statements' own 'long', walked. -/
import Derived.Test.YtfgolecbchhokaaGreatDoorWNum
namespace Go.Proofs.YtfgolecbchhokaaGreatDoor
open Go.RowKit Go.Shelf

/-- A sign and a text, one behind the other. -/
abbrev IV := Bool × ByteArray
/-- A slice holds those Ints. -/
def IAt (w : World) (ad : Option Addr) (l : List IV) : Prop := ∀ i (h : i < l.length), ∃ lb lo, ad = some ⟨lb, lo, none⟩ ∧ lb < w.heap.size ∧
  w.cell? ⟨lb, lo + i * 2, none⟩ = some (.bool l[i].1) ∧ w.cell? ⟨lb, lo + i * 2 + 1, none⟩ = some (.string l[i].2)
theorem IAt.below {w w' : World} {ad : Option Addr} {l : List IV} (h : IAt w ad l) (hb : Below w.heap.size w w') : IAt w' ad l := by
  intro i hi
  obtain ⟨lb, lo, e, hl, h1, h2⟩ := h i hi
  have hsz := hb.size
  exact ⟨lb, lo, e, by omega, by rw [hb.cell hl]; exact h1, by rw [hb.cell hl]; exact h2⟩
/-- The cells of a row of Ints. -/
def icells : List IV → List Value
  | [] => []
  | x :: l => .bool x.1 :: .string x.2 :: icells l
theorem icells_get : ∀ (l : List IV) (i : Nat) (h : i < l.length), (icells l)[i * 2]? = some (.bool l[i].1) ∧ (icells l)[i * 2 + 1]? = some (.string l[i].2)
  | [], i, h => by simp at h
  | x :: l, 0, h => ⟨rfl, rfl⟩
  | x :: l, i + 1, h => by
    have := icells_get l i (by simpa using h)
    rw [show (i + 1) * 2 = i * 2 + 1 + 1 by omega]
    exact this
theorem IAt.new (w : World) (t : TypeId) (l : List IV) (L : Array Value) (hL : L = (icells l).toArray) : IAt (w.alloc (.cells L t)) (some ⟨w.heap.size, 0, none⟩) l := by
  subst hL
  intro i hi
  have hR := Rw.new w t (icells l)
  have h := icells_get l i hi
  refine ⟨w.heap.size, 0, rfl, by rw [World.size_alloc]; omega, ?_, ?_⟩
  · rw [Nat.zero_add, hR.cell]; exact h.1
  · rw [Nat.zero_add, hR.cell]; exact h.2
theorem IAt.nil (w : World) (ad : Option Addr) : IAt w ad [] := fun i h => by simp at h
end Go.Proofs.YtfgolecbchhokaaGreatDoor
