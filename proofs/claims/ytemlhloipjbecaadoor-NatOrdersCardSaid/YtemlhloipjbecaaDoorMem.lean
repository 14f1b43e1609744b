/- Plain facts on memory: a block that is known whole, of digits; no function is walked in this text. -/
import Derived.Test.YtemlhloipjbecaaDoorNum
import Derived.WalkKit
import Derived.WalkSpells
import Derived.Lib.Hide
import Derived.Deep.Draws
namespace Go.Proofs.YtemlhloipjbecaaDoor
open Go.RowKit

/-- Digits as values. -/
def dg (d : Nat) : Value := .int .u64 (d : Int)
/-- Block b is just these cells, of element type t, none frozen. -/
def Rw (w : World) (b : Nat) (t : TypeId) (L : List Value) : Prop := w.heap[b]? = some (.cells L.toArray t (0, 0))
/-- From off on block b holds these digits. -/
def Ds (w : World) (b off : Nat) (ds : List Nat) : Prop := ∀ i (h : i < ds.length), w.cell? ⟨b, off + i, none⟩ = some (dg ds[i])

section
variable {w w' : World} {b : Nat} {t : TypeId} {L : List Value}
theorem Rw.lt (h : Rw w b t L) : b < w.heap.size := by
  rcases Nat.lt_or_ge b w.heap.size with hlt | hge
  · exact hlt
  · unfold Rw at h; rw [Array.getElem?_eq_none hge] at h; cases h
theorem Rw.cell (h : Rw w b t L) (i : Nat) : w.cell? ⟨b, i, none⟩ = L[i]? := by
  rw [cell_of_row w b i L.toArray t (0, 0) h]; simp
theorem Rw.frozen (h : Rw w b t L) (i : Nat) : w.frozen? ⟨b, i, none⟩ = false := by
  unfold Rw at h
  simp [World.frozen?, h]
theorem Rw.new (w : World) (t : TypeId) (L : List Value) : Rw (w.alloc (.cells L.toArray t)) w.heap.size t L := heap_alloc_new w _
theorem Rw.drew (h : Rw w b t L) : Rw w.drew b t L := h
theorem Rw.drewN (h : Rw w b t L) (n : Nat) : Rw (w.drewN n) b t L := h
theorem Rw.alloc (h : Rw w b t L) (o : Obj) : Rw (w.alloc o) b t L := (Below.heap_alloc w o b h.lt).trans h
theorem Rw.set_ (h : Rw w b t L) (i : Nat) (u : Value) : Rw (w.setCell ⟨b, i, none⟩ u) b t (L.set i u) := by
  unfold Rw at h ⊢
  simp [World.setCell, Array.getElem?_modify, h]
theorem Rw.far (h : Rw w b t L) {p : Addr} (hp : b ≠ p.block) (u : Value) : Rw (w.setCell p u) b t L := (Below.heap_setCell w p u b hp).trans h
theorem Rw.below {B : Nat} (h : Rw w b t L) (hb : Below B w w') (hg : b < B) : Rw w' b t L := (hb.block b hg).trans h
theorem Rw.grown {row : Option Nat} (h : Rw w b t L) (hb : w.grownBy w' row) (hg : some b ≠ row) : Rw w' b t L := (hb.block b h.lt hg).trans h

theorem grown_drewN {a : World} {row : Option Nat} (h : a.grownBy w row) (n : Nat) : a.grownBy (w.drewN n) row := ⟨h.os, h.tape, h.output, h.size, h.block⟩
theorem grown_drew {a : World} {row : Option Nat} (h : a.grownBy w row) : a.grownBy w.drew row := ⟨h.os, h.tape, h.output, h.size, h.block⟩
theorem grown_setCell {a : World} {g : Nat} (h : a.grownBy w (some g)) {p : Addr} (hp : p.block = g) (u : Value) : a.grownBy (w.setCell p u) (some g) :=
  ⟨h.os, h.tape, h.output, by simpa [World.setCell] using h.size, fun i hi hne => (Below.heap_setCell w p u i (by rintro rfl; exact hne (by rw [hp]))).trans (h.block i hi hne)⟩
theorem grown_trans {a c : World} {row : Option Nat} (h : a.grownBy w row) (k : w.grownBy c row) : a.grownBy c row :=
  ⟨k.os.trans h.os, k.tape.trans h.tape, k.output.trans h.output, Nat.le_trans h.size k.size, fun i hi hne => (k.block i (Nat.lt_of_lt_of_le hi h.size) hne).trans (h.block i hi hne)⟩

theorem below_drewN {B : Nat} {a : World} (h : Below B a w) (n : Nat) : Below B a (w.drewN n) := ⟨h.os, h.tape, h.output, h.size, h.block⟩
theorem cell_past {a : Addr} {v : Value} (h : w.cell? a = some v) : ∀ o, (w.alloc o).cell? a = some v := fun o =>
  (World.cell?_alloc_lt w o a (World.block_lt_of_cell? w a h)).trans h
theorem Ds.grown {off : Nat} {ds : List Nat} {row : Option Nat} (h : Ds w b off ds) (hg : w.grownBy w' row) (hne : some b ≠ row) : Ds w' b off ds :=
  fun i hi => hg.cell (h i hi) hne
theorem Ds.below {B off : Nat} {ds : List Nat} (h : Ds w b off ds) (hb : Below B w w') (hlt : b < B) : Ds w' b off ds :=
  fun i hi => (hb.cell (p := ⟨b, off + i, none⟩) hlt).trans (h i hi)
theorem Rw.ds {off : Nat} {ds : List Nat} {pre post : List Value} (h : Rw w b t (pre ++ ds.map dg ++ post)) (ho : pre.length = off) : Ds w b off ds := by
  intro i hi
  rw [h.cell, ← ho, List.append_assoc, List.getElem?_append_right (by omega), Nat.add_sub_cancel_left, List.getElem?_append_left (by simpa using hi)]
  simp [hi]
end
end Go.Proofs.YtemlhloipjbecaaDoor
