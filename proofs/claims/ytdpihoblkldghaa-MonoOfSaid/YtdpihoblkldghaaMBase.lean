/- Plain facts for products as strings: blocks, bytes, rows of numbers; no function is walked in this text. -/
import Derived.Test.YtdpihoblkldghaaProg
import Derived.Laws.RangeAny
import Derived.WalkKit
import Derived.WalkSpells
import Derived.Lib.Hide
import Derived.Lib.OthersKept
import Derived.LoopTactic
import Derived.WalkSmall
import Derived.Deep.Draws
import Derived.Laws.AppendOwn
import Derived.OwnWalk
import Derived.Below
import Derived.Lib.Strings
import Derived.Lib.Builder
namespace Go.Proofs.Ytdpihoblkldghaa
open Go.RowKit Go.Lib

/-- A call returned that value, and nothing that was there has turned. -/
def Ret (v : Value) (w : World) : Ending → World → Prop := fun e w' => e = .returned v ∧ Below w.heap.size w w'
theorem below_next {w W W' : World} (hb : Below w.heap.size w W) (hc : Below W.heap.size W W') : Below w.heap.size w W' := hb.trans (hc.mono hb.size)
/-- Block b is just these cells, of element type t, none frozen. -/
def Rw (w : World) (b : Nat) (t : TypeId) (L : List Value) : Prop := w.heap[b]? = some (.cells L.toArray t (0, 0))
section
variable {w w' : World} {b : Nat} {t : TypeId} {L : List Value}
theorem Rw.lt (h : Rw w b t L) : b < w.heap.size := by
  rcases Nat.lt_or_ge b w.heap.size with hlt | hge
  · exact hlt
  · unfold Rw at h; rw [Array.getElem?_eq_none hge] at h; cases h
theorem Rw.cell (h : Rw w b t L) (i : Nat) : w.cell? ⟨b, i, none⟩ = L[i]? := by
  rw [cell_of_row w b i L.toArray t (0, 0) h]; simp
theorem Rw.frozen (h : Rw w b t L) (i : Nat) : w.frozen? ⟨b, i, none⟩ = false := by
  unfold Rw at h
  simp [World.frozen?, h]
theorem Rw.new (w : World) (t : TypeId) (L : List Value) : Rw (w.alloc (.cells L.toArray t)) w.heap.size t L := heap_alloc_new w _
theorem Rw.drew (h : Rw w b t L) : Rw w.drew b t L := h
theorem Rw.alloc (h : Rw w b t L) (o : Obj) : Rw (w.alloc o) b t L := (Below.heap_alloc w o b h.lt).trans h
theorem Rw.set_ (h : Rw w b t L) (i : Nat) (u : Value) : Rw (w.setCell ⟨b, i, none⟩ u) b t (L.set i u) := by
  unfold Rw at h ⊢
  simp [World.setCell, Array.getElem?_modify, h]
theorem Rw.far (h : Rw w b t L) {p : Addr} (hp : b ≠ p.block) (u : Value) : Rw (w.setCell p u) b t L := (Below.heap_setCell w p u b hp).trans h
theorem Rw.below {B : Nat} (h : Rw w b t L) (hb : Below B w w') (hg : b < B) : Rw w' b t L := (hb.block b hg).trans h
theorem Rw.next (h : Rw w b t L) (hb : Below w.heap.size w w') : Rw w' b t L := (hb.block b h.lt).trans h
theorem Rw.grown {row : Option Nat} (h : Rw w b t L) (hb : w.grownBy w' row) (hg : some b ≠ row) : Rw w' b t L := (hb.block b h.lt hg).trans h
theorem cell_past {a : Addr} {v : Value} (h : w.cell? a = some v) : ∀ o, (w.alloc o).cell? a = some v := fun o =>
  (World.cell?_alloc_lt w o a (World.block_lt_of_cell? w a h)).trans h
end
theorem addr0 (b off i : Nat) : (⟨b, off, none⟩ : Addr).add i = ⟨b, off + i, none⟩ := by unfold Addr.add; split <;> simp_all
theorem ba_ext {a b : ByteArray} (h : a.data.toList = b.data.toList) : a = b := ByteArray.ext (Array.ext' h)
theorem toList_isEmpty (t : ByteArray) : t.toList.isEmpty = decide (t.size = 0) := by
  rw [Lib.toList_data, Bool.eq_iff_iff]
  simp
  constructor
  · intro h; exact ByteArray.ext h
  · intro h; rw [h]; rfl
def by8 (b : UInt8) : Value := .int .u8 (b.toNat : Int)
/-- Bytes that stand in a block, as a string. -/
theorem run_bytes_at {w : World} {g off len cap : Nat} {l : List UInt8} (hl : l.length = len) (hc : ∀ i (h : i < l.length), w.cell? ⟨g, off + i, none⟩ = some (by8 l[i])) :
    (convert 43 9 (.slice (some ⟨g, off, none⟩) len cap)).run Try.prog w = .ok (.string ⟨l.toArray⟩) w := by
  have h := run_convert_bytes_arg (P := Try.prog) w 43 5 Try.underlying43 Try.underlying5 g off len cap (l.map fun b => (b.toNat : Int)) (by simpa using hl) (fun i hi => by
    rw [hc i (by omega)]
    simp [by8, show i < l.length by omega]) 9 Try.underlying9
  have e : strOfNums (l.map fun b => (b.toNat : Int)) = ⟨l.toArray⟩ := by simp [strOfNums, Function.comp_def]
  rw [e] at h
  exact h

/-- A row of ints: its cells from the address on. -/
def RI (w : World) (ad : Option Addr) (ns : List Int) : Prop := ∀ i (h : i < ns.length), ∃ b off, ad = some ⟨b, off, none⟩ ∧ b < w.heap.size ∧ w.cell? ⟨b, off + i, none⟩ = some (.int .i64 ns[i])
theorem RI.nil (w : World) (ad : Option Addr) : RI w ad [] := fun i h => by simp at h
theorem RI.next {w w' : World} {ad : Option Addr} {ns : List Int} (h : RI w ad ns) (hb : Below w.heap.size w w') : RI w' ad ns := fun i hi => by
  obtain ⟨b, off, e, hl, hc⟩ := h i hi
  exact ⟨b, off, e, Nat.lt_of_lt_of_le hl hb.size, (hb.cell (p := ⟨b, off + i, none⟩) hl).trans hc⟩
theorem RI.alloc {w : World} {ad : Option Addr} {ns : List Int} (h : RI w ad ns) (o : Obj) : RI (w.alloc o) ad ns := h.next ((Below.refl _ _).alloc (Nat.le_refl _) o)
theorem RI.drew {w : World} {ad : Option Addr} {ns : List Int} (h : RI w ad ns) : RI w.drew ad ns := h
theorem RI.of_rw {w : World} {b off : Nat} {t : TypeId} {pre post : List Value} {ns : List Int} (h : Rw w b t (pre ++ ns.map (Value.int .i64) ++ post)) (ho : pre.length = off) : RI w (some ⟨b, off, none⟩) ns := fun i hi => by
  refine ⟨b, off, rfl, h.lt, ?_⟩
  rw [h.cell, ← ho, List.append_assoc, List.getElem?_append_right (by omega), Nat.add_sub_cancel_left, List.getElem?_append_left (by simpa using hi)]
  simp [hi]

/-! What is asked of products. -/
/-- Is each byte an exponent? -/
def okM (l : List UInt8) : Bool := l.all fun b => decide (b.toNat < 128)
def expsM (l : List UInt8) : List Int := l.map fun b => (b.toNat : Int)
def sumM (l : List UInt8) : Nat := (l.map UInt8.toNat).sum
def okE (ns : List Int) : Bool := ns.all fun n => decide (0 ≤ n ∧ n ≤ 127)
def bytesE (ns : List Int) : List UInt8 := ns.map fun n => UInt8.ofNat n.toNat
/-- The product of these exponents, and the error. -/
def ofS (ns : List Int) : ByteArray := if okE ns then ⟨(bytesE ns).toArray⟩ else ⟨#[]⟩
def ofE (ns : List Int) : Int := if okE ns then 0 else 3
theorem okM_bad {l : List UInt8} {k : Nat} (hk : k < l.length) (h : 128 ≤ l[k].toNat) : okM l = false := by
  unfold okM
  rw [List.all_eq_false]
  exact ⟨l[k], List.getElem_mem hk, by simp; omega⟩
theorem okM_good {l : List UInt8} (h : ∀ j (hj : j < l.length), l[j].toNat < 128) : okM l = true := by
  unfold okM
  rw [List.all_eq_true]
  intro x hx
  obtain ⟨j, hj, rfl⟩ := List.getElem_of_mem hx
  exact decide_eq_true (h j hj)
theorem okM_get {l : List UInt8} (h : okM l = true) {k : Nat} (hk : k < l.length) : l[k].toNat < 128 := by
  unfold okM at h
  rw [List.all_eq_true] at h
  exact of_decide_eq_true (h _ (List.getElem_mem hk))
theorem okE_bad {l : List Int} {k : Nat} (hk : k < l.length) (h : ¬ (0 ≤ l[k] ∧ l[k] ≤ 127)) : okE l = false := by
  unfold okE
  rw [List.all_eq_false]
  exact ⟨l[k], List.getElem_mem hk, by simp; omega⟩
theorem okE_good {l : List Int} (h : ∀ j (hj : j < l.length), 0 ≤ l[j] ∧ l[j] ≤ 127) : okE l = true := by
  unfold okE
  rw [List.all_eq_true]
  intro x hx
  obtain ⟨j, hj, rfl⟩ := List.getElem_of_mem hx
  exact decide_eq_true (h j hj)
theorem okE_get {l : List Int} (h : okE l = true) {k : Nat} (hk : k < l.length) : 0 ≤ l[k] ∧ l[k] ≤ 127 := by
  unfold okE at h
  rw [List.all_eq_true] at h
  exact of_decide_eq_true (h _ (List.getElem_mem hk))
theorem sumM_take {l : List UInt8} {k : Nat} (hk : k < l.length) : sumM (l.take (k + 1)) = sumM (l.take k) + l[k].toNat := by
  unfold sumM
  rw [List.take_succ_eq_append_getElem hk, List.map_append, List.sum_append]
  simp
theorem sumM_le (l : List UInt8) : sumM l ≤ 255 * l.length := by
  unfold sumM
  induction l with
  | nil => simp
  | cons x l ih =>
    have := x.toNat_lt
    simp only [List.map_cons, List.sum_cons, List.length_cons]
    omega
theorem bytesE_take {l : List Int} {k : Nat} (hk : k < l.length) : bytesE (l.take (k + 1)) = bytesE (l.take k) ++ [UInt8.ofNat l[k].toNat] := by
  unfold bytesE
  rw [List.take_succ_eq_append_getElem hk, List.map_append]
  rfl
end Go.Proofs.Ytdpihoblkldghaa
