/- Layer 1, laid together: WNum, WMem, W1, W2, WSg, WNum2, WRow, WApp, WAddNum, WAdd1, WAdd2, WAdd3, WMul, WUse, WHeld, WDiv, WShift, WPow, WBase, WArg, WArg2, WDag, WDag2. -/
import Derived.Test.YtmipcelnmmjplaaGreatDoorG3
import Derived.Deep.RegionHeld3
import Derived.Laws.AppendOwn
import Derived.Deep.DeepFit
import Derived.Laws.AppendOwnNone
import Derived.ChangeMaps5
import Derived.Deep.SlicePairs
import Derived.OpenShut
import Derived.Deep.Strs
import Derived.Carry
import Derived.ProofKit
/- Whole numbers, and the values that stand for them; no function is walked in this text. -/
namespace Go.Proofs.YtmipcelnmmjplaaGreatDoor
open Go.RowKit Go.Shelf

/-- The whole number that a sign and a text stand for. -/
def wv (n : Bool) (s : ByteArray) : Int := if n then -(num s : Int) else num s
/-- A sign and a text, as a value. -/
def wi (n : Bool) (s : ByteArray) : Value := .agg #[.bool n, .string s]
/-- The one form of a whole number, as a value. -/
def wf (z : Int) : Value := wi (decide (z < 0)) (fb z.natAbs)
theorem wv_false (s : ByteArray) : wv false s = num s := rfl
theorem wv_true (s : ByteArray) : wv true s = -(num s : Int) := rfl
theorem wv_abs (n : Bool) (s : ByteArray) : (wv n s).natAbs = num s := by cases n <;> simp [wv]
theorem wv_not (n : Bool) (s : ByteArray) : wv (!n) s = -wv n s := by cases n <;> simp [wv]
/-- A sign before a size in its one form. -/
theorem wf_sign (n : Bool) (m : Nat) : wf (if n then -(m : Int) else m) = wi (n && decide (0 < m)) (fb m) := by
  cases n
  · show wi (decide ((m : Int) < 0)) (fb (m : Int).natAbs) = wi false (fb m)
    rw [decide_eq_false (by omega)]; rfl
  · show wi (decide (-(m : Int) < 0)) (fb (-(m : Int)).natAbs) = wi (true && decide (0 < m)) (fb m)
    rw [Int.natAbs_neg, Bool.true_and]
    congr 1
    simp
theorem wf_nat (m : Nat) : wf m = wi false (fb m) := by
  have := wf_sign false m
  simpa using this
theorem wf_zero : wf 0 = wi false ⟨#[]⟩ := rfl
/-- A number's one form, by names. -/
theorem nmw {z : Int} {k : Nat} (h : z.natAbs < 256 ^ k) : ∃ n s, wf z = wi n s ∧ wv n s = z ∧ s.size ≤ k :=
  ⟨decide (z < 0), fb z.natAbs, rfl, by
    unfold wv
    rw [num_fb]
    by_cases hz : z < 0
    · simp [hz]; omega
    · simp [hz]; omega, fb_size_le h⟩
theorem wi_inj {m n : Bool} {s t : ByteArray} (h : wi m s = wi n t) : m = n ∧ s = t := by
  unfold wi at h
  simpa using h
theorem wf_inj {y z : Int} (h : wf y = wf z) : y = z := by
  obtain ⟨h1, h2⟩ := wi_inj h
  have h3 := fb_inj h2
  simp only [decide_eq_decide] at h1
  omega
/-- As a sign. -/
def sg (z : Int) : Int := if z = 0 then 0 else if z < 0 then -1 else 1
theorem bl_pos {n : Nat} : bl n = 0 ↔ n = 0 := by
  constructor
  · intro h
    rcases Nat.eq_zero_or_pos n with h0 | h0
    · exact h0
    · have := (bl_bounds h0).1; omega
  · intro h; rw [h]; rfl
theorem ediv_of {a b q r : Int} (hb : 0 < b) (h : b * q + r = a) (h0 : 0 ≤ r) (h1 : r < b) : a / b = q ∧ a % b = r :=
  (Int.ediv_emod_unique hb).2 ⟨by rw [Int.add_comm]; exact h, h0, h1⟩
theorem ediv_neg_nat (A B : Nat) (hB : 0 < B) : (A % B = 0 → (-(A : Int)) / B = -((A / B : Nat) : Int) ∧ (-(A : Int)) % B = 0) ∧
    (A % B ≠ 0 → (-(A : Int)) / B = -((A / B + 1 : Nat) : Int) ∧ (-(A : Int)) % B = ((B - A % B : Nat) : Int)) := by
  have e : B * (A / B) + A % B = A := Nat.div_add_mod A B
  have hr : A % B < B := Nat.mod_lt A hB
  have ei : (B : Int) * ((A / B : Nat) : Int) + ((A % B : Nat) : Int) = A := by
    rw [← Int.natCast_mul, ← Int.natCast_add, e]
  generalize A / B = Q at *
  generalize A % B = R at *
  constructor
  · intro h
    refine ediv_of (by omega) ?_ (Int.le_refl _) (by omega)
    rw [Int.mul_neg]
    omega
  · intro h
    refine ediv_of (by omega) ?_ (by omega) (by omega)
    rw [Int.mul_neg, Int.natCast_add, Int.mul_add]
    omega
/-- The floor of a number below a power of two, in size. -/
theorem ediv_small {z : Int} {k : Nat} (h : z.natAbs < 2 ^ k) : z / ((2 ^ k : Nat) : Int) = if z < 0 then -1 else 0 := by
  have hp : 0 < 2 ^ k := Nat.two_pow_pos k
  generalize 2 ^ k = P at *
  by_cases hz : z < 0
  · rw [if_pos hz]
    exact (ediv_of (b := (P : Int)) (q := -1) (r := z + P) (by omega) (by omega) (by omega) (by omega)).1
  · rw [if_neg hz]
    exact (ediv_of (b := (P : Int)) (q := 0) (r := z) (by omega) (by omega) (by omega) (by omega)).1
/-- A size with a sign. -/
def sI (n : Bool) (m : Nat) : Int := if n then -(m : Int) else m
theorem sI_div_plain (m n : Bool) (A B : Nat) (hB : 0 < B) (h : m = true → A % B = 0) : sI m A / sI n B = sI (m != n) (A / B) ∧ sI m A % sI n B = ((A % B : Nat) : Int) := by
  have hp := (ediv_neg_nat A B hB).1
  cases m <;> cases n
  · simp [sI]
  · simp [sI]
  · obtain ⟨h1, h2⟩ := hp (h rfl)
    simp only [sI, if_true, Bool.false_eq_true, if_false, Bool.bne_false]
    rw [h1, h2, h rfl]; exact ⟨rfl, rfl⟩
  · obtain ⟨h1, h2⟩ := hp (h rfl)
    simp only [sI, if_true, Bool.false_eq_true, if_false, bne_self_eq_false]
    rw [Int.ediv_neg, Int.emod_neg, h1, h2, h rfl, Int.neg_neg]; exact ⟨rfl, rfl⟩
theorem sI_div_next (n : Bool) (A B : Nat) (hB : 0 < B) (h : A % B ≠ 0) : sI true A / sI n B = sI (true != n) (A / B + 1) ∧ sI true A % sI n B = ((B - A % B : Nat) : Int) := by
  obtain ⟨h1, h2⟩ := (ediv_neg_nat A B hB).2 h
  cases n
  · simp only [sI, if_true, Bool.false_eq_true, if_false, Bool.bne_false]
    rw [h1, h2]; exact ⟨rfl, rfl⟩
  · simp only [sI, if_true, Bool.false_eq_true, if_false, bne_self_eq_false]
    rw [Int.ediv_neg, Int.emod_neg, h1, h2, Int.neg_neg]; exact ⟨rfl, rfl⟩
/-- A number times a power of two; what is below 1 is left off, downward. -/
def shiftI (z n : Int) : Int := if 0 ≤ n then z * ((2 ^ n.toNat : Nat) : Int) else z / ((2 ^ (-n).toNat : Nat) : Int)
theorem sI_shr (m : Bool) (A k : Nat) (h : m = true → A % 2 ^ k = 0) : sI m A / ((2 ^ k : Nat) : Int) = sI m (A / 2 ^ k) := by
  have := (sI_div_plain m false A (2 ^ k) (Nat.two_pow_pos k) h).1
  simpa [sI] using this
theorem sI_shr_next (A k : Nat) (h : A % 2 ^ k ≠ 0) : sI true A / ((2 ^ k : Nat) : Int) = sI true (A / 2 ^ k + 1) := by
  have := (sI_div_next false A (2 ^ k) (Nat.two_pow_pos k) h).1
  simpa [sI] using this
theorem odd_mod {z j k : Nat} : (2 ^ z * (2 * j + 1)) % 2 ^ k = 0 ↔ k ≤ z := by
  constructor
  · intro h
    rcases Nat.lt_or_ge z k with hlt | hge
    · exfalso
      have h1 : 2 ^ (z + 1) ∣ 2 ^ z * (2 * j + 1) := Nat.dvd_trans (Nat.pow_dvd_pow 2 hlt) (Nat.dvd_of_mod_eq_zero h)
      rw [Nat.pow_succ] at h1
      have h2 : 2 ∣ 2 * j + 1 := Nat.dvd_of_mul_dvd_mul_left (Nat.two_pow_pos z) h1
      omega
    · exact hge
  · intro h
    exact Nat.mod_eq_zero_of_dvd (Nat.dvd_trans (Nat.pow_dvd_pow 2 h) (Nat.dvd_mul_right _ _))
/-- powers by a number's bits -/
theorem pow_bits (x n j : Nat) : x ^ (n / 2 ^ j) = (x ^ (n / 2 ^ (j + 1)) * x ^ (n / 2 ^ (j + 1))) * (if n / 2 ^ j % 2 = 1 then x else 1) := by
  have e : n / 2 ^ (j + 1) = n / 2 ^ j / 2 := by rw [Nat.pow_succ, Nat.div_div_eq_div_mul]
  rw [e]
  generalize n / 2 ^ j = p
  rw [← Nat.pow_add]
  have hp : p = p / 2 + p / 2 + p % 2 := by omega
  by_cases h : p % 2 = 1
  · rw [if_pos h, ← Nat.pow_succ]
    congr 1; omega
  · rw [if_neg h, Nat.mul_one]
    congr 1; omega

theorem wv_sI (n : Bool) (s : ByteArray) : wv n s = sI n (num s) := rfl
theorem sI_not (n : Bool) (m : Nat) : sI (!n) m = -sI n m := by cases n <;> simp [sI]
theorem sI_mul (m n : Bool) (A B : Nat) : sI m A * sI n B = sI (m != n) (A * B) := by
  cases m <;> cases n <;> simp [sI, Int.neg_mul, Int.mul_neg]
theorem sI_fb (n : Bool) (m : Nat) : wv n (fb m) = sI n m := by unfold wv sI; rw [num_fb]
theorem tz_lt_iff {A k : Nat} (h : 0 < A) : tz A < k ↔ A % 2 ^ k ≠ 0 := by
  obtain ⟨z, j, e⟩ := tz_ex h
  have ht : tz A = z := by rw [e, tz_of]
  rw [ht, e, Ne, odd_mod]
  omega
end Go.Proofs.YtmipcelnmmjplaaGreatDoor
/- Blocks that hold an Int: what stands in them behind a call, an alloc, a store; and a function's answer out of such a block. No function is walked in this text. -/
namespace Go.Proofs.YtmipcelnmmjplaaGreatDoor
open Go.RowKit Go.Shelf

/-- Block b holds these cells, none of them frozen. -/
def Bk (W : World) (b : Nat) (cs : Array Value) : Prop := W.heap[b]? = some (.cells cs 23 (0, 0))
section
variable {W W' : World} {b : Nat} {x y : Value} {cs : Array Value} {n : Bool} {s : ByteArray}
theorem Bk.lt (h : Bk W b cs) : b < W.heap.size := by
  rcases Nat.lt_or_ge b W.heap.size with hlt | hge
  · exact hlt
  · unfold Bk at h; rw [Array.getElem?_eq_none hge] at h; cases h
theorem Bk.new (w : World) (cs : Array Value) : Bk (w.alloc (.cells cs 23)) w.heap.size cs := heap_alloc_new w _
theorem Bk.alloc (h : Bk W b cs) (o : Obj) : Bk (W.alloc o) b cs := (Below.heap_alloc W o b h.lt).trans h
theorem Bk.below (h : Bk W b cs) (hq : Below W.heap.size W W') : Bk W' b cs := (hq.block b h.lt).trans h
theorem Bk.drew (h : Bk W b cs) : Bk W.drew b cs := h
theorem Bk.set_ (h : Bk W b #[x, y]) (u v : Value) : Bk ((W.setCell ⟨b, 0, none⟩ u).setCell ⟨b, 1, none⟩ v) b #[u, v] := by
  unfold Bk at h ⊢
  simp [World.setCell, Array.getElem?_modify, h]
theorem Bk.far (h : Bk W b cs) {p : Addr} (hp : b ≠ p.block) (u : Value) : Bk (W.setCell p u) b cs := (Below.heap_setCell W p u b hp).trans h
theorem Bk.facts (h : Bk W b #[x, y]) : W.cell? ⟨b, 0, none⟩ = some x ∧ W.cell? ⟨b, 1, none⟩ = some y ∧ W.frozen? ⟨b, 0, none⟩ = false ∧ W.frozen? ⟨b, 1, none⟩ = false := by
  unfold Bk at h
  refine ⟨?_, ?_, ?_, ?_⟩
  · rw [cell_of_row W b 0 _ _ _ h]; rfl
  · rw [cell_of_row W b 1 _ _ _ h]; rfl
  · simp [World.frozen?, h]
  · simp [World.frozen?, h]
theorem Bk.cells (h : Bk W b #[x, y]) : W.cell? ⟨b, 0, none⟩ = some x ∧ W.cell? ⟨b, 1, none⟩ = some y := ⟨h.facts.1, h.facts.2.1⟩
/-- Behind a call: what stood in an Int's block stands there still. -/
theorem held (h : W.cell? ⟨b, 0, none⟩ = some x ∧ W.cell? ⟨b, 1, none⟩ = some y) (hq : Below W.heap.size W W') : W'.cell? ⟨b, 0, none⟩ = some x ∧ W'.cell? ⟨b, 1, none⟩ = some y := by
  have hl := block_lt_of_cell h.1
  have hl' : (⟨b, 1, none⟩ : Addr).block < W.heap.size := hl
  exact ⟨(hq.cell hl).trans h.1, (hq.cell hl').trans h.2⟩
/-- Behind a store elsewhere. -/
theorem held_set {r i : Nat} {v : Value} (h : W.cell? ⟨b, 0, none⟩ = some x ∧ W.cell? ⟨b, 1, none⟩ = some y) (hr : b ≠ r) : (W.setCell ⟨r, i, none⟩ v).cell? ⟨b, 0, none⟩ = some x ∧ (W.setCell ⟨r, i, none⟩ v).cell? ⟨b, 1, none⟩ = some y := by
  have hk : (W.setCell ⟨r, i, none⟩ v).heap[b]? = W.heap[b]? := Below.heap_setCell W _ v b hr
  exact ⟨(World.cell?_of_block (w := W) (a := ⟨b, 0, none⟩) hk).trans h.1, (World.cell?_of_block (w := W) (a := ⟨b, 1, none⟩) hk).trans h.2⟩
theorem held_set2 {r i j : Nat} {u v : Value} (h : W.cell? ⟨b, 0, none⟩ = some x ∧ W.cell? ⟨b, 1, none⟩ = some y) (hr : b ≠ r) :
    ((W.setCell ⟨r, i, none⟩ u).setCell ⟨r, j, none⟩ v).cell? ⟨b, 0, none⟩ = some x ∧ ((W.setCell ⟨r, i, none⟩ u).setCell ⟨r, j, none⟩ v).cell? ⟨b, 1, none⟩ = some y := held_set (held_set h hr) hr
theorem held_alloc {o : Obj} (h : W.cell? ⟨b, 0, none⟩ = some x ∧ W.cell? ⟨b, 1, none⟩ = some y) : (W.alloc o).cell? ⟨b, 0, none⟩ = some x ∧ (W.alloc o).cell? ⟨b, 1, none⟩ = some y :=
  ⟨cell_past h.1 o, cell_past h.2 o⟩
end
theorem held2 {W W' : World} {b c : Nat} {x y x2 y2 : Value} (h : (W.cell? ⟨b, 0, none⟩ = some x ∧ W.cell? ⟨b, 1, none⟩ = some y) ∧ (W.cell? ⟨c, 0, none⟩ = some x2 ∧ W.cell? ⟨c, 1, none⟩ = some y2)) (hq : Below W.heap.size W W') : (W'.cell? ⟨b, 0, none⟩ = some x ∧ W'.cell? ⟨b, 1, none⟩ = some y) ∧ (W'.cell? ⟨c, 0, none⟩ = some x2 ∧ W'.cell? ⟨c, 1, none⟩ = some y2) :=
  ⟨held (h.1) hq, held (h.2) hq⟩
theorem held2_set2 {W : World} {b c : Nat} {x y x2 y2 : Value} {r i j : Nat} {u v : Value} (h : (W.cell? ⟨b, 0, none⟩ = some x ∧ W.cell? ⟨b, 1, none⟩ = some y) ∧ (W.cell? ⟨c, 0, none⟩ = some x2 ∧ W.cell? ⟨c, 1, none⟩ = some y2)) (hr : b ≠ r ∧ c ≠ r) : (((W.setCell ⟨r, i, none⟩ u).setCell ⟨r, j, none⟩ v).cell? ⟨b, 0, none⟩ = some x ∧ ((W.setCell ⟨r, i, none⟩ u).setCell ⟨r, j, none⟩ v).cell? ⟨b, 1, none⟩ = some y) ∧ (((W.setCell ⟨r, i, none⟩ u).setCell ⟨r, j, none⟩ v).cell? ⟨c, 0, none⟩ = some x2 ∧ ((W.setCell ⟨r, i, none⟩ u).setCell ⟨r, j, none⟩ v).cell? ⟨c, 1, none⟩ = some y2) :=
  ⟨held_set2 (h.1) (hr.1), held_set2 (h.2) (hr.2)⟩
theorem held2_alloc {W : World} {b c : Nat} {x y x2 y2 : Value} {o : Obj} (h : (W.cell? ⟨b, 0, none⟩ = some x ∧ W.cell? ⟨b, 1, none⟩ = some y) ∧ (W.cell? ⟨c, 0, none⟩ = some x2 ∧ W.cell? ⟨c, 1, none⟩ = some y2)) : ((W.alloc o).cell? ⟨b, 0, none⟩ = some x ∧ (W.alloc o).cell? ⟨b, 1, none⟩ = some y) ∧ ((W.alloc o).cell? ⟨c, 0, none⟩ = some x2 ∧ (W.alloc o).cell? ⟨c, 1, none⟩ = some y2) :=
  ⟨held_alloc (h.1), held_alloc (h.2)⟩
theorem held3 {W W' : World} {b c d : Nat} {x y x2 y2 x3 y3 : Value} (h : (W.cell? ⟨b, 0, none⟩ = some x ∧ W.cell? ⟨b, 1, none⟩ = some y) ∧ (W.cell? ⟨c, 0, none⟩ = some x2 ∧ W.cell? ⟨c, 1, none⟩ = some y2) ∧ (W.cell? ⟨d, 0, none⟩ = some x3 ∧ W.cell? ⟨d, 1, none⟩ = some y3)) (hq : Below W.heap.size W W') : (W'.cell? ⟨b, 0, none⟩ = some x ∧ W'.cell? ⟨b, 1, none⟩ = some y) ∧ (W'.cell? ⟨c, 0, none⟩ = some x2 ∧ W'.cell? ⟨c, 1, none⟩ = some y2) ∧ (W'.cell? ⟨d, 0, none⟩ = some x3 ∧ W'.cell? ⟨d, 1, none⟩ = some y3) :=
  ⟨held (h.1) hq, held (h.2.1) hq, held (h.2.2) hq⟩
theorem held3_set2 {W : World} {b c d : Nat} {x y x2 y2 x3 y3 : Value} {r i j : Nat} {u v : Value} (h : (W.cell? ⟨b, 0, none⟩ = some x ∧ W.cell? ⟨b, 1, none⟩ = some y) ∧ (W.cell? ⟨c, 0, none⟩ = some x2 ∧ W.cell? ⟨c, 1, none⟩ = some y2) ∧ (W.cell? ⟨d, 0, none⟩ = some x3 ∧ W.cell? ⟨d, 1, none⟩ = some y3)) (hr : b ≠ r ∧ c ≠ r ∧ d ≠ r) : (((W.setCell ⟨r, i, none⟩ u).setCell ⟨r, j, none⟩ v).cell? ⟨b, 0, none⟩ = some x ∧ ((W.setCell ⟨r, i, none⟩ u).setCell ⟨r, j, none⟩ v).cell? ⟨b, 1, none⟩ = some y) ∧ (((W.setCell ⟨r, i, none⟩ u).setCell ⟨r, j, none⟩ v).cell? ⟨c, 0, none⟩ = some x2 ∧ ((W.setCell ⟨r, i, none⟩ u).setCell ⟨r, j, none⟩ v).cell? ⟨c, 1, none⟩ = some y2) ∧ (((W.setCell ⟨r, i, none⟩ u).setCell ⟨r, j, none⟩ v).cell? ⟨d, 0, none⟩ = some x3 ∧ ((W.setCell ⟨r, i, none⟩ u).setCell ⟨r, j, none⟩ v).cell? ⟨d, 1, none⟩ = some y3) :=
  ⟨held_set2 (h.1) (hr.1), held_set2 (h.2.1) (hr.2.1), held_set2 (h.2.2) (hr.2.2)⟩
theorem held3_alloc {W : World} {b c d : Nat} {x y x2 y2 x3 y3 : Value} {o : Obj} (h : (W.cell? ⟨b, 0, none⟩ = some x ∧ W.cell? ⟨b, 1, none⟩ = some y) ∧ (W.cell? ⟨c, 0, none⟩ = some x2 ∧ W.cell? ⟨c, 1, none⟩ = some y2) ∧ (W.cell? ⟨d, 0, none⟩ = some x3 ∧ W.cell? ⟨d, 1, none⟩ = some y3)) : ((W.alloc o).cell? ⟨b, 0, none⟩ = some x ∧ (W.alloc o).cell? ⟨b, 1, none⟩ = some y) ∧ ((W.alloc o).cell? ⟨c, 0, none⟩ = some x2 ∧ (W.alloc o).cell? ⟨c, 1, none⟩ = some y2) ∧ ((W.alloc o).cell? ⟨d, 0, none⟩ = some x3 ∧ (W.alloc o).cell? ⟨d, 1, none⟩ = some y3) :=
  ⟨held_alloc (h.1), held_alloc (h.2.1), held_alloc (h.2.2)⟩
theorem below_set2 {B : Nat} {w W : World} (h : Below B w W) {b : Nat} (hb : B ≤ b) (i j : Nat) (u v : Value) : Below B w ((W.setCell ⟨b, i, none⟩ u).setCell ⟨b, j, none⟩ v) := (h.setCell hb u).setCell hb v
theorem infoI : (Tryz.prog.info? 23).map (·.size) = some 2 := by kernel_rfl
theorem fb_empty (m : Nat) : (fb m).toList.isEmpty = decide (m = 0) := by
  rw [ByteArray.toList_eq, fb_toList]
  by_cases h : m = 0
  · subst h; rfl
  · rw [decide_eq_false h]
    cases hl : formL m with
    | nil => exact absurd (formL_inj (hl.trans formL_zero.symm)) h
    | cons _ _ => rfl
/-- A function's one answer, an Int, out of its block. -/
theorem ret_whole {fn : Func} {p : Tmp} {tmps : Array Value} {W : World} {r : Nat} {n : Bool} {s : ByteArray} {Q : Ending → World → Prop} (h : fn.results = #[.cell p 23]) (hp : tmps.getD p undef = .pointer (some ⟨r, 0, none⟩))
    (hr : Bk W r #[.bool n, .string s]) (hQ : Q (.returned (wi n s)) W) : bodyPost Tryz.prog fn Q Exit.ret { tmps := tmps, defers := [] } W :=
  bodyPost_ret (results_cell_row h _ W r _ _ _ _ hp hr Tryz.underlying23 rfl infoI) rfl hQ
/-- The blocks of a function with one Int in and one out. -/
theorem blocks2 (w : World) (a b : Array Value) : Bk ((w.alloc (.cells a 23)).alloc (.cells b 23)) w.heap.size a ∧ Bk ((w.alloc (.cells a 23)).alloc (.cells b 23)) (w.heap.size + 1) b ∧
    Below w.heap.size w ((w.alloc (.cells a 23)).alloc (.cells b 23)) := by
  refine ⟨(Bk.new w a).alloc _, ?_, ((Below.refl _ _).alloc (Nat.le_refl _) _).alloc (by rw [World.size_alloc]; omega) _⟩
  have := Bk.new (w.alloc (.cells a 23)) b
  rwa [World.size_alloc] at this
theorem blocks3 (w : World) (a b c : Array Value) : Bk (((w.alloc (.cells a 23)).alloc (.cells b 23)).alloc (.cells c 23)) w.heap.size a ∧ Bk (((w.alloc (.cells a 23)).alloc (.cells b 23)).alloc (.cells c 23)) (w.heap.size + 1) b ∧
    Bk (((w.alloc (.cells a 23)).alloc (.cells b 23)).alloc (.cells c 23)) (w.heap.size + 1 + 1) c ∧ Below w.heap.size w (((w.alloc (.cells a 23)).alloc (.cells b 23)).alloc (.cells c 23)) := by
  obtain ⟨h1, h2, h3⟩ := blocks2 w a b
  refine ⟨h1.alloc _, h2.alloc _, ?_, h3.alloc (by rw [World.size_alloc, World.size_alloc]; omega) _⟩
  have := Bk.new ((w.alloc (.cells a 23)).alloc (.cells b 23)) c
  rwa [World.size_alloc, World.size_alloc] at this
theorem blocks1 (w : World) (a : Array Value) : Bk (w.alloc (.cells a 23)) w.heap.size a ∧ Below w.heap.size w (w.alloc (.cells a 23)) :=
  ⟨Bk.new w a, (Below.refl _ _).alloc (Nat.le_refl _) _⟩
theorem blocks4 (w : World) (a b c d : Array Value) : Bk ((((w.alloc (.cells a 23)).alloc (.cells b 23)).alloc (.cells c 23)).alloc (.cells d 23)) w.heap.size a ∧ Bk ((((w.alloc (.cells a 23)).alloc (.cells b 23)).alloc (.cells c 23)).alloc (.cells d 23)) (w.heap.size + 1) b ∧
    Bk ((((w.alloc (.cells a 23)).alloc (.cells b 23)).alloc (.cells c 23)).alloc (.cells d 23)) (w.heap.size + 1 + 1) c ∧ Bk ((((w.alloc (.cells a 23)).alloc (.cells b 23)).alloc (.cells c 23)).alloc (.cells d 23)) (w.heap.size + 1 + 1 + 1) d ∧ Below w.heap.size w ((((w.alloc (.cells a 23)).alloc (.cells b 23)).alloc (.cells c 23)).alloc (.cells d 23)) := by
  obtain ⟨h1, h2, h3, h4⟩ := blocks3 w a b c
  refine ⟨h1.alloc _, h2.alloc _, h3.alloc _, ?_, h4.alloc (by rw [World.size_alloc, World.size_alloc, World.size_alloc]; omega) _⟩
  have := Bk.new (((w.alloc (.cells a 23)).alloc (.cells b 23)).alloc (.cells c 23)) d
  rwa [World.size_alloc, World.size_alloc, World.size_alloc] at this
theorem results_two {fn : Func} {p q u : Tmp} {tmps : Array Value} {W : World} {r1 r2 : Nat} {cs ds : Array Value} {v : Value} (h : fn.results = #[.cell p 23, .cell q 23, .tmp u]) (hp : tmps.getD p undef = .pointer (some ⟨r1, 0, none⟩)) (hq : tmps.getD q undef = .pointer (some ⟨r2, 0, none⟩)) (hu : tmps.getD u undef = v)
    (h1 : Bk W r1 cs) (h2 : Bk W r2 ds) (hc : cs.size = 2) (hd : ds.size = 2) : (results fn tmps).run Tryz.prog W = .ok (.tuple #[.agg cs, .agg ds, v]) W := by
  have hp' : tmps[p]?.getD undef = .pointer (some ⟨r1, 0, none⟩) := by simpa using hp
  have hq' : tmps[q]?.getD undef = .pointer (some ⟨r2, 0, none⟩) := by simpa using hq
  have hu' : tmps[u]?.getD undef = v := by simpa using hu
  have e1 := run_loadVar_row (P := Tryz.prog) W r1 _ 23 cs _ _ h1 Tryz.underlying23 rfl (by rw [hc]; exact infoI)
  have e2 := run_loadVar_row (P := Tryz.prog) W r2 _ 23 ds _ _ h2 Tryz.underlying23 rfl (by rw [hd]; exact infoI)
  simp [results, h, hp', hq', hu', asAddr, e1, e2]
/-- A function's three answers: two Ints out of their blocks, and a third one. -/
theorem ret_two {fn : Func} {p q u : Tmp} {tmps : Array Value} {W : World} {r1 r2 : Nat} {x y x' y' v : Value} {Q : Ending → World → Prop} (h : fn.results = #[.cell p 23, .cell q 23, .tmp u]) (hp : tmps.getD p undef = .pointer (some ⟨r1, 0, none⟩)) (hq : tmps.getD q undef = .pointer (some ⟨r2, 0, none⟩)) (hu : tmps.getD u undef = v)
    (h1 : Bk W r1 #[x, y]) (h2 : Bk W r2 #[x', y']) (hQ : Q (.returned (.tuple #[.agg #[x, y], .agg #[x', y'], v])) W) : bodyPost Tryz.prog fn Q Exit.ret { tmps := tmps, defers := [] } W :=
  bodyPost_ret (results_two h hp hq hu h1 h2 rfl rfl) rfl hQ
theorem two_set {W : World} {c d : Nat} {x y x' y' : Value} (hC : Bk W c #[x, y]) (hD : Bk W d #[x', y']) (hne : c ≠ d) (u v u' v' : Value) : Bk ((((W.setCell ⟨c, 0, none⟩ u).setCell ⟨c, 1, none⟩ v).setCell ⟨d, 0, none⟩ u').setCell ⟨d, 1, none⟩ v') c #[u, v] ∧ Bk ((((W.setCell ⟨c, 0, none⟩ u).setCell ⟨c, 1, none⟩ v).setCell ⟨d, 0, none⟩ u').setCell ⟨d, 1, none⟩ v') d #[u', v'] :=
  ⟨((hC.set_ u v).far hne u').far hne v', ((hD.far (Ne.symm hne) u).far (Ne.symm hne) v).set_ u' v'⟩
theorem below_set4 {B : Nat} {w W : World} (h : Below B w W) {c d : Nat} (hc : B ≤ c) (hd : B ≤ d) (u v u' v' : Value) : Below B w ((((W.setCell ⟨c, 0, none⟩ u).setCell ⟨c, 1, none⟩ v).setCell ⟨d, 0, none⟩ u').setCell ⟨d, 1, none⟩ v') :=
  below_set2 (below_set2 h hc _ _ _ _) hd _ _ _ _
end Go.Proofs.YtmipcelnmmjplaaGreatDoor
/- Package whole: signed, next, Of, Form, Neg, Sign, walked. -/
namespace Go.Proofs.YtmipcelnmmjplaaGreatDoor
open Go.RowKit Go.Shelf

set_option maxRecDepth 100000 in
set_option maxHeartbeats 400000 in
theorem signed_any (w : World) (n : Bool) (s : ByteArray) (m : Nat) (z : Bool) (o : ByteArray) (hs : fb m = s) (hz : wf (sI n m) = wi z o) :
    Calls Tryz.prog 151 #[.bool n, .string s] w (Ret (.agg #[.bool z, .string o]) w) := by
  show Calls _ _ _ _ (Ret (wi z o) w)
  rw [← hz]
  clear hz
  have hw : wf (sI n m) = wi (n && decide (0 < m)) (fb m) := wf_sign n m
  have he := fb_empty m
  rw [hs] at hw he
  obtain ⟨e, hd⟩ : ∃ e, decide (m = 0) = e := ⟨_, rfl⟩
  have hd2 : decide (0 < m) = !e := by rw [← hd]; by_cases h : m = 0 <;> simp [h]; omega
  rw [hd] at he
  rw [hw, hd2]
  clear hw hd hd2 hs
  go_enter Tryz.func151, Tryz.ntmps151
  cases n
  · go_wp2
    exact ret_whole rfl rfl (Bk.new _ _) ⟨rfl, (blocks1 w _).2⟩
  · cases e
    · go_wp2
      exact ret_whole rfl rfl (Bk.new _ _) ⟨rfl, (blocks1 w _).2⟩
    · go_wp2
      exact ret_whole rfl rfl (Bk.new _ _) ⟨rfl, (blocks1 w _).2⟩

set_option maxRecDepth 100000 in
set_option maxHeartbeats 400000 in
theorem next_any (w : World) (s : ByteArray) (hs : s.size ≤ 1000000) (o : ByteArray) (ho : fb (num s + 1) = o) :
    Calls Tryz.prog 183 #[.string s] w (Ret (.string o) w) := by
  have hb := Below.refl w.heap.size w
  go_enter Tryz.func183, Tryz.ntmps183
  go_wp2_with fail
  refine (use_of _ ⟨#[1]⟩ 1 (by unfold B64; omega) (by kernel_rfl)).mono ?_
  rintro e W ⟨rfl, hq⟩
  replace hb := below_next hb hq; clear hq
  go_wp2_with fail
  refine (use_add _ s ⟨#[1]⟩ o hs (by decide) (by rw [show num ⟨#[1]⟩ = 1 from by kernel_rfl, ho])).mono ?_
  rintro e W ⟨rfl, hq⟩
  replace hb := below_next hb hq; clear hq
  go_wp2
  go_ret
  exact ⟨rfl, hb⟩

set_option maxRecDepth 100000 in
set_option maxHeartbeats 400000 in
theorem wform_any (w : World) (n : Bool) (s : ByteArray) (hs : s.size ≤ 100000000) (z : Bool) (o : ByteArray) (hz : wf (wv n s) = wi z o) :
    Calls Tryz.prog 137 #[wi n s] w (Ret (.agg #[.bool z, .string o]) w) := by
  unfold wi
  go_enter Tryz.func137, Tryz.ntmps137
  go_wp2_with fail
  obtain ⟨hin, hr, hb⟩ := blocks2 w #[Value.bool n, Value.string s] #[Value.bool false, Value.string { data := #[] }]
  generalize ((w.alloc (Obj.cells #[Value.bool n, Value.string s] 23)).alloc (Obj.cells #[Value.bool false, Value.string { data := #[] }] 23)) = W0 at *
  replace hin := hin.drew.cells
  replace hr := hr.drew
  replace hb := hb.drew
  have HZ := Lib.hid hz; clear hz
  go_region_held3 (fun w' => w'.cell? ⟨w.heap.size, 0, none⟩ = some (.bool n) ∧ w'.cell? ⟨w.heap.size, 1, none⟩ = some (.string s))
    (first | assumption | exact held (by assumption) (by assumption) | exact held_set2 (by assumption) (by omega))
    (first
     | (go_at_call 180; refine (use_trim _ s _ hs rfl).mono ?_; rintro e W1 ⟨rfl, hq⟩; replace hb := below_next hb hq; replace hr := hr.below hq)
     | (go_at_call 151; refine (signed_any _ n _ (num s) z o rfl HZ.out).mono ?_; rintro e W2 ⟨rfl, hq⟩; replace hb := below_next hb hq; replace hr := hr.below hq; obtain ⟨hr0, hr1, hr2, hr3⟩ := hr.facts))
  go_wp2
  exact ret_whole rfl rfl (hr.set_ _ _) ⟨rfl, below_set2 hb (by omega) _ _ _ _⟩

set_option maxRecDepth 100000 in
set_option maxHeartbeats 400000 in
theorem wneg_any (w : World) (n : Bool) (s : ByteArray) (hs : s.size ≤ 100000000) (z : Bool) (o : ByteArray) (hz : wf (-wv n s) = wi z o) :
    Calls Tryz.prog 152 #[wi n s] w (Ret (.agg #[.bool z, .string o]) w) := by
  unfold wi
  go_enter Tryz.func152, Tryz.ntmps152
  go_wp2_with fail
  obtain ⟨hin, hr, hb⟩ := blocks2 w #[Value.bool n, Value.string s] #[Value.bool false, Value.string { data := #[] }]
  generalize ((w.alloc (Obj.cells #[Value.bool n, Value.string s] 23)).alloc (Obj.cells #[Value.bool false, Value.string { data := #[] }] 23)) = W0 at *
  replace hin := hin.drew.cells
  replace hr := hr.drew
  replace hb := hb.drew
  have HZ := Lib.hid hz; clear hz
  go_region_held3 (fun w' => w'.cell? ⟨w.heap.size, 0, none⟩ = some (.bool n) ∧ w'.cell? ⟨w.heap.size, 1, none⟩ = some (.string s))
    (first | assumption | exact held (by assumption) (by assumption) | exact held_set2 (by assumption) (by omega))
    (first
     | (go_at_call 180; refine (use_trim _ s _ hs rfl).mono ?_; rintro e W1 ⟨rfl, hq⟩; replace hb := below_next hb hq; replace hr := hr.below hq)
     | (go_at_call 151; refine (signed_any _ (!n) _ (num s) z o rfl (by rw [sI_not]; exact HZ.out)).mono ?_; rintro e W2 ⟨rfl, hq⟩; replace hb := below_next hb hq; replace hr := hr.below hq; obtain ⟨hr0, hr1, hr2, hr3⟩ := hr.facts))
  go_wp2
  exact ret_whole rfl rfl (hr.set_ _ _) ⟨rfl, below_set2 hb (by omega) _ _ _ _⟩

set_option maxRecDepth 100000 in
set_option maxHeartbeats 400000 in
theorem wof_any (w : World) (n : Int) (h1 : -9223372036854775808 ≤ n) (h2 : n ≤ 9223372036854775807) (z : Bool) (o : ByteArray) (hz : wf n = wi z o) :
    Calls Tryz.prog 122 #[.int .i64 n] w (Ret (.agg #[.bool z, .string o]) w) := by
  obtain ⟨hz1, hz2⟩ := wi_inj hz
  clear hz
  have HZ := Lib.hid hz2; clear hz2
  subst hz1
  go_enter Tryz.func122, Tryz.ntmps122
  obtain ⟨hr, hb⟩ := blocks1 w #[Value.bool false, Value.string { data := #[] }]
  by_cases h : n < 0
  · have hd : decide (n < 0) = true := by simp [h]
    have ha : IntKind.u64.wrap (-IntKind.u64.wrap n) = (n.natAbs : Int) := by rw [IntKind.wrap_u64, IntKind.wrap_u64]; omega
    have ha2 : n.natAbs < B64 := by unfold B64; omega
    rw [hd]
    go_wp2_with fail
    generalize (w.alloc (Obj.cells #[Value.bool false, Value.string { data := #[] }] 23)) = W0 at *
    refine (use_of _ o n.natAbs ha2 HZ.out).mono ?_
    rintro e W ⟨rfl, hq⟩
    replace hb := below_next hb hq
    replace hr := hr.below hq
    obtain ⟨hr0, hr1, hr2, hr3⟩ := hr.facts
    go_wp2
    exact ret_whole rfl rfl (hr.set_ _ _) ⟨rfl, below_set2 hb (by omega) _ _ _ _⟩
  · have hd : decide (n < 0) = false := by simp [h]
    have ha : n = (n.natAbs : Int) := by omega
    have ha2 : n.natAbs < B64 := by unfold B64; omega
    rw [hd]
    generalize n.natAbs = m at *
    subst ha
    go_wp2_with fail
    generalize (w.alloc (Obj.cells #[Value.bool false, Value.string { data := #[] }] 23)) = W0 at *
    refine (use_of _ o m ha2 HZ.out).mono ?_
    rintro e W ⟨rfl, hq⟩
    replace hb := below_next hb hq
    replace hr := hr.below hq
    obtain ⟨hr0, hr1, hr2, hr3⟩ := hr.facts
    go_wp2
    exact ret_whole rfl rfl (hr.set_ _ _) ⟨rfl, below_set2 hb (by omega) _ _ _ _⟩

set_option maxRecDepth 100000 in
set_option maxHeartbeats 400000 in
theorem wsign_any (w : World) (n : Bool) (s : ByteArray) (hs : s.size ≤ 100000000) (c : Int) (hc : sg (wv n s) = c) :
    Calls Tryz.prog 90 #[wi n s] w (Ret (.int .i64 c) w) := by
  subst hc
  unfold wi
  obtain ⟨hin, hb⟩ := blocks1 w #[Value.bool n, Value.string s]
  go_enter Tryz.func90, Tryz.ntmps90
  go_wp2_with fail
  generalize (w.alloc (Obj.cells #[Value.bool n, Value.string s] 23)) = W0 at *
  refine (use_len _ s _ hs rfl).mono ?_
  rintro e W ⟨rfl, hq⟩
  replace hb := below_next hb hq
  have hin2 := (hin.below hq).cells
  obtain ⟨hin3, hin4⟩ := hin2
  by_cases h0 : num s = 0
  · have hc : sg (wv n s) = 0 := by cases n <;> simp [sg, wv, h0]
    rw [h0, bl_zero]
    clear h0
    go_wp2
    go_ret
    exact ⟨by rw [hc]; rfl, hb⟩
  · have hbl : (((bl (num s) : Nat) : Int) == 0) = false := by simp; exact fun h => h0 (bl_pos.1 h)
    cases n
    · have hc : sg (wv false s) = 1 := by unfold sg; rw [wv_false, if_neg (by omega), if_neg (by omega)]
      go_wp2
      go_ret
      exact ⟨by rw [hc]; rfl, hb⟩
    · have hc : sg (wv true s) = -1 := by unfold sg; rw [wv_true, if_neg (by omega), if_pos (by omega)]
      go_wp2
      go_ret
      exact ⟨by rw [hc]; rfl, hb⟩
end Go.Proofs.YtmipcelnmmjplaaGreatDoor
/- Package whole: Cmp, Div, Shift, walked. -/
namespace Go.Proofs.YtmipcelnmmjplaaGreatDoor
open Go.RowKit Go.Shelf

theorem sg_cases (z : Int) : (z = 0 ∧ sg z = 0) ∨ (z < 0 ∧ sg z = -1) ∨ (0 < z ∧ sg z = 1) := by
  unfold sg
  by_cases h0 : z = 0
  · exact .inl ⟨h0, by rw [if_pos h0]⟩
  · by_cases h1 : z < 0
    · exact .inr (.inl ⟨h1, by rw [if_neg h0, if_pos h1]⟩)
    · exact .inr (.inr ⟨by omega, by rw [if_neg h0, if_neg h1]⟩)
theorem cmpN_cases (A B : Nat) : (A = B ∧ cmpN A B = 0) ∨ (A < B ∧ cmpN A B = -1) ∨ (B < A ∧ cmpN A B = 1) := by
  unfold cmpN
  by_cases h0 : A < B
  · exact .inr (.inl ⟨h0, by rw [if_pos h0]⟩)
  · by_cases h1 : B < A
    · exact .inr (.inr ⟨h1, by rw [if_neg h0, if_pos h1]⟩)
    · exact .inl ⟨by omega, by rw [if_neg h0, if_neg h1]⟩
theorem sg_less {y z : Int} (h : sg y ≠ sg z) : sg (y - z) = if sg y < sg z then -1 else 1 := by
  rcases sg_cases y with ⟨a, b⟩ | ⟨a, b⟩ | ⟨a, b⟩ <;> rcases sg_cases z with ⟨c, d⟩ | ⟨c, d⟩ | ⟨c, d⟩ <;> rcases sg_cases (y - z) with ⟨e, f⟩ | ⟨e, f⟩ | ⟨e, f⟩ <;>
    first | (exfalso; omega) | (rw [b, d, f]; rfl)
theorem sg_same (m n : Bool) (A B : Nat) (h : sg (sI m A) = sg (sI n B)) : sg (sI m A - sI n B) = sg (sI m A) * cmpN A B := by
  rcases sg_cases (sI m A) with ⟨a, b⟩ | ⟨a, b⟩ | ⟨a, b⟩ <;> rcases sg_cases (sI n B) with ⟨c, d⟩ | ⟨c, d⟩ | ⟨c, d⟩ <;> rcases sg_cases (sI m A - sI n B) with ⟨e, f⟩ | ⟨e, f⟩ | ⟨e, f⟩ <;>
    rcases cmpN_cases A B with ⟨g, i⟩ | ⟨g, i⟩ | ⟨g, i⟩ <;> rw [b, d] at h <;>
    first | (exfalso; revert h; decide) | (rw [b, f, i]; rfl) | (exfalso; clear h b d f i; cases m <;> cases n <;> simp only [sI, if_true, if_false, Bool.false_eq_true] at a c e <;> omega)

set_option maxRecDepth 100000 in
set_option maxHeartbeats 400000 in
theorem wcmp_any (w : World) (m n : Bool) (s t : ByteArray) (hs : s.size ≤ 100000000) (ht : t.size ≤ 100000000) (c : Int) (hc : sg (wv m s - wv n t) = c) :
    Calls Tryz.prog 81 #[wi m s, wi n t] w (Ret (.int .i64 c) w) := by
  have HC := Lib.hid hc; clear hc
  unfold wi
  go_enter Tryz.func81, Tryz.ntmps81
  go_wp2_with fail
  obtain ⟨hA, hB, hb⟩ := blocks2 w #[Value.bool m, Value.string s] #[Value.bool n, Value.string t]
  generalize ((w.alloc (Obj.cells #[Value.bool m, Value.string s] 23)).alloc (Obj.cells #[Value.bool n, Value.string t] 23)) = W0 at *
  obtain ⟨g, hg⟩ : ∃ g, sg (wv m s) = g := ⟨_, rfl⟩
  obtain ⟨k, hk⟩ : ∃ k, sg (wv n t) = k := ⟨_, rfl⟩
  have hg2 : g = 0 ∨ g = -1 ∨ g = 1 := by rw [← hg]; rcases sg_cases (wv m s) with ⟨_, h⟩ | ⟨_, h⟩ | ⟨_, h⟩ <;> rw [h] <;> omega
  have hk2 : -1 ≤ k ∧ k ≤ 1 := by rw [← hk]; rcases sg_cases (wv n t) with ⟨_, h⟩ | ⟨_, h⟩ | ⟨_, h⟩ <;> rw [h] <;> omega
  have HG := Lib.hid hg; clear hg
  have HK := Lib.hid hk; clear hk
  refine (wsign_any _ m s hs g HG.out).mono ?_
  rintro e W1 ⟨rfl, hq⟩
  replace hb := below_next hb hq
  replace hA := hA.below hq
  replace hB := hB.below hq
  obtain ⟨hA0, hA1⟩ := hA.cells
  obtain ⟨hB0, hB1⟩ := hB.cells
  clear hq
  go_wp2_with fail
  refine (wsign_any _ n t ht k HK.out).mono ?_
  rintro e W2 ⟨rfl, hq⟩
  replace hb := below_next hb hq
  replace hA := hA.below hq
  replace hB := hB.below hq
  clear hA0 hA1 hB0 hB1
  obtain ⟨hA0, hA1⟩ := hA.cells
  obtain ⟨hB0, hB1⟩ := hB.cells
  clear hq
  by_cases he : g = k
  · subst he
    have hr := sg_same m n (num s) (num t) (HG.out.trans HK.out.symm)
    rw [← wv_sI, ← wv_sI, HC.out, HG.out] at hr
    obtain ⟨d, hd⟩ : ∃ d, cmpN (num s) (num t) = d := ⟨_, rfl⟩
    rw [hd] at hr
    have hd2 : -1 ≤ d ∧ d ≤ 1 := by rw [← hd]; rcases cmpN_cases (num s) (num t) with ⟨_, h⟩ | ⟨_, h⟩ | ⟨_, h⟩ <;> rw [h] <;> omega
    have HD := Lib.hid hd; clear hd
    have HR := Lib.hid hr; clear hr
    rcases hg2 with rfl | rfl | rfl
    all_goals
      go_wp2_with fail
      refine (use_cmp _ s t d HD.out).mono ?_
      rintro e W ⟨rfl, hq⟩
      replace hb := below_next hb hq; clear hq
      go_wp2
      go_ret
      refine ⟨?_, hb⟩
      rw [HR.out]
      first | rfl | simp
  · have hne : sg (wv m s) ≠ sg (wv n t) := by rw [HG.out, HK.out]; exact he
    have hr := sg_less hne
    rw [HC.out, HG.out, HK.out] at hr
    have HR := Lib.hid hr; clear hr hne
    go_wp2_with fail
    refine (Tryz.cmp_Compare_int g k _).mono ?_
    rintro e W ⟨rfl, rfl⟩
    have hcc : Lib.compareInt g k = c := by
      unfold Lib.compareInt
      rw [HR.out]
      by_cases hgk : g < k
      · rw [if_pos hgk, if_pos hgk]
      · rw [if_neg hgk, if_neg hgk, if_pos (by omega)]
    go_wp2
    go_ret
    exact ⟨rfl, hb⟩
end Go.Proofs.YtmipcelnmmjplaaGreatDoor
/- Signs of sums and products; texts that differ. -/
namespace Go.Proofs.YtmipcelnmmjplaaGreatDoor

theorem two_lists {a b : ByteArray} (h : ¬ a = b) : (a.toList == b.toList) = false := by
  rw [beq_eq_false_iff_ne]
  intro e
  refine h (ByteArray.ext (Array.ext' ?_))
  rw [← ByteArray.toList_eq, ← ByteArray.toList_eq, e]
theorem sg_neg (z : Int) : sg (-z) = -sg z := by
  rcases sg_cases z with ⟨a, b⟩ | ⟨a, b⟩ | ⟨a, b⟩ <;> rcases sg_cases (-z) with ⟨c, d⟩ | ⟨c, d⟩ | ⟨c, d⟩ <;> first | (exfalso; omega) | (rw [b, d]; done) | (rw [b, d]; rfl)
theorem sg_mul (y z : Int) : sg (y * z) = sg y * sg z := by
  rcases sg_cases y with ⟨a, b⟩ | ⟨a, b⟩ | ⟨a, b⟩
  · rw [a, Int.zero_mul]; rw [show sg (0 : Int) = 0 from rfl, Int.zero_mul]
  · rcases sg_cases z with ⟨c, d⟩ | ⟨c, d⟩ | ⟨c, d⟩
    · rw [c, Int.mul_zero]; rw [show sg (0 : Int) = 0 from rfl, Int.mul_zero]
    · have h := Int.mul_pos_of_neg_of_neg a c
      rw [b, d]; unfold sg; rw [if_neg (by omega), if_neg (by omega)]; rfl
    · have h := Int.mul_neg_of_neg_of_pos a c
      rw [b, d]; unfold sg; rw [if_neg (by omega), if_pos h]; rfl
  · rcases sg_cases z with ⟨c, d⟩ | ⟨c, d⟩ | ⟨c, d⟩
    · rw [c, Int.mul_zero]; rw [show sg (0 : Int) = 0 from rfl, Int.mul_zero]
    · have h := Int.mul_neg_of_pos_of_neg a c
      rw [b, d]; unfold sg; rw [if_neg (by omega), if_pos h]; rfl
    · have h := Int.mul_pos a c
      rw [b, d]; unfold sg; rw [if_neg (by omega), if_neg (by omega)]; rfl
theorem sg_range (z : Int) : -1 ≤ sg z ∧ sg z ≤ 1 := by
  rcases sg_cases z with ⟨_, h⟩ | ⟨_, h⟩ | ⟨_, h⟩ <;> rw [h] <;> omega
end Go.Proofs.YtmipcelnmmjplaaGreatDoor
/- Ints that stand for sums, differences, products, powers: their texts, and how long these are. -/
namespace Go.Proofs.YtmipcelnmmjplaaGreatDoor

theorem wv_lt {n : Bool} {s : ByteArray} {k : Nat} (h : s.size ≤ k) : (wv n s).natAbs < 256 ^ k := by rw [wv_abs]; exact lt_size h
theorem neg_nmw (n : Bool) (t : ByteArray) {k : Nat} (h : t.size ≤ k) : ∃ p u, wf (-wv n t) = wi p u ∧ wv p u = -wv n t ∧ u.size ≤ k := nmw (by rw [Int.natAbs_neg]; exact wv_lt h)
theorem form_nmw (n : Bool) (t : ByteArray) {k : Nat} (h : t.size ≤ k) : ∃ p u, wf (wv n t) = wi p u ∧ wv p u = wv n t ∧ u.size ≤ k := nmw (wv_lt h)
theorem plus_nmw (m n : Bool) (s t : ByteArray) {k : Nat} (hs : s.size ≤ k) (ht : t.size ≤ k) : ∃ p u, wf (wv m s + wv n t) = wi p u ∧ wv p u = wv m s + wv n t ∧ u.size ≤ k + 1 := by
  refine nmw ?_
  have h1 := Int.natAbs_add_le (wv m s) (wv n t)
  have h2 := lt_add (wv_lt (n := m) hs) (wv_lt (n := n) ht)
  omega
theorem minus_nmw (m n : Bool) (s t : ByteArray) {k : Nat} (hs : s.size ≤ k) (ht : t.size ≤ k) : ∃ p u, wf (wv m s - wv n t) = wi p u ∧ wv p u = wv m s - wv n t ∧ u.size ≤ k + 1 := by
  refine nmw ?_
  have h1 := Int.natAbs_sub_le (wv m s) (wv n t)
  have h2 := lt_add (wv_lt (n := m) hs) (wv_lt (n := n) ht)
  omega
theorem times_nmw (m n : Bool) (s t : ByteArray) {k l : Nat} (hs : s.size ≤ k) (ht : t.size ≤ l) : ∃ p u, wf (wv m s * wv n t) = wi p u ∧ wv p u = wv m s * wv n t ∧ u.size ≤ k + l := by
  refine nmw ?_
  rw [Int.natAbs_mul]
  exact lt_mul (wv_lt hs) (wv_lt ht)
end Go.Proofs.YtmipcelnmmjplaaGreatDoor
/- Rows of Ints in memory, and the statements' own 'long', walked. -/
namespace Go.Proofs.YtmipcelnmmjplaaGreatDoor
open Go.RowKit Go.Shelf

/-- A sign and a text, one behind the other. -/
abbrev IV := Bool × ByteArray
/-- A slice holds those Ints. -/
def IAt (w : World) (ad : Option Addr) (l : List IV) : Prop := ∀ i (h : i < l.length), ∃ lb lo, ad = some ⟨lb, lo, none⟩ ∧ lb < w.heap.size ∧
  w.cell? ⟨lb, lo + i * 2, none⟩ = some (.bool l[i].1) ∧ w.cell? ⟨lb, lo + i * 2 + 1, none⟩ = some (.string l[i].2)
theorem IAt.below {w w' : World} {ad : Option Addr} {l : List IV} (h : IAt w ad l) (hb : Below w.heap.size w w') : IAt w' ad l := by
  intro i hi
  obtain ⟨lb, lo, e, hl, h1, h2⟩ := h i hi
  have hsz := hb.size
  exact ⟨lb, lo, e, by omega, by rw [hb.cell hl]; exact h1, by rw [hb.cell hl]; exact h2⟩
/-- The cells of a row of Ints. -/
def icells : List IV → List Value
  | [] => []
  | x :: l => .bool x.1 :: .string x.2 :: icells l
theorem icells_get : ∀ (l : List IV) (i : Nat) (h : i < l.length), (icells l)[i * 2]? = some (.bool l[i].1) ∧ (icells l)[i * 2 + 1]? = some (.string l[i].2)
  | [], i, h => by simp at h
  | x :: l, 0, h => ⟨rfl, rfl⟩
  | x :: l, i + 1, h => by
    have := icells_get l i (by simpa using h)
    rw [show (i + 1) * 2 = i * 2 + 1 + 1 by omega]
    exact this
theorem IAt.new (w : World) (t : TypeId) (l : List IV) (L : Array Value) (hL : L = (icells l).toArray) : IAt (w.alloc (.cells L t)) (some ⟨w.heap.size, 0, none⟩) l := by
  subst hL
  intro i hi
  have hR := Rw.new w t (icells l)
  have h := icells_get l i hi
  refine ⟨w.heap.size, 0, rfl, by rw [World.size_alloc]; omega, ?_, ?_⟩
  · rw [Nat.zero_add, hR.cell]; exact h.1
  · rw [Nat.zero_add, hR.cell]; exact h.2
theorem IAt.nil (w : World) (ad : Option Addr) : IAt w ad [] := fun i h => by simp at h
end Go.Proofs.YtmipcelnmmjplaaGreatDoor
/- Rows of texts that grow: append of one text. -/
namespace Go.Proofs.YtmipcelnmmjplaaGreatDoor
open Go.RowKit Go.Shelf

/-- A text, as a cell. -/
def sv (s : ByteArray) : Value := .string s
/-- Block g holds the texts ds at its head, with room for cap of them in all. -/
def OwnS (w : World) (g cap : Nat) (ds : List ByteArray) : Prop := ∃ T L, Rw w g T L ∧ ds.length ≤ cap ∧ cap = L.length ∧ cap ≤ maxLen ∧ L.take ds.length = ds.map sv
section
variable {w w' : World} {g cap : Nat}
theorem OwnS.lt {ds : List ByteArray} (h : OwnS w g cap ds) : g < w.heap.size := by obtain ⟨_, _, h, _⟩ := h; exact h.lt
theorem OwnS.le {ds : List ByteArray} (h : OwnS w g cap ds) : ds.length ≤ cap := by obtain ⟨_, _, _, h, _⟩ := h; exact h
theorem OwnS.max {ds : List ByteArray} (h : OwnS w g cap ds) : cap ≤ maxLen := by obtain ⟨_, _, _, _, _, h, _⟩ := h; exact h
theorem OwnS.cell {ds : List ByteArray} (h : OwnS w g cap ds) (i : Nat) (hi : i < ds.length) : w.cell? ⟨g, 0 + i, none⟩ = some (.string ds[i]) := by
  obtain ⟨T, L, h, h1, h2, h3, h4⟩ := h
  rw [Nat.zero_add, h.cell]
  have : (L.take ds.length)[i]? = (ds.map sv)[i]? := by rw [h4]
  rw [List.getElem?_take_of_lt hi] at this
  rw [this]
  simp [hi, sv]
theorem OwnS.grown {ds : List ByteArray} {row : Option Nat} (h : OwnS w g cap ds) (hg : w.grownBy w' row) (hne : some g ≠ row) : OwnS w' g cap ds := by
  obtain ⟨T, L, h, r⟩ := h
  exact ⟨T, L, h.grown hg hne, r⟩
theorem OwnS.below {ds : List ByteArray} {B : Nat} (h : OwnS w g cap ds) (hb : Below B w w') (hlt : g < B) : OwnS w' g cap ds := by
  obtain ⟨T, L, h, r⟩ := h
  exact ⟨T, L, h.below hb hlt, r⟩
theorem OwnS.alloc {ds : List ByteArray} (h : OwnS w g cap ds) (o : Obj) : OwnS (w.alloc o) g cap ds := by
  obtain ⟨T, L, h, r⟩ := h
  exact ⟨T, L, h.alloc o, r⟩
/-- The digits' block, parted. -/
theorem OwnS.parts {ds : List ByteArray} (h : OwnS w g cap ds) : ∃ T post, Rw w g T ([] ++ ds.map sv ++ post) ∧ cap = ds.length + post.length ∧ cap ≤ maxLen := by
  obtain ⟨T, L, h, h1, h2, h3, h4⟩ := h
  refine ⟨T, L.drop ds.length, ?_, by simp; omega, h3⟩
  rw [List.nil_append, ← h4, List.take_append_drop]
  exact h
theorem OwnS.of_parts {ds : List ByteArray} {T : TypeId} {post : List Value} (h : Rw w g T ([] ++ ds.map sv ++ post)) (hc : cap = ds.length + post.length) (hm : cap ≤ maxLen) : OwnS w g cap ds :=
  ⟨T, _, h, by omega, by simp [hc], hm, by simp⟩
theorem OwnS.empty {T : TypeId} {L : List Value} (h : Rw w g T L) (hm : L.length ≤ maxLen) : OwnS w g L.length [] := ⟨T, L, h, Nat.zero_le _, rfl, hm, by simp [List.take_zero]⟩
theorem OwnS.full {ds : List ByteArray} {T : TypeId} (h : Rw w g T (ds.map sv)) (hm : ds.length ≤ maxLen) : OwnS w g ds.length ds := ⟨T, _, h, Nat.le_refl _, by simp, hm, by rw [List.take_of_length_le (by simp)]⟩
end

theorem infoS : (Tryz.prog.info? 9).map (fun i => (i.zero, i.size, i.bytes)) = some (some (.string ⟨#[]⟩), 1, 16) := by kernel_rfl

set_option maxRecDepth 100000 in
theorem run_append_str (w : World) (ty : TypeId) (g cap : Nat) (ds : List ByteArray) (n : Nat) (hn : ds.length = n) (h : OwnS w g cap ds) (a : Addr) (x : ByteArray) (c : Nat) (hx : ∀ j u, [sv x][j]? = some u → w.cell? (a.add j) = some u) (hmax : n ≤ 1000000000000) :
    ∃ g' cap' w', (Builtin.append_ #[148, 148] ty #[.slice (some ⟨g, 0, none⟩) n cap, .slice (some a) 1 c]).run Tryz.prog w = .ok (.slice (some ⟨g', 0, none⟩) (n + 1) cap') w' ∧
      OwnS w' g' cap' (ds ++ [x]) ∧ w.grownBy w' (some g) ∧ (g' = g ∨ g' = w.heap.size) := by
  subst hn
  obtain ⟨i, hi, hz, hs, hb⟩ := info_parts infoS
  obtain ⟨T, L, hR, h1, h2, h3, h4⟩ := h
  have h1c : ∀ u ∈ [sv x], u.oneCell' = true := by intro u hu; simp at hu; subst hu; rfl
  by_cases hroom : ds.length + 1 ≤ cap
  · have hf := run_firstCells_some (P := Tryz.prog) w i.size 1 a 1 c [sv x] (by simp [hs]) hx
    have hst := run_storeCells_at Tryz.prog g (ds.length * i.size) T [sv x] 0 L.toArray w hR (by simp [hs]; omega) h1c
    simp only [Nat.add_zero] at hst
    refine ⟨g, cap, w.setRow g (L.take ds.length ++ [sv x] ++ L.drop (ds.length + 1)).toArray, ?_, ⟨T, L.take ds.length ++ [sv x] ++ L.drop (ds.length + 1), ?_, by simpa using hroom, ?_, h3, ?_⟩, ?_, .inl rfl⟩
    · rw [hs, Nat.mul_one] at hst
      simp only [hs] at hf
      simp [Builtin.append_, run_underlying Tryz.underlying148, sizeOf, typeInfo, hi, Builtin.lenOf, hroom, hs, hf, Addr.add_lit, hst]
    · exact setRow_heap w g L.toArray _ T _ hR
    · simp; omega
    · rw [List.length_append, List.length_singleton, List.take_left' (by rw [List.length_append, List.length_take, List.length_singleton]; omega), h4]; simp
    · exact ⟨rfl, rfl, rfl, by simp, fun k _ hk => setRow_other w g k _ (fun e => hk (by rw [e]))⟩
  · have hcap : cap = ds.length := by omega
    have hold : ∀ j u, (ds.map sv)[j]? = some u → w.cell? ((⟨g, 0, none⟩ : Addr).add j) = some u := by
      intro j u hj
      rw [addr_add0, hR.cell, ← hj, ← h4, List.getElem?_take_of_lt]
      have := (List.getElem?_eq_some_iff.1 hj).1
      simpa using this
    have hr := run_append_grow (P := Tryz.prog) w 148 ty 9 i _ Tryz.underlying148 hi hz ⟨g, 0, none⟩ ds.length cap (ds.map sv) (by rw [List.length_map, hs, Nat.mul_one]) hold a 1 c [sv x] (by simp [hs]) hx (by omega) (by omega) (growslice_fits (by omega) (by rw [hb]; omega))
    have hZs := size_zeroCells (Value.cells (.string ⟨#[]⟩)) (grownCap w (ds.length + 1) cap 9 - (ds.length + 1))
    have hge := grownCap_ge w (ds.length + 1) cap 9
    have hle := grownCap_le_maxLen w (ds.length + 1) cap 9 (by unfold maxLen; omega)
    rw [show (Value.cells (.string ⟨#[]⟩)).size = 1 from rfl, Nat.mul_one] at hZs
    generalize Builtin.zeroCells (Value.cells (.string ⟨#[]⟩)) (grownCap w (ds.length + 1) cap 9 - (ds.length + 1)) = Z at hr hZs
    generalize grownCap w (ds.length + 1) cap 9 = G at *
    have hL : (ds.map sv).toArray ++ [sv x].toArray ++ Z = (ds.map sv ++ [sv x] ++ Z.toList).toArray := by
      apply Array.ext'; simp
    rw [hL] at hr
    refine ⟨_, _, _, hr, ⟨9, ds.map sv ++ [sv x] ++ Z.toList, heap_alloc_new w.drew _, ?_, ?_, hle, ?_⟩, ⟨rfl, rfl, rfl, by simp, fun k hk _ => Below.heap_alloc w.drew _ k hk⟩, .inr rfl⟩
    · rw [List.length_append, List.length_singleton]; exact hge
    · have hz' : Z.toList.length = Z.size := Array.length_toList
      rw [List.length_append, List.length_append, List.length_map, List.length_singleton, hz']; omega
    · rw [List.length_append, List.length_singleton, List.take_left' (by simp)]; simp
/-- append(s, x) in a walk. -/
theorem wpList_append_str {w : World} {ops : Array Oper} {rest : List Oper} {o : Oper} {a : Act} {Q : Exit → Act → World → Prop} (hgd : o.guard = none) (s y : Operand)
    (ho : o.op = .call { callee := .builtin .append, args := #[s, y], argTypes := #[148, 148] })
    (g cap : Nat) (ds : List ByteArray) (n : Nat) (hs : a.eval s = .slice (some ⟨g, 0, none⟩) n cap) (hn : ds.length = n) (h : OwnS w g cap ds) (b : Addr) (x : ByteArray) (c : Nat) (hy : a.eval y = .slice (some b) 1 c)
    (hx : ∀ j u, [sv x][j]? = some u → w.cell? (b.add j) = some u) (hmax : n ≤ 1000000000000)
    (hk : ∀ g' cap' w', OwnS w' g' cap' (ds ++ [x]) → w.grownBy w' (some g) → (g' = g ∨ g' = w.heap.size) → wpList Tryz.prog ops Q rest (a.put o.dst (.slice (some ⟨g', 0, none⟩) (n + 1) cap')) w') : wpList Tryz.prog ops Q (o :: rest) a w := by
  refine wpList_plain hgd fun K hK => ?_
  obtain ⟨g', cap', w', hr, h2, h3, h4⟩ := run_append_str w o.type g cap ds n hn h b x c hx hmax
  unfold Oper.wp execOp
  simp only [ho, resolve, invoke, builtin, Sem.run_bind, Sem.run_pure, Result.andThen_ok, List.map_toArray, List.map_cons, List.map_nil, hs, hy, hr]
  exact hK _ _ (hk g' cap' w' h2 h3 h4)
theorem one_str (w : World) (x : ByteArray) : ∀ j u, [sv x][j]? = some u → (w.alloc (.cells #[.string x] 9)).cell? ((⟨w.heap.size, 0, none⟩ : Addr).add j) = some u := by
  intro j u hj
  have h := (Rw.new w 9 [sv x]).cell j
  rw [addr_add0]
  exact h.trans hj
/-- Behind what lies at the block's start. -/
theorem OwnS.rows {w : World} {g cap : Nat} {l : List ByteArray} (h : OwnS w g cap l) : ∀ i (h : i < l.length), ∃ lb lo, some (⟨g, 0, none⟩ : Addr) = some ⟨lb, lo, none⟩ ∧ lb < w.heap.size ∧ w.cell? ⟨lb, lo + i, none⟩ = some (.string l[i]) :=
  fun i hi => ⟨g, 0, rfl, h.lt, h.cell i hi⟩
end Go.Proofs.YtmipcelnmmjplaaGreatDoor
/- Plain facts on sums of Ints, and of the texts on either side of 0: no function is walked in this text. -/
namespace Go.Proofs.YtmipcelnmmjplaaGreatDoor
open Go.RowKit Go.Shelf

/-- What the first k are together. -/
def sumI (l : List IV) (k : Nat) : Int := ((l.take k).map fun x => wv x.1 x.2).sum
theorem sumI_zero (l : List IV) : sumI l 0 = 0 := rfl
theorem sumI_succ {l : List IV} {k : Nat} (h : k < l.length) : sumI l (k + 1) = sumI l k + wv l[k].1 l[k].2 := by
  unfold sumI
  rw [List.take_succ_eq_append_getElem h, List.map_append, List.sum_append]
  show _ + (wv l[k].1 l[k].2 + 0) = _
  rw [Int.add_zero]
/-- Texts, together. -/
def sumS (l : List ByteArray) : Nat := (l.map num).sum
theorem sumS_nil : sumS [] = 0 := rfl
theorem sumS_one (s : ByteArray) : sumS [s] = num s := by simp [sumS]
theorem sumS_snoc (l : List ByteArray) (s : ByteArray) : sumS (l ++ [s]) = sumS l + num s := by simp [sumS]
theorem sumTo_all (l : List ByteArray) : sumTo l l.length = sumS l := by unfold sumTo sumS; rw [List.take_length]
theorem sumS_le (l : List ByteArray) (B : Nat) (h : ∀ s ∈ l, s.size ≤ B) : sumS l ≤ l.length * 256 ^ B := by
  induction l with
  | nil => simp [sumS]
  | cons s l ih =>
    have h1 := ih fun t ht => h t (List.mem_cons_of_mem _ ht)
    have h2 : num s ≤ 256 ^ B := Nat.le_of_lt (Nat.lt_of_lt_of_le (num_lt s) (Nat.pow_le_pow_right (by omega) (h s (List.mem_cons_self ..))))
    have h3 : sumS (s :: l) = num s + sumS l := by simp [sumS]
    rw [h3, List.length_cons, Nat.add_mul, Nat.one_mul]
    omega
theorem sumS_size {l : List ByteArray} {B : Nat} (h : ∀ s ∈ l, s.size ≤ B) (hl : l.length ≤ 1000000) : (fb (sumS l)).size ≤ B + 3 := by
  refine fb_size_le ?_
  have h1 := sumS_le l B h
  have h2 : l.length * 256 ^ B ≤ 1000000 * 256 ^ B := Nat.mul_le_mul_right _ hl
  have h3 : 0 < 256 ^ B := Nat.pow_pos (by omega)
  rw [Nat.pow_add]
  omega
end Go.Proofs.YtmipcelnmmjplaaGreatDoor
/- Package whole: the row of sizes and the two sides of a sum, walked. -/
namespace Go.Proofs.YtmipcelnmmjplaaGreatDoor
open Go.RowKit Go.Shelf

set_option maxRecDepth 100000 in
set_option maxHeartbeats 400000 in
theorem wgrown_any (w : World) (g cap n : Nat) (ds : List ByteArray) (s : ByteArray) (hd : OwnS w g cap ds) (hn : ds.length = n) (hmax : n ≤ 10000000) :
    Calls Tryz.prog 143 #[.slice (some ⟨g, 0, none⟩) n cap, .string s] w fun e w' => ∃ g' cap', e = .returned (.slice (some ⟨g', 0, none⟩) (n + 1) cap') ∧ OwnS w' g' cap' (ds ++ [s]) ∧ w.grownBy w' (some g) ∧ (g' = g ∨ w.heap.size ≤ g') := by
  go_enter Tryz.func143, Tryz.ntmps143
  go_wp2_with (first
    | (at_builtin; refine wpList_append_str rfl (.tmp 5) (.tmp 7) rfl g cap ds n rfl hn (hd.alloc _) ⟨w.heap.size, 0, none⟩ s 1 rfl (one_str w s) (by omega) ?_))
  intro g' cap' w' hO hg ha
  go_wp2
  go_ret
  refine ⟨g', cap', rfl, hO, grown_trans (World.grownBy_alloc w _ (some g)) hg, ?_⟩
  rcases ha with h | h
  · exact .inl h
  · right
    omega

set_option maxRecDepth 100000 in
set_option maxHeartbeats 400000 in
theorem wtotal_any (w : World) (g cap n : Nat) (ds : List ByteArray) (hd : OwnS w g cap ds) (hn : ds.length = n) (hmax : n ≤ 1000) (hs : ∀ s ∈ ds, s.size ≤ 100000) (o : ByteArray) (ho : fb (sumS ds) = o) :
    Calls Tryz.prog 186 #[.slice (some ⟨g, 0, none⟩) n cap] w (Ret (.string o) w) := by
  have hb := Below.refl w.heap.size w
  subst hn
  go_enter Tryz.func186, Tryz.ntmps186
  go_wp2_with fail
  refine (add_any _ _ ds ds.length cap rfl (by omega) (fun s h => by have := hs s h; omega) hd.rows).mono ?_
  rintro e W ⟨rfl, hq⟩
  replace hb := below_next hb hq; clear hq
  rw [sumTo_all, ho]
  go_wp2
  go_ret
  exact ⟨rfl, hb⟩

set_option maxRecDepth 100000 in
set_option maxHeartbeats 400000 in
theorem wbare_any (w : World) (g cap n : Nat) (ds : List ByteArray) (hd : OwnS w g cap ds) (hn : ds.length = n) (hmax : n ≤ 1000) (hs : ∀ s ∈ ds, s.size ≤ 100000) :
    Calls Tryz.prog 187 #[.slice (some ⟨g, 0, none⟩) n cap] w fun e w' => ∃ t, e = .returned (.string t) ∧ num t = sumS ds ∧ t.size ≤ 100003 ∧ Below w.heap.size w w' := by
  have hb := Below.refl w.heap.size w
  by_cases h1 : n = 1
  · subst h1
    obtain ⟨s, rfl⟩ : ∃ s, ds = [s] := by
      match ds, hn with
      | [s], _ => exact ⟨s, rfl⟩
    have hc := hd.cell 0 (by simp)
    simp only [List.getElem_cons_zero, Nat.add_zero] at hc
    have hsz := hs s (by simp)
    have hv := sumS_one s
    go_enter Tryz.func187, Tryz.ntmps187
    clear hd hn hs hmax
    have HV := Lib.hid hv; clear hv
    go_wp2
    go_ret
    exact ⟨s, rfl, HV.out.symm, by omega, hb⟩
  · go_enter Tryz.func187, Tryz.ntmps187
    go_wp2_with fail
    refine (wtotal_any _ g cap n ds hd hn hmax hs _ rfl).mono ?_
    rintro e W ⟨rfl, hq⟩
    replace hb := below_next hb hq; clear hq
    go_wp2
    go_ret
    exact ⟨_, rfl, num_fb _, sumS_size hs (by omega), hb⟩
end Go.Proofs.YtmipcelnmmjplaaGreatDoor
/- Package whole: the two sides of a sum, walked. -/
namespace Go.Proofs.YtmipcelnmmjplaaGreatDoor
open Go.RowKit Go.Shelf

/-- Block b holds a side of a sum. -/
def Bd (W : World) (b : Nat) (cs : Array Value) : Prop := W.heap[b]? = some (.cells cs 150 (0, 0))
section
variable {W W' : World} {b : Nat} {x y : Value} {cs : Array Value}
theorem Bd.lt (h : Bd W b cs) : b < W.heap.size := by
  rcases Nat.lt_or_ge b W.heap.size with hlt | hge
  · exact hlt
  · unfold Bd at h; rw [Array.getElem?_eq_none hge] at h; cases h
theorem Bd.new (w : World) (cs : Array Value) : Bd (w.alloc (.cells cs 150)) w.heap.size cs := heap_alloc_new w _
theorem Bd.alloc (h : Bd W b cs) (o : Obj) : Bd (W.alloc o) b cs := (Below.heap_alloc W o b h.lt).trans h
theorem Bd.below (h : Bd W b cs) (hq : Below W.heap.size W W') : Bd W' b cs := (hq.block b h.lt).trans h
theorem Bd.grown {g : Nat} (h : Bd W b cs) (hq : W.grownBy W' (some g)) (hne : b ≠ g) : Bd W' b cs := (hq.block b h.lt (by simp; exact hne)).trans h
theorem Bd.drew (h : Bd W b cs) : Bd W.drew b cs := h
theorem Bd.set0 (h : Bd W b #[x, y]) (u : Value) : Bd (W.setCell ⟨b, 0, none⟩ u) b #[u, y] := by
  unfold Bd at h ⊢
  simp [World.setCell, Array.getElem?_modify, h]
theorem Bd.far (h : Bd W b cs) {p : Addr} (hp : b ≠ p.block) (u : Value) : Bd (W.setCell p u) b cs := (Below.heap_setCell W p u b hp).trans h
theorem Bd.facts (h : Bd W b #[x, y]) : W.cell? ⟨b, 0, none⟩ = some x ∧ W.cell? ⟨b, 1, none⟩ = some y ∧ W.frozen? ⟨b, 0, none⟩ = false ∧ W.frozen? ⟨b, 1, none⟩ = false := by
  unfold Bd at h
  refine ⟨?_, ?_, ?_, ?_⟩
  · rw [cell_of_row W b 0 _ _ _ h]; rfl
  · rw [cell_of_row W b 1 _ _ _ h]; rfl
  · simp [World.frozen?, h]
  · simp [World.frozen?, h]
theorem Bd.cells (h : Bd W b #[x, y]) : W.cell? ⟨b, 0, none⟩ = some x ∧ W.cell? ⟨b, 1, none⟩ = some y := ⟨h.facts.1, h.facts.2.1⟩
end
/-- One side's blocks, and the answer's. -/
theorem sides1 (w : World) (a c : Array Value) : Bd ((w.alloc (.cells a 150)).alloc (.cells c 23)) w.heap.size a ∧ Bk ((w.alloc (.cells a 150)).alloc (.cells c 23)) (w.heap.size + 1) c ∧
    Below w.heap.size w ((w.alloc (.cells a 150)).alloc (.cells c 23)) := by
  refine ⟨(Bd.new w a).alloc _, ?_, ((Below.refl _ _).alloc (Nat.le_refl _) _).alloc (by rw [World.size_alloc]; omega) _⟩
  have := Bk.new (w.alloc (.cells a 150)) c
  rwa [World.size_alloc] at this
theorem sides2 (w : World) (a b c : Array Value) : Bd (((w.alloc (.cells a 150)).alloc (.cells b 150)).alloc (.cells c 23)) w.heap.size a ∧ Bd (((w.alloc (.cells a 150)).alloc (.cells b 150)).alloc (.cells c 23)) (w.heap.size + 1) b ∧
    Bk (((w.alloc (.cells a 150)).alloc (.cells b 150)).alloc (.cells c 23)) (w.heap.size + 1 + 1) c ∧ Below w.heap.size w (((w.alloc (.cells a 150)).alloc (.cells b 150)).alloc (.cells c 23)) := by
  have h2 := Bd.new (w.alloc (.cells a 150)) b
  rw [World.size_alloc] at h2
  refine ⟨((Bd.new w a).alloc _).alloc _, h2.alloc _, ?_, (((Below.refl _ _).alloc (Nat.le_refl _) _).alloc (by rw [World.size_alloc]; omega) _).alloc (by rw [World.size_alloc, World.size_alloc]; omega) _⟩
  have := Bk.new ((w.alloc (.cells a 150)).alloc (.cells b 150)) c
  rwa [World.size_alloc, World.size_alloc] at this

set_option maxRecDepth 100000 in
set_option maxHeartbeats 400000 in
theorem wsum_any (w : World) (g cap n : Nat) (ds : List ByteArray) (q : Bool) (hd : OwnS w g cap ds) (hn : ds.length = n) (hmax : n ≤ 1000) (hs : ∀ s ∈ ds, s.size ≤ 100000) (z : Bool) (o : ByteArray) (hz : wf (sI q (sumS ds)) = wi z o) :
    Calls Tryz.prog 144 #[.agg #[.slice (some ⟨g, 0, none⟩) n cap, .bool q]] w (Ret (.agg #[.bool z, .string o]) w) := by
  have HZ := Lib.hid hz; clear hz
  have HN := Lib.hid hn; clear hn
  go_enter Tryz.func144, Tryz.ntmps144
  go_wp2_with fail
  obtain ⟨hA, hC, hb⟩ := sides1 w #[Value.slice (some { block := g, off := 0 }) n cap, Value.bool q] #[Value.bool false, Value.string { data := #[] }]
  have hO := (hd.alloc (Obj.cells #[Value.slice (some { block := g, off := 0 }) n cap, Value.bool q] 150)).alloc (Obj.cells #[Value.bool false, Value.string { data := #[] }] 23)
  generalize ((w.alloc (Obj.cells #[Value.slice (some { block := g, off := 0 }) n cap, Value.bool q] 150)).alloc (Obj.cells #[Value.bool false, Value.string { data := #[] }] 23)) = W0 at *
  replace hO : OwnS W0.drew g cap ds := hO
  replace hC := hC.drew
  replace hb := hb.drew
  have hin := hA.drew.cells
  clear hA hd
  go_region_held3 (fun w' => w'.cell? ⟨w.heap.size, 0, none⟩ = some (.slice (some ⟨g, 0, none⟩) n cap) ∧ w'.cell? ⟨w.heap.size, 1, none⟩ = some (.bool q))
    (first | assumption | exact held (by assumption) (by assumption) | exact held_set2 (by assumption) (by omega))
    (first
     | (go_at_call 186; refine (wtotal_any _ g cap n ds hO HN.out hmax hs _ rfl).mono ?_; rintro e W1 ⟨rfl, hq⟩; replace hb := below_next hb hq; replace hC := hC.below hq)
     | (go_at_call 151; refine (signed_any _ q _ (sumS ds) z o rfl HZ.out).mono ?_; rintro e W2 ⟨rfl, hq⟩; replace hb := below_next hb hq; replace hC := hC.below hq; obtain ⟨hC0, hC1, hC2, hC3⟩ := hC.facts))
  go_wp2
  exact ret_whole rfl rfl (hC.set_ _ _) ⟨rfl, below_set2 hb (by omega) _ _ _ _⟩

set_option maxRecDepth 100000 in
set_option maxHeartbeats 400000 in
theorem wless_any (w : World) (g1 cap1 n1 g2 cap2 n2 : Nat) (xs ys : List ByteArray) (p q : Bool) (hx : OwnS w g1 cap1 xs) (hy : OwnS w g2 cap2 ys) (hn1 : xs.length = n1) (hn2 : ys.length = n2) (hm1 : n1 ≤ 1000) (hm2 : n2 ≤ 1000)
    (hs : ∀ s ∈ xs, s.size ≤ 100000) (ht : ∀ s ∈ ys, s.size ≤ 100000) (z : Bool) (o : ByteArray) (hz : wf (if sumS ys ≤ sumS xs then sI p (sumS xs - sumS ys) else sI q (sumS ys - sumS xs)) = wi z o) :
    Calls Tryz.prog 145 #[.agg #[.slice (some ⟨g1, 0, none⟩) n1 cap1, .bool p], .agg #[.slice (some ⟨g2, 0, none⟩) n2 cap2, .bool q]] w (Ret (.agg #[.bool z, .string o]) w) := by
  have HZ := Lib.hid hz; clear hz
  have HN := Lib.hid hn1; clear hn1
  have HM := Lib.hid hn2; clear hn2
  go_enter Tryz.func145, Tryz.ntmps145
  go_wp2_with fail
  obtain ⟨hA, hB, hC, hb⟩ := sides2 w #[Value.slice (some { block := g1, off := 0 }) n1 cap1, Value.bool p] #[Value.slice (some { block := g2, off := 0 }) n2 cap2, Value.bool q] #[Value.bool false, Value.string { data := #[] }]
  replace hx := ((hx.alloc (Obj.cells #[Value.slice (some { block := g1, off := 0 }) n1 cap1, Value.bool p] 150)).alloc (Obj.cells #[Value.slice (some { block := g2, off := 0 }) n2 cap2, Value.bool q] 150)).alloc (Obj.cells #[Value.bool false, Value.string { data := #[] }] 23)
  replace hy := ((hy.alloc (Obj.cells #[Value.slice (some { block := g1, off := 0 }) n1 cap1, Value.bool p] 150)).alloc (Obj.cells #[Value.slice (some { block := g2, off := 0 }) n2 cap2, Value.bool q] 150)).alloc (Obj.cells #[Value.bool false, Value.string { data := #[] }] 23)
  generalize (((w.alloc (Obj.cells #[Value.slice (some { block := g1, off := 0 }) n1 cap1, Value.bool p] 150)).alloc (Obj.cells #[Value.slice (some { block := g2, off := 0 }) n2 cap2, Value.bool q] 150)).alloc (Obj.cells #[Value.bool false, Value.string { data := #[] }] 23)) = W0 at *
  replace hx : OwnS W0.drew g1 cap1 xs := hx
  replace hy : OwnS W0.drew g2 cap2 ys := hy
  replace hC := hC.drew
  replace hb := hb.drew
  have hin := And.intro hA.drew.cells hB.drew.cells
  clear hA hB
  go_region_held3 (fun w' => (w'.cell? ⟨w.heap.size, 0, none⟩ = some (.slice (some ⟨g1, 0, none⟩) n1 cap1) ∧ w'.cell? ⟨w.heap.size, 1, none⟩ = some (.bool p)) ∧ (w'.cell? ⟨w.heap.size + 1, 0, none⟩ = some (.slice (some ⟨g2, 0, none⟩) n2 cap2) ∧ w'.cell? ⟨w.heap.size + 1, 1, none⟩ = some (.bool q)))
    (first | assumption | exact held2 (by assumption) (by assumption) | exact held2_set2 (by assumption) (by omega))
    (first
     | (go_at_call 187; refine (wbare_any _ g1 cap1 n1 xs hx HN.out hm1 hs).mono ?_; rintro e W1 ⟨t1, rfl, hv1, hz1, hq⟩; replace hb := below_next hb hq; replace hC := hC.below hq; replace hy := hy.below hq hy.lt; clear hx)
     | (go_at_call 187; refine (wbare_any _ g2 cap2 n2 ys hy HM.out hm2 ht).mono ?_; rintro e W2 ⟨t2, rfl, hv2, hz2, hq⟩; replace hb := below_next hb hq; replace hC := hC.below hq; clear hy))
  rename_i hH
  have hin2 := hH
  clear hin hq
  by_cases hle : sumS ys ≤ sumS xs
  · obtain ⟨L, hL⟩ : ∃ L, fb (sumS xs - sumS ys) = L := ⟨_, rfl⟩
    have hz2 : wf (sI p (sumS xs - sumS ys)) = wi z o := by rw [← HZ.out, if_pos hle]
    have hk1 : fb (num t1 - num t2) = L := by rw [hv1, hv2, hL]
    have hk2 : decide (num t2 ≤ num t1) = true := by rw [hv1, hv2]; exact decide_eq_true hle
    have HS := Lib.hid (And.intro hL (And.intro hz2 (And.intro hk1 hk2))); clear hL hz2 hk1 hk2 hv1 hv2 hle HN HM hs ht
    obtain ⟨⟨hA0, hA1⟩, hB0, hB1⟩ := hin2
    go_wp2_with fail
    refine (use_sub _ t1 t2 L true (by omega) (by omega) HS.out.2.2.1 HS.out.2.2.2).mono ?_
    rintro e W3 ⟨rfl, hq⟩
    replace hb := below_next hb hq
    replace hC := hC.below hq
    replace hH := held2 hH hq
    clear hA0 hA1 hB0 hB1 hq
    obtain ⟨⟨hA0, hA1⟩, hB0, hB1⟩ := hH
    go_wp2_with fail
    refine (signed_any _ p L (sumS xs - sumS ys) z o HS.out.1 HS.out.2.1).mono ?_
    rintro e W4 ⟨rfl, hq⟩
    replace hb := below_next hb hq
    replace hC := hC.below hq
    obtain ⟨hC0, hC1, hC2, hC3⟩ := hC.facts
    clear hq hA0 hA1 hB0 hB1
    go_wp2
    exact ret_whole rfl rfl (hC.set_ _ _) ⟨rfl, below_set2 hb (by omega) _ _ _ _⟩
  · obtain ⟨L, hL⟩ : ∃ L, fb (sumS ys - sumS xs) = L := ⟨_, rfl⟩
    have hz2 : wf (sI q (sumS ys - sumS xs)) = wi z o := by rw [← HZ.out, if_neg hle]
    have hk1 : fb (num t2 - num t1) = L := by rw [hv1, hv2, hL]
    have hk2 : decide (num t2 ≤ num t1) = false := by rw [hv1, hv2]; exact decide_eq_false hle
    have hk3 : decide (num t1 ≤ num t2) = true := by rw [hv1, hv2]; exact decide_eq_true (by omega)
    have HS := Lib.hid (And.intro hL (And.intro hz2 (And.intro hk1 (And.intro hk2 hk3)))); clear hL hz2 hk1 hk2 hk3 hv1 hv2 hle HN HM hs ht
    obtain ⟨⟨hA0, hA1⟩, hB0, hB1⟩ := hin2
    go_wp2_with fail
    refine (use_sub _ t1 t2 _ false (by omega) (by omega) rfl HS.out.2.2.2.1).mono ?_
    rintro e W3 ⟨rfl, hq⟩
    replace hb := below_next hb hq
    replace hC := hC.below hq
    replace hH := held2 hH hq
    clear hA0 hA1 hB0 hB1 hq
    have hin3 := hH
    obtain ⟨⟨hA0, hA1⟩, hB0, hB1⟩ := hin3
    go_wp2_with fail
    refine (use_sub _ t2 t1 L true (by omega) (by omega) HS.out.2.2.1 HS.out.2.2.2.2).mono ?_
    rintro e W4 ⟨rfl, hq⟩
    replace hb := below_next hb hq
    replace hC := hC.below hq
    replace hH := held2 hH hq
    clear hA0 hA1 hB0 hB1 hq
    obtain ⟨⟨hA0, hA1⟩, hB0, hB1⟩ := hH
    go_wp2_with fail
    refine (signed_any _ q L (sumS ys - sumS xs) z o HS.out.1 HS.out.2.1).mono ?_
    rintro e W5 ⟨rfl, hq⟩
    replace hb := below_next hb hq
    replace hC := hC.below hq
    obtain ⟨hC0, hC1, hC2, hC3⟩ := hC.facts
    clear hq hA0 hA1 hB0 hB1
    go_wp2
    exact ret_whole rfl rfl (hC.set_ _ _) ⟨rfl, below_set2 hb (by omega) _ _ _ _⟩
end Go.Proofs.YtmipcelnmmjplaaGreatDoor
/- Package whole: Add and Sub, walked. -/
namespace Go.Proofs.YtmipcelnmmjplaaGreatDoor
open Go.RowKit Go.Shelf

theorem OwnS.far {w : World} {g cap : Nat} {ds : List ByteArray} (h : OwnS w g cap ds) {p : Addr} (hp : g ≠ p.block) (u : Value) : OwnS (w.setCell p u) g cap ds := by
  obtain ⟨T, L, h, r⟩ := h
  exact ⟨T, L, (Below.heap_setCell w p u g hp).trans h, r⟩
/-- Between the rounds of Add: after k of them. -/
structure AW (w W : World) (l : List IV) (k p q g1 cap1 : Nat) (xs : List ByteArray) (g2 cap2 : Nat) (ys : List ByteArray) : Prop where
  res : Bk W w.heap.size #[.bool false, .string ⟨#[]⟩]
  up : Bd W p #[.slice (some ⟨g1, 0, none⟩) xs.length cap1, .bool false]
  down : Bd W q #[.slice (some ⟨g2, 0, none⟩) ys.length cap2, .bool true]
  ox : OwnS W g1 cap1 xs
  oy : OwnS W g2 cap2 ys
  below : Below w.heap.size w W
  val : (sumS xs : Int) - (sumS ys : Int) = sumI l k
  len : xs.length + ys.length = k
  sx : ∀ s ∈ xs, s.size ≤ 100000
  sy : ∀ s ∈ ys, s.size ≤ 100000
  far : w.heap.size < p ∧ w.heap.size < q ∧ w.heap.size < g1 ∧ w.heap.size < g2 ∧ p ≠ q ∧ g1 ≠ g2 ∧ g1 ≠ p ∧ g1 ≠ q ∧ g2 ≠ p ∧ g2 ≠ q
theorem AW.alloc {w W : World} {l : List IV} {k p q g1 cap1 : Nat} {xs : List ByteArray} {g2 cap2 : Nat} {ys : List ByteArray} (h : AW w W l k p q g1 cap1 xs g2 cap2 ys) (o : Obj) : AW w (W.alloc o) l k p q g1 cap1 xs g2 cap2 ys :=
  ⟨h.res.alloc o, h.up.alloc o, h.down.alloc o, h.ox.alloc o, h.oy.alloc o, h.below.alloc h.below.size o, h.val, h.len, h.sx, h.sy, h.far⟩
theorem AW.goUp {w V V' : World} {l : List IV} {k p q g1 cap1 : Nat} {xs : List ByteArray} {g2 cap2 : Nat} {ys : List ByteArray} (h : AW w V l k p q g1 cap1 xs g2 cap2 ys) {s : ByteArray} (hk : k < l.length) (hx : l[k] = (false, s)) (hs : s.size ≤ 100000)
    {g' cap' : Nat} (hO : OwnS V' g' cap' (xs ++ [s])) (hg : V.grownBy V' (some g1)) (ha : g' = g1 ∨ V.heap.size ≤ g') :
    AW w (V'.setCell ⟨p, 0, none⟩ (.slice (some ⟨g', 0, none⟩) (xs.length + 1) cap')) l (k + 1) p q g' cap' (xs ++ [s]) g2 cap2 ys := by
  obtain ⟨f1, f2, f3, f4, f5, f6, f7, f8, f9, f10⟩ := h.far
  have l1 := h.up.lt
  have l2 := h.down.lt
  have l3 := h.oy.lt
  have l4 := h.res.lt
  have e1 : g' ≠ g2 ∧ g' ≠ p ∧ g' ≠ q ∧ w.heap.size < g' := by omega
  refine ⟨?_, ?_, ?_, hO.far e1.2.1 _, ?_, (below_grown h.below h.below.size hg (by omega)).setCell (by show w.heap.size ≤ p; omega) _, ?_, ?_, ?_, h.sy, by omega⟩
  · exact Bk.far ((hg.block _ l4 (by simp; omega)).trans h.res) (by show w.heap.size ≠ p; omega) _
  · have := (h.up.grown hg (by omega)).set0 (.slice (some ⟨g', 0, none⟩) (xs.length + 1) cap')
    rw [List.length_append, List.length_singleton]
    exact this
  · exact (h.down.grown hg (by omega)).far (by show q ≠ p; omega) _
  · exact (h.oy.grown hg (by simp; omega)).far (by show g2 ≠ p; omega) _
  · rw [sumS_snoc, sumI_succ hk, hx, ← h.val]
    show _ = _ + (num s : Int)
    omega
  · have := h.len
    rw [List.length_append, List.length_singleton]; omega
  · intro t ht
    rw [List.mem_append, List.mem_singleton] at ht
    rcases ht with ht | rfl
    · exact h.sx t ht
    · exact hs
theorem AW.goDown {w V V' : World} {l : List IV} {k p q g1 cap1 : Nat} {xs : List ByteArray} {g2 cap2 : Nat} {ys : List ByteArray} (h : AW w V l k p q g1 cap1 xs g2 cap2 ys) {s : ByteArray} (hk : k < l.length) (hx : l[k] = (true, s)) (hs : s.size ≤ 100000)
    {g' cap' : Nat} (hO : OwnS V' g' cap' (ys ++ [s])) (hg : V.grownBy V' (some g2)) (ha : g' = g2 ∨ V.heap.size ≤ g') :
    AW w (V'.setCell ⟨q, 0, none⟩ (.slice (some ⟨g', 0, none⟩) (ys.length + 1) cap')) l (k + 1) p q g1 cap1 xs g' cap' (ys ++ [s]) := by
  obtain ⟨f1, f2, f3, f4, f5, f6, f7, f8, f9, f10⟩ := h.far
  have l1 := h.up.lt
  have l2 := h.down.lt
  have l3 := h.ox.lt
  have l4 := h.res.lt
  have e1 : g' ≠ g1 ∧ g' ≠ p ∧ g' ≠ q ∧ w.heap.size < g' := by omega
  refine ⟨?_, ?_, ?_, ?_, hO.far e1.2.2.1 _, (below_grown h.below h.below.size hg (by omega)).setCell (by show w.heap.size ≤ q; omega) _, ?_, ?_, h.sx, ?_, by omega⟩
  · exact Bk.far ((hg.block _ l4 (by simp; omega)).trans h.res) (by show w.heap.size ≠ q; omega) _
  · exact (h.up.grown hg (by omega)).far (by show p ≠ q; omega) _
  · have := (h.down.grown hg (by omega)).set0 (.slice (some ⟨g', 0, none⟩) (ys.length + 1) cap')
    rw [List.length_append, List.length_singleton]
    exact this
  · exact (h.ox.grown hg (by simp; omega)).far (by show g1 ≠ q; omega) _
  · rw [sumS_snoc, sumI_succ hk, hx, ← h.val]
    show _ = _ + -(num s : Int)
    omega
  · have := h.len
    rw [List.length_append, List.length_singleton]; omega
  · intro t ht
    rw [List.mem_append, List.mem_singleton] at ht
    rcases ht with ht | rfl
    · exact h.sy t ht
    · exact hs
theorem three (w : World) : Bk (((w.alloc (Obj.cells #[Value.bool false, Value.string { data := #[] }] 23)).alloc (Obj.cells #[Value.string { data := #[] }, Value.string { data := #[] }, Value.string { data := #[] }, Value.string { data := #[] }, Value.string { data := #[] }, Value.string { data := #[] }, Value.string { data := #[] }, Value.string { data := #[] }] 147)).alloc (Obj.cells #[Value.string { data := #[] }, Value.string { data := #[] }, Value.string { data := #[] }, Value.string { data := #[] }, Value.string { data := #[] }, Value.string { data := #[] }, Value.string { data := #[] }, Value.string { data := #[] }] 147)) w.heap.size #[Value.bool false, Value.string { data := #[] }] ∧ OwnS (((w.alloc (Obj.cells #[Value.bool false, Value.string { data := #[] }] 23)).alloc (Obj.cells #[Value.string { data := #[] }, Value.string { data := #[] }, Value.string { data := #[] }, Value.string { data := #[] }, Value.string { data := #[] }, Value.string { data := #[] }, Value.string { data := #[] }, Value.string { data := #[] }] 147)).alloc (Obj.cells #[Value.string { data := #[] }, Value.string { data := #[] }, Value.string { data := #[] }, Value.string { data := #[] }, Value.string { data := #[] }, Value.string { data := #[] }, Value.string { data := #[] }, Value.string { data := #[] }] 147)) (w.heap.size + 1) 8 [] ∧ OwnS (((w.alloc (Obj.cells #[Value.bool false, Value.string { data := #[] }] 23)).alloc (Obj.cells #[Value.string { data := #[] }, Value.string { data := #[] }, Value.string { data := #[] }, Value.string { data := #[] }, Value.string { data := #[] }, Value.string { data := #[] }, Value.string { data := #[] }, Value.string { data := #[] }] 147)).alloc (Obj.cells #[Value.string { data := #[] }, Value.string { data := #[] }, Value.string { data := #[] }, Value.string { data := #[] }, Value.string { data := #[] }, Value.string { data := #[] }, Value.string { data := #[] }, Value.string { data := #[] }] 147)) (w.heap.size + 1 + 1) 8 [] ∧ Below w.heap.size w (((w.alloc (Obj.cells #[Value.bool false, Value.string { data := #[] }] 23)).alloc (Obj.cells #[Value.string { data := #[] }, Value.string { data := #[] }, Value.string { data := #[] }, Value.string { data := #[] }, Value.string { data := #[] }, Value.string { data := #[] }, Value.string { data := #[] }, Value.string { data := #[] }] 147)).alloc (Obj.cells #[Value.string { data := #[] }, Value.string { data := #[] }, Value.string { data := #[] }, Value.string { data := #[] }, Value.string { data := #[] }, Value.string { data := #[] }, Value.string { data := #[] }, Value.string { data := #[] }] 147)) ∧ (((w.alloc (Obj.cells #[Value.bool false, Value.string { data := #[] }] 23)).alloc (Obj.cells #[Value.string { data := #[] }, Value.string { data := #[] }, Value.string { data := #[] }, Value.string { data := #[] }, Value.string { data := #[] }, Value.string { data := #[] }, Value.string { data := #[] }, Value.string { data := #[] }] 147)).alloc (Obj.cells #[Value.string { data := #[] }, Value.string { data := #[] }, Value.string { data := #[] }, Value.string { data := #[] }, Value.string { data := #[] }, Value.string { data := #[] }, Value.string { data := #[] }, Value.string { data := #[] }] 147)).heap.size = w.heap.size + 1 + 1 + 1 := by
  have h0 : (w.alloc (Obj.cells #[Value.bool false, Value.string { data := #[] }] 23)).heap.size = w.heap.size + 1 := World.size_alloc _ _
  have h1 : ((w.alloc (Obj.cells #[Value.bool false, Value.string { data := #[] }] 23)).alloc (Obj.cells #[Value.string { data := #[] }, Value.string { data := #[] }, Value.string { data := #[] }, Value.string { data := #[] }, Value.string { data := #[] }, Value.string { data := #[] }, Value.string { data := #[] }, Value.string { data := #[] }] 147)).heap.size = w.heap.size + 1 + 1 := by rw [World.size_alloc, h0]
  have a1 := Rw.new (w.alloc (Obj.cells #[Value.bool false, Value.string { data := #[] }] 23)) 147 [Value.string { data := #[] }, Value.string { data := #[] }, Value.string { data := #[] }, Value.string { data := #[] }, Value.string { data := #[] }, Value.string { data := #[] }, Value.string { data := #[] }, Value.string { data := #[] }]
  have a2 := Rw.new ((w.alloc (Obj.cells #[Value.bool false, Value.string { data := #[] }] 23)).alloc (Obj.cells #[Value.string { data := #[] }, Value.string { data := #[] }, Value.string { data := #[] }, Value.string { data := #[] }, Value.string { data := #[] }, Value.string { data := #[] }, Value.string { data := #[] }, Value.string { data := #[] }] 147)) 147 [Value.string { data := #[] }, Value.string { data := #[] }, Value.string { data := #[] }, Value.string { data := #[] }, Value.string { data := #[] }, Value.string { data := #[] }, Value.string { data := #[] }, Value.string { data := #[] }]
  rw [h0] at a1
  rw [h1] at a2
  refine ⟨((Bk.new w _).alloc _).alloc _, (OwnS.empty a1 (by unfold maxLen; decide)).alloc _, OwnS.empty a2 (by unfold maxLen; decide), ?_, by rw [World.size_alloc, h1]⟩
  exact (((Below.refl _ _).alloc (Nat.le_refl _) _).alloc (by rw [h0]; omega) _).alloc (by rw [h1]; omega) _
theorem AW.startA (w : World) (l : List IV) : AW w (((((w.alloc (Obj.cells #[Value.bool false, Value.string { data := #[] }] 23)).alloc (Obj.cells #[Value.string { data := #[] }, Value.string { data := #[] }, Value.string { data := #[] }, Value.string { data := #[] }, Value.string { data := #[] }, Value.string { data := #[] }, Value.string { data := #[] }, Value.string { data := #[] }] 147)).alloc (Obj.cells #[Value.string { data := #[] }, Value.string { data := #[] }, Value.string { data := #[] }, Value.string { data := #[] }, Value.string { data := #[] }, Value.string { data := #[] }, Value.string { data := #[] }, Value.string { data := #[] }] 147)).alloc (Obj.cells #[Value.slice (some { block := w.heap.size + 1, off := 0 }) 0 8, Value.bool false] 150)).alloc (Obj.cells #[Value.slice (some { block := w.heap.size + 1 + 1, off := 0 }) 0 8, Value.bool true] 150)).drew l 0 (w.heap.size + 1 + 1 + 1) (w.heap.size + 1 + 1 + 1 + 1) (w.heap.size + 1) 8 [] (w.heap.size + 1 + 1) 8 [] := by
  obtain ⟨h1, h2, h3, h4, h5⟩ := three w
  generalize (((w.alloc (Obj.cells #[Value.bool false, Value.string { data := #[] }] 23)).alloc (Obj.cells #[Value.string { data := #[] }, Value.string { data := #[] }, Value.string { data := #[] }, Value.string { data := #[] }, Value.string { data := #[] }, Value.string { data := #[] }, Value.string { data := #[] }, Value.string { data := #[] }] 147)).alloc (Obj.cells #[Value.string { data := #[] }, Value.string { data := #[] }, Value.string { data := #[] }, Value.string { data := #[] }, Value.string { data := #[] }, Value.string { data := #[] }, Value.string { data := #[] }, Value.string { data := #[] }] 147)) = W at *
  have u := Bd.new W #[Value.slice (some { block := w.heap.size + 1, off := 0 }) 0 8, Value.bool false]
  have d := Bd.new (W.alloc (Obj.cells #[Value.slice (some { block := w.heap.size + 1, off := 0 }) 0 8, Value.bool false] 150)) #[Value.slice (some { block := w.heap.size + 1 + 1, off := 0 }) 0 8, Value.bool true]
  rw [World.size_alloc] at d
  rw [h5] at u d
  exact ⟨(h1.alloc _).alloc _, u.alloc _, d, (h2.alloc _).alloc _, (h3.alloc _).alloc _, ((h4.alloc (by omega) _).alloc (by rw [World.size_alloc]; omega) _).drew, rfl, rfl, (fun s h => by cases h), (fun s h => by cases h), by omega⟩
theorem AW.startB (w : World) (l : List IV) : AW w (((((w.alloc (Obj.cells #[Value.bool false, Value.string { data := #[] }] 23)).alloc (Obj.cells #[Value.string { data := #[] }, Value.string { data := #[] }, Value.string { data := #[] }, Value.string { data := #[] }, Value.string { data := #[] }, Value.string { data := #[] }, Value.string { data := #[] }, Value.string { data := #[] }] 147)).alloc (Obj.cells #[Value.string { data := #[] }, Value.string { data := #[] }, Value.string { data := #[] }, Value.string { data := #[] }, Value.string { data := #[] }, Value.string { data := #[] }, Value.string { data := #[] }, Value.string { data := #[] }] 147)).alloc (Obj.cells #[Value.slice (some { block := w.heap.size + 1 + 1, off := 0 }) 0 8, Value.bool true] 150)).alloc (Obj.cells #[Value.slice (some { block := w.heap.size + 1, off := 0 }) 0 8, Value.bool false] 150)).drew l 0 (w.heap.size + 1 + 1 + 1 + 1) (w.heap.size + 1 + 1 + 1) (w.heap.size + 1) 8 [] (w.heap.size + 1 + 1) 8 [] := by
  obtain ⟨h1, h2, h3, h4, h5⟩ := three w
  generalize (((w.alloc (Obj.cells #[Value.bool false, Value.string { data := #[] }] 23)).alloc (Obj.cells #[Value.string { data := #[] }, Value.string { data := #[] }, Value.string { data := #[] }, Value.string { data := #[] }, Value.string { data := #[] }, Value.string { data := #[] }, Value.string { data := #[] }, Value.string { data := #[] }] 147)).alloc (Obj.cells #[Value.string { data := #[] }, Value.string { data := #[] }, Value.string { data := #[] }, Value.string { data := #[] }, Value.string { data := #[] }, Value.string { data := #[] }, Value.string { data := #[] }, Value.string { data := #[] }] 147)) = W at *
  have d := Bd.new W #[Value.slice (some { block := w.heap.size + 1 + 1, off := 0 }) 0 8, Value.bool true]
  have u := Bd.new (W.alloc (Obj.cells #[Value.slice (some { block := w.heap.size + 1 + 1, off := 0 }) 0 8, Value.bool true] 150)) #[Value.slice (some { block := w.heap.size + 1, off := 0 }) 0 8, Value.bool false]
  rw [World.size_alloc] at u
  rw [h5] at u d
  exact ⟨(h1.alloc _).alloc _, u, d.alloc _, (h2.alloc _).alloc _, (h3.alloc _).alloc _, ((h4.alloc (by omega) _).alloc (by rw [World.size_alloc]; omega) _).drew, rfl, rfl, (fun s h => by cases h), (fun s h => by cases h), by omega⟩
def intQ : Value → Nat | .int _ n => n.toNat | _ => 0

set_option maxRecDepth 100000 in
set_option maxHeartbeats 3200000 in
theorem wadd_any (w : World) (ad : Option Addr) (l : List IV) (n c : Nat) (hn : l.length = n) (hmax : n ≤ 900) (hs : ∀ x ∈ l, x.2.size ≤ 100000) (hl : IAt w ad l)
    (z : Bool) (o : ByteArray) (hz : wf (sumI l n) = wi z o) :
    Calls Tryz.prog 84 #[.slice ad n c] w (Ret (.agg #[.bool z, .string o]) w) := by
  have HN := Lib.hid hn; clear hn
  have HZ := Lib.hid hz; clear hz
  go_enter Tryz.func84, Tryz.ntmps84
  go_wp2_with fail
  go_region
  · have hS := AW.startA w l
    generalize (((((w.alloc (Obj.cells #[Value.bool false, Value.string { data := #[] }] 23)).alloc (Obj.cells #[Value.string { data := #[] }, Value.string { data := #[] }, Value.string { data := #[] }, Value.string { data := #[] }, Value.string { data := #[] }, Value.string { data := #[] }, Value.string { data := #[] }, Value.string { data := #[] }] 147)).alloc (Obj.cells #[Value.string { data := #[] }, Value.string { data := #[] }, Value.string { data := #[] }, Value.string { data := #[] }, Value.string { data := #[] }, Value.string { data := #[] }, Value.string { data := #[] }, Value.string { data := #[] }] 147)).alloc (Obj.cells #[Value.slice (some { block := w.heap.size + 1, off := 0 }) 0 8, Value.bool false] 150)).alloc (Obj.cells #[Value.slice (some { block := w.heap.size + 1 + 1, off := 0 }) 0 8, Value.bool true] 150)).drew = W0 at *
    generalize w.heap.size + 1 + 1 + 1 + 1 = q at *
    generalize w.heap.size + 1 + 1 + 1 = p at *
    generalize w.heap.size + 1 + 1 = b2 at *
    generalize w.heap.size + 1 = b1 at *
    go_wp2_with fail
    go_loopw [15] (fun i wr => ∃ (k g1 cap1 : Nat) (xs : List ByteArray) (g2 cap2 : Nat) (ys : List ByteArray), k ≤ n ∧ i = .int .i64 k ∧ AW w wr l k p q g1 cap1 xs g2 cap2 ys) (fun i _ => n - intQ i)
    case atStart => exact ⟨0, _, _, _, _, _, _, Nat.zero_le _, rfl, hS⟩
    case round =>
      clear hS
      obtain ⟨k, g1, cap1, xs, g2, cap2, ys, hk, rfl, hM⟩ := hrel
      by_cases hlt : k < n
      · have hkl : k < l.length := by rw [HN.out]; exact hlt
        obtain ⟨lb, lo, rfl, hlb, hc1, hc2⟩ := hl k hkl
        obtain ⟨b, s, hx⟩ : ∃ b s, l[k] = (b, s) := ⟨_, _, rfl⟩
        have hss : s.size ≤ 100000 := by have := hs l[k] (List.getElem_mem hkl); rw [hx] at this; exact this
        rw [hx] at hc1 hc2
        replace hc1 : wr.cell? ⟨lb, lo + k * 2, none⟩ = some (.bool b) := by rw [hM.below.cell hlb]; exact hc1
        replace hc2 : wr.cell? ⟨lb, lo + k * 2 + 1, none⟩ = some (.string s) := by rw [hM.below.cell hlb]; exact hc2
        have HX := Lib.hid hx; clear hx
        have hU := cell_past hM.up.facts.1 (Obj.cells #[Value.bool b, Value.string s] 23)
        have hD := cell_past hM.down.facts.1 (Obj.cells #[Value.bool b, Value.string s] 23)
        have hM2 := hM.alloc (Obj.cells #[Value.bool b, Value.string s] 23)
        cases b
        · go_wp2_with fail
          refine (wgrown_any _ g1 cap1 xs.length xs s hM2.ox rfl (by have := hM2.len; omega)).mono ?_
          rintro e V1 ⟨g', cap', rfl, hO, hg, ha⟩
          have hN := AW.goUp hM2 hkl HX.out hss hO hg ha
          have hU2 := (hM2.up.grown hg (by have := hM2.far; omega)).facts
          obtain ⟨hU20, hU21, hU22, hU23⟩ := hU2
          clear hM hM2 hU hD hc1 hc2 hO hg ha
          go_wp2
          go_roundw
          case rel => exact ⟨k + 1, g', cap', xs ++ [s], g2, cap2, ys, by omega, by simp, hN⟩
          case measure => simp [intQ]; omega
        · go_wp2_with fail
          refine (wgrown_any _ g2 cap2 ys.length ys s hM2.oy rfl (by have := hM2.len; omega)).mono ?_
          rintro e V1 ⟨g', cap', rfl, hO, hg, ha⟩
          have hN := AW.goDown hM2 hkl HX.out hss hO hg ha
          have hU2 := (hM2.down.grown hg (by have := hM2.far; omega)).facts
          obtain ⟨hU20, hU21, hU22, hU23⟩ := hU2
          clear hM hM2 hU hD hc1 hc2 hO hg ha
          go_wp2
          go_roundw
          case rel => exact ⟨k + 1, g1, cap1, xs, g', cap', ys ++ [s], by omega, by simp, hN⟩
          case measure => simp [intQ]; omega
      · have hkn : k = n := by omega
        subst hkn
        obtain ⟨hU0, hU1⟩ := hM.up.cells
        obtain ⟨hD0, hD1⟩ := hM.down.cells
        have hv := hM.val
        have hlen := hM.len
        by_cases hy0 : ys.length = 0
        · have hz2 : wf (sI false (sumS xs)) = wi z o := by
            rw [← HZ.out, ← hv, List.eq_nil_of_length_eq_zero hy0]
            show wf (sumS xs : Int) = wf ((sumS xs : Int) - 0)
            rw [Int.sub_zero]
          have HZ2 := Lib.hid hz2; clear hz2 hv
          go_wp2_with fail
          refine (wsum_any _ g1 cap1 xs.length xs false hM.ox rfl (by omega) hM.sx z o HZ2.out).mono ?_
          rintro e V1 ⟨rfl, hq⟩
          have hb := below_next hM.below hq
          have hC := hM.res.below hq
          obtain ⟨hC0, hC1, hC2, hC3⟩ := hC.facts
          clear hM hq hU0 hU1 hD0 hD1
          go_wp2
          exact ret_whole rfl rfl (hC.set_ _ _) ⟨rfl, below_set2 hb (by omega) _ _ _ _⟩
        · by_cases hx0 : xs.length = 0
          · have hz2 : wf (sI true (sumS ys)) = wi z o := by
              rw [← HZ.out, ← hv, List.eq_nil_of_length_eq_zero hx0]
              show wf (-(sumS ys : Int)) = wf ((0 : Int) - sumS ys)
              rw [Int.zero_sub]
            have HZ2 := Lib.hid hz2; clear hz2 hv
            go_wp2_with fail
            refine (wsum_any _ g2 cap2 ys.length ys true hM.oy rfl (by omega) hM.sy z o HZ2.out).mono ?_
            rintro e V1 ⟨rfl, hq⟩
            have hb := below_next hM.below hq
            have hC := hM.res.below hq
            obtain ⟨hC0, hC1, hC2, hC3⟩ := hC.facts
            clear hM hq hU0 hU1 hD0 hD1
            go_wp2
            exact ret_whole rfl rfl (hC.set_ _ _) ⟨rfl, below_set2 hb (by omega) _ _ _ _⟩
          · have hz2 : wf (if sumS ys ≤ sumS xs then sI false (sumS xs - sumS ys) else sI true (sumS ys - sumS xs)) = wi z o := by
              rw [← HZ.out, ← hv]
              congr 1
              by_cases hle : sumS ys ≤ sumS xs
              · rw [if_pos hle]; show ((sumS xs - sumS ys : Nat) : Int) = _; omega
              · rw [if_neg hle]; show -((sumS ys - sumS xs : Nat) : Int) = _; omega
            have HZ2 := Lib.hid hz2; clear hz2 hv
            go_wp2_with fail
            refine (wless_any _ g1 cap1 xs.length g2 cap2 ys.length xs ys false true hM.ox hM.oy rfl rfl (by omega) (by omega) hM.sx hM.sy z o HZ2.out).mono ?_
            rintro e V1 ⟨rfl, hq⟩
            have hb := below_next hM.below hq
            have hC := hM.res.below hq
            obtain ⟨hC0, hC1, hC2, hC3⟩ := hC.facts
            clear hM hq hU0 hU1 hD0 hD1
            go_wp2
            exact ret_whole rfl rfl (hC.set_ _ _) ⟨rfl, below_set2 hb (by omega) _ _ _ _⟩
  · have hS := AW.startB w l
    generalize (((((w.alloc (Obj.cells #[Value.bool false, Value.string { data := #[] }] 23)).alloc (Obj.cells #[Value.string { data := #[] }, Value.string { data := #[] }, Value.string { data := #[] }, Value.string { data := #[] }, Value.string { data := #[] }, Value.string { data := #[] }, Value.string { data := #[] }, Value.string { data := #[] }] 147)).alloc (Obj.cells #[Value.string { data := #[] }, Value.string { data := #[] }, Value.string { data := #[] }, Value.string { data := #[] }, Value.string { data := #[] }, Value.string { data := #[] }, Value.string { data := #[] }, Value.string { data := #[] }] 147)).alloc (Obj.cells #[Value.slice (some { block := w.heap.size + 1 + 1, off := 0 }) 0 8, Value.bool true] 150)).alloc (Obj.cells #[Value.slice (some { block := w.heap.size + 1, off := 0 }) 0 8, Value.bool false] 150)).drew = W0 at *
    generalize w.heap.size + 1 + 1 + 1 + 1 = p at *
    generalize w.heap.size + 1 + 1 + 1 = q at *
    generalize w.heap.size + 1 + 1 = b2 at *
    generalize w.heap.size + 1 = b1 at *
    go_wp2_with fail
    go_loopw [15] (fun i wr => ∃ (k g1 cap1 : Nat) (xs : List ByteArray) (g2 cap2 : Nat) (ys : List ByteArray), k ≤ n ∧ i = .int .i64 k ∧ AW w wr l k p q g1 cap1 xs g2 cap2 ys) (fun i _ => n - intQ i)
    case atStart => exact ⟨0, _, _, _, _, _, _, Nat.zero_le _, rfl, hS⟩
    case round =>
      clear hS
      obtain ⟨k, g1, cap1, xs, g2, cap2, ys, hk, rfl, hM⟩ := hrel
      by_cases hlt : k < n
      · have hkl : k < l.length := by rw [HN.out]; exact hlt
        obtain ⟨lb, lo, rfl, hlb, hc1, hc2⟩ := hl k hkl
        obtain ⟨b, s, hx⟩ : ∃ b s, l[k] = (b, s) := ⟨_, _, rfl⟩
        have hss : s.size ≤ 100000 := by have := hs l[k] (List.getElem_mem hkl); rw [hx] at this; exact this
        rw [hx] at hc1 hc2
        replace hc1 : wr.cell? ⟨lb, lo + k * 2, none⟩ = some (.bool b) := by rw [hM.below.cell hlb]; exact hc1
        replace hc2 : wr.cell? ⟨lb, lo + k * 2 + 1, none⟩ = some (.string s) := by rw [hM.below.cell hlb]; exact hc2
        have HX := Lib.hid hx; clear hx
        have hU := cell_past hM.up.facts.1 (Obj.cells #[Value.bool b, Value.string s] 23)
        have hD := cell_past hM.down.facts.1 (Obj.cells #[Value.bool b, Value.string s] 23)
        have hM2 := hM.alloc (Obj.cells #[Value.bool b, Value.string s] 23)
        cases b
        · go_wp2_with fail
          refine (wgrown_any _ g1 cap1 xs.length xs s hM2.ox rfl (by have := hM2.len; omega)).mono ?_
          rintro e V1 ⟨g', cap', rfl, hO, hg, ha⟩
          have hN := AW.goUp hM2 hkl HX.out hss hO hg ha
          have hU2 := (hM2.up.grown hg (by have := hM2.far; omega)).facts
          obtain ⟨hU20, hU21, hU22, hU23⟩ := hU2
          clear hM hM2 hU hD hc1 hc2 hO hg ha
          go_wp2
          go_roundw
          case rel => exact ⟨k + 1, g', cap', xs ++ [s], g2, cap2, ys, by omega, by simp, hN⟩
          case measure => simp [intQ]; omega
        · go_wp2_with fail
          refine (wgrown_any _ g2 cap2 ys.length ys s hM2.oy rfl (by have := hM2.len; omega)).mono ?_
          rintro e V1 ⟨g', cap', rfl, hO, hg, ha⟩
          have hN := AW.goDown hM2 hkl HX.out hss hO hg ha
          have hU2 := (hM2.down.grown hg (by have := hM2.far; omega)).facts
          obtain ⟨hU20, hU21, hU22, hU23⟩ := hU2
          clear hM hM2 hU hD hc1 hc2 hO hg ha
          go_wp2
          go_roundw
          case rel => exact ⟨k + 1, g1, cap1, xs, g', cap', ys ++ [s], by omega, by simp, hN⟩
          case measure => simp [intQ]; omega
      · have hkn : k = n := by omega
        subst hkn
        obtain ⟨hU0, hU1⟩ := hM.up.cells
        obtain ⟨hD0, hD1⟩ := hM.down.cells
        have hv := hM.val
        have hlen := hM.len
        by_cases hy0 : ys.length = 0
        · have hz2 : wf (sI false (sumS xs)) = wi z o := by
            rw [← HZ.out, ← hv, List.eq_nil_of_length_eq_zero hy0]
            show wf (sumS xs : Int) = wf ((sumS xs : Int) - 0)
            rw [Int.sub_zero]
          have HZ2 := Lib.hid hz2; clear hz2 hv
          go_wp2_with fail
          refine (wsum_any _ g1 cap1 xs.length xs false hM.ox rfl (by omega) hM.sx z o HZ2.out).mono ?_
          rintro e V1 ⟨rfl, hq⟩
          have hb := below_next hM.below hq
          have hC := hM.res.below hq
          obtain ⟨hC0, hC1, hC2, hC3⟩ := hC.facts
          clear hM hq hU0 hU1 hD0 hD1
          go_wp2
          exact ret_whole rfl rfl (hC.set_ _ _) ⟨rfl, below_set2 hb (by omega) _ _ _ _⟩
        · by_cases hx0 : xs.length = 0
          · have hz2 : wf (sI true (sumS ys)) = wi z o := by
              rw [← HZ.out, ← hv, List.eq_nil_of_length_eq_zero hx0]
              show wf (-(sumS ys : Int)) = wf ((0 : Int) - sumS ys)
              rw [Int.zero_sub]
            have HZ2 := Lib.hid hz2; clear hz2 hv
            go_wp2_with fail
            refine (wsum_any _ g2 cap2 ys.length ys true hM.oy rfl (by omega) hM.sy z o HZ2.out).mono ?_
            rintro e V1 ⟨rfl, hq⟩
            have hb := below_next hM.below hq
            have hC := hM.res.below hq
            obtain ⟨hC0, hC1, hC2, hC3⟩ := hC.facts
            clear hM hq hU0 hU1 hD0 hD1
            go_wp2
            exact ret_whole rfl rfl (hC.set_ _ _) ⟨rfl, below_set2 hb (by omega) _ _ _ _⟩
          · have hz2 : wf (if sumS ys ≤ sumS xs then sI false (sumS xs - sumS ys) else sI true (sumS ys - sumS xs)) = wi z o := by
              rw [← HZ.out, ← hv]
              congr 1
              by_cases hle : sumS ys ≤ sumS xs
              · rw [if_pos hle]; show ((sumS xs - sumS ys : Nat) : Int) = _; omega
              · rw [if_neg hle]; show -((sumS ys - sumS xs : Nat) : Int) = _; omega
            have HZ2 := Lib.hid hz2; clear hz2 hv
            go_wp2_with fail
            refine (wless_any _ g1 cap1 xs.length g2 cap2 ys.length xs ys false true hM.ox hM.oy rfl rfl (by omega) (by omega) hM.sx hM.sy z o HZ2.out).mono ?_
            rintro e V1 ⟨rfl, hq⟩
            have hb := below_next hM.below hq
            have hC := hM.res.below hq
            obtain ⟨hC0, hC1, hC2, hC3⟩ := hC.facts
            clear hM hq hU0 hU1 hD0 hD1
            go_wp2
            exact ret_whole rfl rfl (hC.set_ _ _) ⟨rfl, below_set2 hb (by omega) _ _ _ _⟩

theorem use_wadd2 (w : World) (m n : Bool) (s t : ByteArray) (hs : s.size ≤ 100000) (ht : t.size ≤ 100000) (z : Bool) (o : ByteArray) (hz : wf (wv m s + wv n t) = wi z o) :
    Calls Tryz.prog 84 #[.slice (some ⟨w.heap.size, 0, none⟩) 2 2] (w.alloc (.cells #[.bool m, .string s, .bool n, .string t] 23)) (Ret (.agg #[.bool z, .string o]) w) := by
  refine (wadd_any _ _ [(m, s), (n, t)] 2 2 rfl (by omega) (fun x h => by simp at h; rcases h with h | h <;> (rw [h]; assumption)) (IAt.new w _ _ _ rfl) z o ?_).mono fun _ _ ⟨h, hb⟩ => ⟨h, ?_⟩
  · rw [← hz]
    congr 1
    show wv m s + (wv n t + 0) = _
    rw [Int.add_zero]
  · exact ((Below.refl _ _).alloc (Nat.le_refl _) _).trans (hb.mono (by rw [World.size_alloc]; omega))
theorem use_wadd3 (w : World) (m n q : Bool) (s t u : ByteArray) (hs : s.size ≤ 100000) (ht : t.size ≤ 100000) (hu : u.size ≤ 100000) (z : Bool) (o : ByteArray) (hz : wf (wv m s + wv n t + wv q u) = wi z o) :
    Calls Tryz.prog 84 #[.slice (some ⟨w.heap.size, 0, none⟩) 3 3] (w.alloc (.cells #[.bool m, .string s, .bool n, .string t, .bool q, .string u] 23)) (Ret (.agg #[.bool z, .string o]) w) := by
  refine (wadd_any _ _ [(m, s), (n, t), (q, u)] 3 3 rfl (by omega) (fun x h => by simp at h; rcases h with h | h | h <;> (rw [h]; assumption)) (IAt.new w _ _ _ rfl) z o ?_).mono fun _ _ ⟨h, hb⟩ => ⟨h, ?_⟩
  · rw [← hz]
    congr 1
    show wv m s + (wv n t + (wv q u + 0)) = _
    rw [Int.add_zero, Int.add_assoc]
  · exact ((Below.refl _ _).alloc (Nat.le_refl _) _).trans (hb.mono (by rw [World.size_alloc]; omega))

set_option maxRecDepth 100000 in
set_option maxHeartbeats 800000 in
theorem wsub_any (w : World) (m n : Bool) (s t : ByteArray) (hs : s.size ≤ 100000) (ht : t.size ≤ 100000) (z : Bool) (o : ByteArray) (hz : wf (wv m s - wv n t) = wi z o) :
    Calls Tryz.prog 121 #[wi m s, wi n t] w (Ret (.agg #[.bool z, .string o]) w) := by
  have hz2 : wf (wv m s + wv (!n) t) = wi z o := by rw [wv_not, ← hz, Int.sub_eq_add_neg]
  have HZ := Lib.hid hz2; clear hz hz2
  have hsz : (((w.alloc (Obj.cells #[Value.bool m, Value.string s] 23)).alloc (Obj.cells #[Value.bool (!n), Value.string t] 23)).alloc (Obj.cells #[Value.bool false, Value.string { data := #[] }] 23)).heap.size = w.heap.size + 1 + 1 + 1 := by rw [World.size_alloc, World.size_alloc, World.size_alloc]
  unfold wi
  go_enter Tryz.func121, Tryz.ntmps121
  go_wp2_with fail
  obtain ⟨hA, hB, hC, hb⟩ := blocks3 w #[Value.bool m, Value.string s] #[Value.bool (!n), Value.string t] #[Value.bool false, Value.string { data := #[] }]
  generalize (((w.alloc (Obj.cells #[Value.bool m, Value.string s] 23)).alloc (Obj.cells #[Value.bool (!n), Value.string t] 23)).alloc (Obj.cells #[Value.bool false, Value.string { data := #[] }] 23)) = W0 at *
  have hu := use_wadd2 W0 m (!n) s t hs ht z o HZ.out
  rw [hsz] at hu
  refine hu.mono ?_
  rintro e W ⟨rfl, hq⟩
  replace hb := below_next hb hq
  replace hC := hC.below hq
  obtain ⟨hC0, hC1, hC2, hC3⟩ := hC.facts
  clear hq hA hB hu
  go_wp2
  exact ret_whole rfl rfl (hC.set_ _ _) ⟨rfl, below_set2 hb (by omega) _ _ _ _⟩
end Go.Proofs.YtmipcelnmmjplaaGreatDoor
/- Package whole: Mul, walked. -/
namespace Go.Proofs.YtmipcelnmmjplaaGreatDoor
open Go.RowKit Go.Shelf

/-- What the first k are, multiplied. -/
def prodI (l : List IV) (k : Nat) : Int := ((l.take k).map fun x => wv x.1 x.2).foldl (· * ·) 1
theorem prodI_succ {l : List IV} {k : Nat} (h : k < l.length) : prodI l (k + 1) = prodI l k * wv l[k].1 l[k].2 := by
  unfold prodI
  rw [List.take_succ_eq_append_getElem h, List.map_append, List.foldl_append]
  rfl
theorem prodI_zero (l : List IV) : prodI l 0 = 1 := rfl
/-- Between the rounds of Mul: after k + 1 of them. -/
def MUL (w wr : World) (l : List IV) (k : Nat) (n : Bool) (s : ByteArray) : Prop :=
  wv n s = prodI l (k + 1) ∧ (0 < k → ∃ m, fb m = s) ∧ s.size ≤ (k + 1) * 100000 ∧ Below w.heap.size w wr ∧ Bk wr w.heap.size #[.bool false, .string ⟨#[]⟩]
def intP : Value → Nat | .int _ n => n.toNat | _ => 0

set_option maxRecDepth 100000 in
set_option maxHeartbeats 400000 in
theorem wmul_none (w : World) (ad : Option Addr) (c : Nat) (z : Bool) (o : ByteArray) (hz : wf 1 = wi z o) :
    Calls Tryz.prog 89 #[.slice ad 0 c] w (Ret (.agg #[.bool z, .string o]) w) := by
  have HZ := Lib.hid hz; clear hz
  go_enter Tryz.func89, Tryz.ntmps89
  go_wp2_with fail
  obtain ⟨hC, hb⟩ := blocks1 w #[Value.bool false, Value.string { data := #[] }]
  generalize (w.alloc (Obj.cells #[Value.bool false, Value.string { data := #[] }] 23)) = W0 at *
  refine (wof_any _ 1 (by omega) (by omega) z o HZ.out).mono ?_
  rintro e W1 ⟨rfl, hq⟩
  replace hb := below_next hb hq
  replace hC := hC.below hq
  obtain ⟨hC0, hC1, hC2, hC3⟩ := hC.facts
  clear hq
  go_wp2
  exact ret_whole rfl rfl (hC.set_ _ _) ⟨rfl, below_set2 hb (by omega) _ _ _ _⟩

set_option maxRecDepth 100000 in
set_option maxHeartbeats 400000 in
theorem wmul_one (w : World) (b off : Nat) (c : Nat) (m : Bool) (s : ByteArray) (hs : s.size ≤ 100000) (hc1 : w.cell? ⟨b, off, none⟩ = some (.bool m)) (hc2 : w.cell? ⟨b, off + 1, none⟩ = some (.string s))
    (z : Bool) (o : ByteArray) (hz : wf (wv m s) = wi z o) :
    Calls Tryz.prog 89 #[.slice (some ⟨b, off, none⟩) 1 c] w (Ret (.agg #[.bool z, .string o]) w) := by
  have HZ := Lib.hid hz; clear hz
  have hn1 := cell_past hc1 (Obj.cells #[Value.bool false, Value.string { data := #[] }] 23)
  have hn2 := cell_past hc2 (Obj.cells #[Value.bool false, Value.string { data := #[] }] 23)
  go_enter Tryz.func89, Tryz.ntmps89
  go_wp2_with fail
  obtain ⟨hC, hb⟩ := blocks1 w #[Value.bool false, Value.string { data := #[] }]
  generalize (w.alloc (Obj.cells #[Value.bool false, Value.string { data := #[] }] 23)) = W0 at *
  refine (wform_any _ m s (by omega) z o HZ.out).mono ?_
  rintro e W1 ⟨rfl, hq⟩
  replace hb := below_next hb hq
  replace hC := hC.below hq
  obtain ⟨hC0, hC1, hC2, hC3⟩ := hC.facts
  clear hq
  go_wp2
  exact ret_whole rfl rfl (hC.set_ _ _) ⟨rfl, below_set2 hb (by omega) _ _ _ _⟩

set_option maxRecDepth 100000 in
set_option maxHeartbeats 400000 in
theorem wmul_any (w : World) (b off : Nat) (l : List IV) (n c : Nat) (hn : l.length = n) (hc : n ≤ c) (h2 : 2 ≤ n) (hmax : n ≤ 900) (hs : ∀ x ∈ l, x.2.size ≤ 100000) (hl : IAt w (some ⟨b, off, none⟩) l)
    (z : Bool) (o : ByteArray) (hz : wf (prodI l n) = wi z o) :
    Calls Tryz.prog 89 #[.slice (some ⟨b, off, none⟩) n c] w (Ret (.agg #[.bool z, .string o]) w) := by
  have HN := Lib.hid hn; clear hn
  have hkl : 0 < l.length := by rw [HN.out]; omega
  obtain ⟨lb, lo, hae, hlb, hc1, hc2⟩ := hl 0 hkl
  obtain ⟨rfl, rfl⟩ : b = lb ∧ off = lo := by simpa using hae
  clear hae
  obtain ⟨m, s, hx⟩ : ∃ m s, l[0] = (m, s) := ⟨_, _, rfl⟩
  have hss : s.size ≤ 100000 := by have := hs l[0] (List.getElem_mem hkl); rw [hx] at this; exact this
  have hp : prodI l 1 = wv m s := by rw [prodI_succ hkl, prodI_zero, hx, Int.one_mul]
  rw [hx] at hc1 hc2
  rw [Nat.zero_mul, Nat.add_zero] at hc1 hc2
  have hp2 := hp.symm
  clear hx hp
  go_enter Tryz.func89, Tryz.ntmps89
  go_wp2_with fail
  obtain ⟨hC, hb⟩ := blocks1 w #[Value.bool false, Value.string { data := #[] }]
  generalize (w.alloc (Obj.cells #[Value.bool false, Value.string { data := #[] }] 23)) = W0 at *
  have hlb0 : b < W0.heap.size := Nat.lt_of_lt_of_le hlb hb.size
  replace hc1 : W0.cell? ⟨b, off, none⟩ = some (.bool m) := by rw [hb.cell hlb]; exact hc1
  replace hc2 : W0.cell? ⟨b, off + 1, none⟩ = some (.string s) := by rw [hb.cell hlb]; exact hc2
  go_region
  go_wp2_with fail
  have hM0 : MUL w W0.drew l 0 m s := ⟨hp2, fun h => by omega, by omega, hb.drew, hC.drew⟩
  clear hb hp2 hC hc1 hc2 hss
  go_loopw [3, 4, 29] (fun nv sv i wr => ∃ (k : Nat) (q : Bool) (t : ByteArray), k ≤ n - 1 ∧ nv = .bool q ∧ sv = .string t ∧ i = .int .i64 k ∧ MUL w wr l k q t)
    (fun _ _ i _ => n - intP i)
  case atStart => exact ⟨0, m, s, Nat.zero_le _, rfl, rfl, rfl, hM0⟩
  case round =>
    clear hM0
    obtain ⟨k, q, t, hk, rfl, rfl, rfl, hM1⟩ := hrel
    obtain ⟨hv, hf, hsz, hb, hC⟩ := hM1
    have HV := Lib.hid hv; clear hv
    by_cases hlt : k < n - 1
    · have hkl1 : k + 1 < l.length := by rw [HN.out]; omega
      obtain ⟨lb, lo, hae, _, hc1, hc2⟩ := hl (k + 1) hkl1
      obtain ⟨rfl, rfl⟩ : b = lb ∧ off = lo := by simpa using hae
      clear hae
      obtain ⟨m1, s1, hx⟩ : ∃ m s, l[k + 1] = (m, s) := ⟨_, _, rfl⟩
      have hss : s1.size ≤ 100000 := by have := hs l[k + 1] (List.getElem_mem hkl1); rw [hx] at this; exact this
      have hp := prodI_succ hkl1
      rw [hx] at hc1 hc2 hp
      rw [show off + (k + 1) * 2 = off + 2 + k * 2 by omega] at hc1 hc2
      replace hc1 : wr.cell? ⟨b, off + 2 + k * 2, none⟩ = some (.bool m1) := by rw [hb.cell hlb]; exact hc1
      replace hc2 : wr.cell? ⟨b, off + 2 + k * 2 + 1, none⟩ = some (.string s1) := by rw [hb.cell hlb]; exact hc2
      have HP := Lib.hid hp; clear hp hx
      obtain ⟨r, hr⟩ : ∃ r, fb (num t * num s1) = r := ⟨_, rfl⟩
      have hrs : r.size ≤ (k + 1 + 1) * 100000 := by
        rw [← hr]
        have := fb_size_le (lt_mul (num_lt t) (num_lt s1))
        omega
      have hrv : wv (q != m1) r = prodI l (k + 1 + 1) := by rw [HP.out, ← HV.out, ← hr, sI_fb, wv_sI, wv_sI, sI_mul]
      have HR := Lib.hid (And.intro hr hrv); clear hr hrv
      go_wp2_with fail
      have hA := Bk.new wr #[.bool m1, .string s1]
      have hbk := hb.size
      replace hb := hb.alloc hbk (.cells #[.bool m1, .string s1] 23)
      replace hC := hC.alloc (.cells #[.bool m1, .string s1] 23)
      generalize (wr.alloc (Obj.cells #[Value.bool m1, Value.string s1] 23)) = V0 at *
      replace hb := hb.drew
      replace hC := hC.drew
      have hin := hA.drew.cells
      clear hA hc1 hc2
      go_region_held3 (fun w' => w'.cell? ⟨wr.heap.size, 0, none⟩ = some (.bool m1) ∧ w'.cell? ⟨wr.heap.size, 1, none⟩ = some (.string s1))
        (first | assumption | exact held (by assumption) (by assumption))
        (first
         | (go_at_call 150; refine (use_mul _ t s1 r (by omega) (by omega) HR.out.1).mono ?_; rintro e V1 ⟨rfl, hq⟩; replace hb := below_next hb hq; replace hC := hC.below hq))
      go_wp2
      go_roundw
      case rel => exact ⟨k + 1, (q != m1), r, by omega, rfl, rfl, by simp, HR.out.2, fun _ => ⟨_, HR.out.1⟩, hrs, hb, hC⟩
      case measure => simp [intP]; omega
    · have hkn : k = n - 1 := by omega
      obtain ⟨m2, hm2⟩ := hf (by omega)
      have hz2 : wf (sI q m2) = wi z o := by
        rw [← hz, ← sI_fb, hm2, HV.out, hkn]
        congr 2
        omega
      go_wp2_with fail
      refine (signed_any _ q t m2 z o hm2 hz2).mono ?_
      rintro e V1 ⟨rfl, hq⟩
      replace hb := below_next hb hq
      replace hC := hC.below hq
      obtain ⟨hC0, hC1, hC2, hC3⟩ := hC.facts
      clear hq
      go_wp2
      exact ret_whole rfl rfl (hC.set_ _ _) ⟨rfl, below_set2 hb (by omega) _ _ _ _⟩
end Go.Proofs.YtmipcelnmmjplaaGreatDoor
/- Mul of two and of three Ints that lie in a new block. -/
namespace Go.Proofs.YtmipcelnmmjplaaGreatDoor
open Go.RowKit Go.Shelf

theorem use_wmul2 (w : World) (m n : Bool) (s t : ByteArray) (hs : s.size ≤ 100000) (ht : t.size ≤ 100000) (z : Bool) (o : ByteArray) (hz : wf (wv m s * wv n t) = wi z o) :
    Calls Tryz.prog 89 #[.slice (some ⟨w.heap.size, 0, none⟩) 2 2] (w.alloc (.cells #[.bool m, .string s, .bool n, .string t] 23)) (Ret (.agg #[.bool z, .string o]) w) := by
  refine (wmul_any _ w.heap.size 0 [(m, s), (n, t)] 2 2 rfl (by omega) (by omega) (by omega) (fun x h => by simp at h; rcases h with h | h <;> (rw [h]; assumption)) (IAt.new w _ _ _ rfl) z o ?_).mono fun _ _ ⟨h, hb⟩ => ⟨h, ?_⟩
  · rw [← hz]
    congr 1
    show (1 * wv m s) * wv n t = _
    rw [Int.one_mul]
  · exact ((Below.refl _ _).alloc (Nat.le_refl _) _).trans (hb.mono (by rw [World.size_alloc]; omega))
theorem use_wmul3 (w : World) (m n q : Bool) (s t u : ByteArray) (hs : s.size ≤ 100000) (ht : t.size ≤ 100000) (hu : u.size ≤ 100000) (z : Bool) (o : ByteArray) (hz : wf (wv m s * wv n t * wv q u) = wi z o) :
    Calls Tryz.prog 89 #[.slice (some ⟨w.heap.size, 0, none⟩) 3 3] (w.alloc (.cells #[.bool m, .string s, .bool n, .string t, .bool q, .string u] 23)) (Ret (.agg #[.bool z, .string o]) w) := by
  refine (wmul_any _ w.heap.size 0 [(m, s), (n, t), (q, u)] 3 3 rfl (by omega) (by omega) (by omega) (fun x h => by simp at h; rcases h with h | h | h <;> (rw [h]; assumption)) (IAt.new w _ _ _ rfl) z o ?_).mono fun _ _ ⟨h, hb⟩ => ⟨h, ?_⟩
  · rw [← hz]
    congr 1
    show (1 * wv m s) * wv n t * wv q u = _
    rw [Int.one_mul]
  · exact ((Below.refl _ _).alloc (Nat.le_refl _) _).trans (hb.mono (by rw [World.size_alloc]; omega))
end Go.Proofs.YtmipcelnmmjplaaGreatDoor
/- Facts on several Ints' blocks at once; and sums and products of Ints in a new block, told of the world that holds the block. -/
namespace Go.Proofs.YtmipcelnmmjplaaGreatDoor
open Go.RowKit Go.Shelf

theorem h1 {W W' : World} {b0 : Nat} {x0 y0 : Value} (hq : Below W.heap.size W W') (h : (W.cell? ⟨b0, 0, none⟩ = some x0 ∧ W.cell? ⟨b0, 1, none⟩ = some y0)) : (W'.cell? ⟨b0, 0, none⟩ = some x0 ∧ W'.cell? ⟨b0, 1, none⟩ = some y0) :=
  held h hq
theorem a1 {W : World} {b0 : Nat} {x0 y0 : Value} {o : Obj} (h : (W.cell? ⟨b0, 0, none⟩ = some x0 ∧ W.cell? ⟨b0, 1, none⟩ = some y0)) : ((W.alloc o).cell? ⟨b0, 0, none⟩ = some x0 ∧ (W.alloc o).cell? ⟨b0, 1, none⟩ = some y0) :=
  held_alloc h
theorem h2 {W W' : World} {b0 b1 : Nat} {x0 y0 x1 y1 : Value} (hq : Below W.heap.size W W') (h : (W.cell? ⟨b0, 0, none⟩ = some x0 ∧ W.cell? ⟨b0, 1, none⟩ = some y0) ∧ (W.cell? ⟨b1, 0, none⟩ = some x1 ∧ W.cell? ⟨b1, 1, none⟩ = some y1)) : (W'.cell? ⟨b0, 0, none⟩ = some x0 ∧ W'.cell? ⟨b0, 1, none⟩ = some y0) ∧ (W'.cell? ⟨b1, 0, none⟩ = some x1 ∧ W'.cell? ⟨b1, 1, none⟩ = some y1) :=
  ⟨held h.1 hq, held h.2 hq⟩
theorem a2 {W : World} {b0 b1 : Nat} {x0 y0 x1 y1 : Value} {o : Obj} (h : (W.cell? ⟨b0, 0, none⟩ = some x0 ∧ W.cell? ⟨b0, 1, none⟩ = some y0) ∧ (W.cell? ⟨b1, 0, none⟩ = some x1 ∧ W.cell? ⟨b1, 1, none⟩ = some y1)) : ((W.alloc o).cell? ⟨b0, 0, none⟩ = some x0 ∧ (W.alloc o).cell? ⟨b0, 1, none⟩ = some y0) ∧ ((W.alloc o).cell? ⟨b1, 0, none⟩ = some x1 ∧ (W.alloc o).cell? ⟨b1, 1, none⟩ = some y1) :=
  ⟨held_alloc h.1, held_alloc h.2⟩
theorem h3 {W W' : World} {b0 b1 b2 : Nat} {x0 y0 x1 y1 x2 y2 : Value} (hq : Below W.heap.size W W') (h : (W.cell? ⟨b0, 0, none⟩ = some x0 ∧ W.cell? ⟨b0, 1, none⟩ = some y0) ∧ (W.cell? ⟨b1, 0, none⟩ = some x1 ∧ W.cell? ⟨b1, 1, none⟩ = some y1) ∧ (W.cell? ⟨b2, 0, none⟩ = some x2 ∧ W.cell? ⟨b2, 1, none⟩ = some y2)) : (W'.cell? ⟨b0, 0, none⟩ = some x0 ∧ W'.cell? ⟨b0, 1, none⟩ = some y0) ∧ (W'.cell? ⟨b1, 0, none⟩ = some x1 ∧ W'.cell? ⟨b1, 1, none⟩ = some y1) ∧ (W'.cell? ⟨b2, 0, none⟩ = some x2 ∧ W'.cell? ⟨b2, 1, none⟩ = some y2) :=
  ⟨held h.1 hq, held h.2.1 hq, held h.2.2 hq⟩
theorem a3 {W : World} {b0 b1 b2 : Nat} {x0 y0 x1 y1 x2 y2 : Value} {o : Obj} (h : (W.cell? ⟨b0, 0, none⟩ = some x0 ∧ W.cell? ⟨b0, 1, none⟩ = some y0) ∧ (W.cell? ⟨b1, 0, none⟩ = some x1 ∧ W.cell? ⟨b1, 1, none⟩ = some y1) ∧ (W.cell? ⟨b2, 0, none⟩ = some x2 ∧ W.cell? ⟨b2, 1, none⟩ = some y2)) : ((W.alloc o).cell? ⟨b0, 0, none⟩ = some x0 ∧ (W.alloc o).cell? ⟨b0, 1, none⟩ = some y0) ∧ ((W.alloc o).cell? ⟨b1, 0, none⟩ = some x1 ∧ (W.alloc o).cell? ⟨b1, 1, none⟩ = some y1) ∧ ((W.alloc o).cell? ⟨b2, 0, none⟩ = some x2 ∧ (W.alloc o).cell? ⟨b2, 1, none⟩ = some y2) :=
  ⟨held_alloc h.1, held_alloc h.2.1, held_alloc h.2.2⟩
theorem h4 {W W' : World} {b0 b1 b2 b3 : Nat} {x0 y0 x1 y1 x2 y2 x3 y3 : Value} (hq : Below W.heap.size W W') (h : (W.cell? ⟨b0, 0, none⟩ = some x0 ∧ W.cell? ⟨b0, 1, none⟩ = some y0) ∧ (W.cell? ⟨b1, 0, none⟩ = some x1 ∧ W.cell? ⟨b1, 1, none⟩ = some y1) ∧ (W.cell? ⟨b2, 0, none⟩ = some x2 ∧ W.cell? ⟨b2, 1, none⟩ = some y2) ∧ (W.cell? ⟨b3, 0, none⟩ = some x3 ∧ W.cell? ⟨b3, 1, none⟩ = some y3)) : (W'.cell? ⟨b0, 0, none⟩ = some x0 ∧ W'.cell? ⟨b0, 1, none⟩ = some y0) ∧ (W'.cell? ⟨b1, 0, none⟩ = some x1 ∧ W'.cell? ⟨b1, 1, none⟩ = some y1) ∧ (W'.cell? ⟨b2, 0, none⟩ = some x2 ∧ W'.cell? ⟨b2, 1, none⟩ = some y2) ∧ (W'.cell? ⟨b3, 0, none⟩ = some x3 ∧ W'.cell? ⟨b3, 1, none⟩ = some y3) :=
  ⟨held h.1 hq, held h.2.1 hq, held h.2.2.1 hq, held h.2.2.2 hq⟩
theorem a4 {W : World} {b0 b1 b2 b3 : Nat} {x0 y0 x1 y1 x2 y2 x3 y3 : Value} {o : Obj} (h : (W.cell? ⟨b0, 0, none⟩ = some x0 ∧ W.cell? ⟨b0, 1, none⟩ = some y0) ∧ (W.cell? ⟨b1, 0, none⟩ = some x1 ∧ W.cell? ⟨b1, 1, none⟩ = some y1) ∧ (W.cell? ⟨b2, 0, none⟩ = some x2 ∧ W.cell? ⟨b2, 1, none⟩ = some y2) ∧ (W.cell? ⟨b3, 0, none⟩ = some x3 ∧ W.cell? ⟨b3, 1, none⟩ = some y3)) : ((W.alloc o).cell? ⟨b0, 0, none⟩ = some x0 ∧ (W.alloc o).cell? ⟨b0, 1, none⟩ = some y0) ∧ ((W.alloc o).cell? ⟨b1, 0, none⟩ = some x1 ∧ (W.alloc o).cell? ⟨b1, 1, none⟩ = some y1) ∧ ((W.alloc o).cell? ⟨b2, 0, none⟩ = some x2 ∧ (W.alloc o).cell? ⟨b2, 1, none⟩ = some y2) ∧ ((W.alloc o).cell? ⟨b3, 0, none⟩ = some x3 ∧ (W.alloc o).cell? ⟨b3, 1, none⟩ = some y3) :=
  ⟨held_alloc h.1, held_alloc h.2.1, held_alloc h.2.2.1, held_alloc h.2.2.2⟩
theorem h5 {W W' : World} {b0 b1 b2 b3 b4 : Nat} {x0 y0 x1 y1 x2 y2 x3 y3 x4 y4 : Value} (hq : Below W.heap.size W W') (h : (W.cell? ⟨b0, 0, none⟩ = some x0 ∧ W.cell? ⟨b0, 1, none⟩ = some y0) ∧ (W.cell? ⟨b1, 0, none⟩ = some x1 ∧ W.cell? ⟨b1, 1, none⟩ = some y1) ∧ (W.cell? ⟨b2, 0, none⟩ = some x2 ∧ W.cell? ⟨b2, 1, none⟩ = some y2) ∧ (W.cell? ⟨b3, 0, none⟩ = some x3 ∧ W.cell? ⟨b3, 1, none⟩ = some y3) ∧ (W.cell? ⟨b4, 0, none⟩ = some x4 ∧ W.cell? ⟨b4, 1, none⟩ = some y4)) : (W'.cell? ⟨b0, 0, none⟩ = some x0 ∧ W'.cell? ⟨b0, 1, none⟩ = some y0) ∧ (W'.cell? ⟨b1, 0, none⟩ = some x1 ∧ W'.cell? ⟨b1, 1, none⟩ = some y1) ∧ (W'.cell? ⟨b2, 0, none⟩ = some x2 ∧ W'.cell? ⟨b2, 1, none⟩ = some y2) ∧ (W'.cell? ⟨b3, 0, none⟩ = some x3 ∧ W'.cell? ⟨b3, 1, none⟩ = some y3) ∧ (W'.cell? ⟨b4, 0, none⟩ = some x4 ∧ W'.cell? ⟨b4, 1, none⟩ = some y4) :=
  ⟨held h.1 hq, held h.2.1 hq, held h.2.2.1 hq, held h.2.2.2.1 hq, held h.2.2.2.2 hq⟩
theorem a5 {W : World} {b0 b1 b2 b3 b4 : Nat} {x0 y0 x1 y1 x2 y2 x3 y3 x4 y4 : Value} {o : Obj} (h : (W.cell? ⟨b0, 0, none⟩ = some x0 ∧ W.cell? ⟨b0, 1, none⟩ = some y0) ∧ (W.cell? ⟨b1, 0, none⟩ = some x1 ∧ W.cell? ⟨b1, 1, none⟩ = some y1) ∧ (W.cell? ⟨b2, 0, none⟩ = some x2 ∧ W.cell? ⟨b2, 1, none⟩ = some y2) ∧ (W.cell? ⟨b3, 0, none⟩ = some x3 ∧ W.cell? ⟨b3, 1, none⟩ = some y3) ∧ (W.cell? ⟨b4, 0, none⟩ = some x4 ∧ W.cell? ⟨b4, 1, none⟩ = some y4)) : ((W.alloc o).cell? ⟨b0, 0, none⟩ = some x0 ∧ (W.alloc o).cell? ⟨b0, 1, none⟩ = some y0) ∧ ((W.alloc o).cell? ⟨b1, 0, none⟩ = some x1 ∧ (W.alloc o).cell? ⟨b1, 1, none⟩ = some y1) ∧ ((W.alloc o).cell? ⟨b2, 0, none⟩ = some x2 ∧ (W.alloc o).cell? ⟨b2, 1, none⟩ = some y2) ∧ ((W.alloc o).cell? ⟨b3, 0, none⟩ = some x3 ∧ (W.alloc o).cell? ⟨b3, 1, none⟩ = some y3) ∧ ((W.alloc o).cell? ⟨b4, 0, none⟩ = some x4 ∧ (W.alloc o).cell? ⟨b4, 1, none⟩ = some y4) :=
  ⟨held_alloc h.1, held_alloc h.2.1, held_alloc h.2.2.1, held_alloc h.2.2.2.1, held_alloc h.2.2.2.2⟩
theorem h6 {W W' : World} {b0 b1 b2 b3 b4 b5 : Nat} {x0 y0 x1 y1 x2 y2 x3 y3 x4 y4 x5 y5 : Value} (hq : Below W.heap.size W W') (h : (W.cell? ⟨b0, 0, none⟩ = some x0 ∧ W.cell? ⟨b0, 1, none⟩ = some y0) ∧ (W.cell? ⟨b1, 0, none⟩ = some x1 ∧ W.cell? ⟨b1, 1, none⟩ = some y1) ∧ (W.cell? ⟨b2, 0, none⟩ = some x2 ∧ W.cell? ⟨b2, 1, none⟩ = some y2) ∧ (W.cell? ⟨b3, 0, none⟩ = some x3 ∧ W.cell? ⟨b3, 1, none⟩ = some y3) ∧ (W.cell? ⟨b4, 0, none⟩ = some x4 ∧ W.cell? ⟨b4, 1, none⟩ = some y4) ∧ (W.cell? ⟨b5, 0, none⟩ = some x5 ∧ W.cell? ⟨b5, 1, none⟩ = some y5)) : (W'.cell? ⟨b0, 0, none⟩ = some x0 ∧ W'.cell? ⟨b0, 1, none⟩ = some y0) ∧ (W'.cell? ⟨b1, 0, none⟩ = some x1 ∧ W'.cell? ⟨b1, 1, none⟩ = some y1) ∧ (W'.cell? ⟨b2, 0, none⟩ = some x2 ∧ W'.cell? ⟨b2, 1, none⟩ = some y2) ∧ (W'.cell? ⟨b3, 0, none⟩ = some x3 ∧ W'.cell? ⟨b3, 1, none⟩ = some y3) ∧ (W'.cell? ⟨b4, 0, none⟩ = some x4 ∧ W'.cell? ⟨b4, 1, none⟩ = some y4) ∧ (W'.cell? ⟨b5, 0, none⟩ = some x5 ∧ W'.cell? ⟨b5, 1, none⟩ = some y5) :=
  ⟨held h.1 hq, held h.2.1 hq, held h.2.2.1 hq, held h.2.2.2.1 hq, held h.2.2.2.2.1 hq, held h.2.2.2.2.2 hq⟩
theorem a6 {W : World} {b0 b1 b2 b3 b4 b5 : Nat} {x0 y0 x1 y1 x2 y2 x3 y3 x4 y4 x5 y5 : Value} {o : Obj} (h : (W.cell? ⟨b0, 0, none⟩ = some x0 ∧ W.cell? ⟨b0, 1, none⟩ = some y0) ∧ (W.cell? ⟨b1, 0, none⟩ = some x1 ∧ W.cell? ⟨b1, 1, none⟩ = some y1) ∧ (W.cell? ⟨b2, 0, none⟩ = some x2 ∧ W.cell? ⟨b2, 1, none⟩ = some y2) ∧ (W.cell? ⟨b3, 0, none⟩ = some x3 ∧ W.cell? ⟨b3, 1, none⟩ = some y3) ∧ (W.cell? ⟨b4, 0, none⟩ = some x4 ∧ W.cell? ⟨b4, 1, none⟩ = some y4) ∧ (W.cell? ⟨b5, 0, none⟩ = some x5 ∧ W.cell? ⟨b5, 1, none⟩ = some y5)) : ((W.alloc o).cell? ⟨b0, 0, none⟩ = some x0 ∧ (W.alloc o).cell? ⟨b0, 1, none⟩ = some y0) ∧ ((W.alloc o).cell? ⟨b1, 0, none⟩ = some x1 ∧ (W.alloc o).cell? ⟨b1, 1, none⟩ = some y1) ∧ ((W.alloc o).cell? ⟨b2, 0, none⟩ = some x2 ∧ (W.alloc o).cell? ⟨b2, 1, none⟩ = some y2) ∧ ((W.alloc o).cell? ⟨b3, 0, none⟩ = some x3 ∧ (W.alloc o).cell? ⟨b3, 1, none⟩ = some y3) ∧ ((W.alloc o).cell? ⟨b4, 0, none⟩ = some x4 ∧ (W.alloc o).cell? ⟨b4, 1, none⟩ = some y4) ∧ ((W.alloc o).cell? ⟨b5, 0, none⟩ = some x5 ∧ (W.alloc o).cell? ⟨b5, 1, none⟩ = some y5) :=
  ⟨held_alloc h.1, held_alloc h.2.1, held_alloc h.2.2.1, held_alloc h.2.2.2.1, held_alloc h.2.2.2.2.1, held_alloc h.2.2.2.2.2⟩
theorem h7 {W W' : World} {b0 b1 b2 b3 b4 b5 b6 : Nat} {x0 y0 x1 y1 x2 y2 x3 y3 x4 y4 x5 y5 x6 y6 : Value} (hq : Below W.heap.size W W') (h : (W.cell? ⟨b0, 0, none⟩ = some x0 ∧ W.cell? ⟨b0, 1, none⟩ = some y0) ∧ (W.cell? ⟨b1, 0, none⟩ = some x1 ∧ W.cell? ⟨b1, 1, none⟩ = some y1) ∧ (W.cell? ⟨b2, 0, none⟩ = some x2 ∧ W.cell? ⟨b2, 1, none⟩ = some y2) ∧ (W.cell? ⟨b3, 0, none⟩ = some x3 ∧ W.cell? ⟨b3, 1, none⟩ = some y3) ∧ (W.cell? ⟨b4, 0, none⟩ = some x4 ∧ W.cell? ⟨b4, 1, none⟩ = some y4) ∧ (W.cell? ⟨b5, 0, none⟩ = some x5 ∧ W.cell? ⟨b5, 1, none⟩ = some y5) ∧ (W.cell? ⟨b6, 0, none⟩ = some x6 ∧ W.cell? ⟨b6, 1, none⟩ = some y6)) : (W'.cell? ⟨b0, 0, none⟩ = some x0 ∧ W'.cell? ⟨b0, 1, none⟩ = some y0) ∧ (W'.cell? ⟨b1, 0, none⟩ = some x1 ∧ W'.cell? ⟨b1, 1, none⟩ = some y1) ∧ (W'.cell? ⟨b2, 0, none⟩ = some x2 ∧ W'.cell? ⟨b2, 1, none⟩ = some y2) ∧ (W'.cell? ⟨b3, 0, none⟩ = some x3 ∧ W'.cell? ⟨b3, 1, none⟩ = some y3) ∧ (W'.cell? ⟨b4, 0, none⟩ = some x4 ∧ W'.cell? ⟨b4, 1, none⟩ = some y4) ∧ (W'.cell? ⟨b5, 0, none⟩ = some x5 ∧ W'.cell? ⟨b5, 1, none⟩ = some y5) ∧ (W'.cell? ⟨b6, 0, none⟩ = some x6 ∧ W'.cell? ⟨b6, 1, none⟩ = some y6) :=
  ⟨held h.1 hq, held h.2.1 hq, held h.2.2.1 hq, held h.2.2.2.1 hq, held h.2.2.2.2.1 hq, held h.2.2.2.2.2.1 hq, held h.2.2.2.2.2.2 hq⟩
theorem a7 {W : World} {b0 b1 b2 b3 b4 b5 b6 : Nat} {x0 y0 x1 y1 x2 y2 x3 y3 x4 y4 x5 y5 x6 y6 : Value} {o : Obj} (h : (W.cell? ⟨b0, 0, none⟩ = some x0 ∧ W.cell? ⟨b0, 1, none⟩ = some y0) ∧ (W.cell? ⟨b1, 0, none⟩ = some x1 ∧ W.cell? ⟨b1, 1, none⟩ = some y1) ∧ (W.cell? ⟨b2, 0, none⟩ = some x2 ∧ W.cell? ⟨b2, 1, none⟩ = some y2) ∧ (W.cell? ⟨b3, 0, none⟩ = some x3 ∧ W.cell? ⟨b3, 1, none⟩ = some y3) ∧ (W.cell? ⟨b4, 0, none⟩ = some x4 ∧ W.cell? ⟨b4, 1, none⟩ = some y4) ∧ (W.cell? ⟨b5, 0, none⟩ = some x5 ∧ W.cell? ⟨b5, 1, none⟩ = some y5) ∧ (W.cell? ⟨b6, 0, none⟩ = some x6 ∧ W.cell? ⟨b6, 1, none⟩ = some y6)) : ((W.alloc o).cell? ⟨b0, 0, none⟩ = some x0 ∧ (W.alloc o).cell? ⟨b0, 1, none⟩ = some y0) ∧ ((W.alloc o).cell? ⟨b1, 0, none⟩ = some x1 ∧ (W.alloc o).cell? ⟨b1, 1, none⟩ = some y1) ∧ ((W.alloc o).cell? ⟨b2, 0, none⟩ = some x2 ∧ (W.alloc o).cell? ⟨b2, 1, none⟩ = some y2) ∧ ((W.alloc o).cell? ⟨b3, 0, none⟩ = some x3 ∧ (W.alloc o).cell? ⟨b3, 1, none⟩ = some y3) ∧ ((W.alloc o).cell? ⟨b4, 0, none⟩ = some x4 ∧ (W.alloc o).cell? ⟨b4, 1, none⟩ = some y4) ∧ ((W.alloc o).cell? ⟨b5, 0, none⟩ = some x5 ∧ (W.alloc o).cell? ⟨b5, 1, none⟩ = some y5) ∧ ((W.alloc o).cell? ⟨b6, 0, none⟩ = some x6 ∧ (W.alloc o).cell? ⟨b6, 1, none⟩ = some y6) :=
  ⟨held_alloc h.1, held_alloc h.2.1, held_alloc h.2.2.1, held_alloc h.2.2.2.1, held_alloc h.2.2.2.2.1, held_alloc h.2.2.2.2.2.1, held_alloc h.2.2.2.2.2.2⟩
theorem IAt.alloc {w : World} {ad : Option Addr} {l : List IV} (o : Obj) (h : IAt w ad l) : IAt (w.alloc o) ad l := h.below ((Below.refl _ _).alloc (Nat.le_refl _) _)
theorem iat_below {w w' : World} {ad : Option Addr} {l : List IV} (hb : Below w.heap.size w w') (h : IAt w ad l) : IAt w' ad l := h.below hb
theorem iat_new {w : World} {b : Nat} {t : TypeId} {l : List IV} {L : Array Value} (hb : b = w.heap.size) (hL : L = (icells l).toArray) : IAt (w.alloc (.cells L t)) (some ⟨b, 0, none⟩) l := by
  subst hb
  exact IAt.new w t l L hL
theorem iat_new0 {w : World} {t : TypeId} {l : List IV} {L : Array Value} (hL : L = (icells l).toArray) : IAt (w.alloc (.cells L t)) (some ⟨w.heap.size, 0, none⟩) l := iat_new rfl hL
theorem iat_new1 {w : World} {o : Obj} {t : TypeId} {l : List IV} {L : Array Value} (hL : L = (icells l).toArray) : IAt ((w.alloc o).alloc (.cells L t)) (some ⟨w.heap.size + 1, 0, none⟩) l := iat_new (by rw [World.size_alloc]) hL
theorem iat_new2 {w : World} {o p : Obj} {t : TypeId} {l : List IV} {L : Array Value} (hL : L = (icells l).toArray) : IAt (((w.alloc o).alloc p).alloc (.cells L t)) (some ⟨w.heap.size + 1 + 1, 0, none⟩) l := iat_new (by rw [World.size_alloc, World.size_alloc]) hL
theorem iat_new3 {w : World} {o p q : Obj} {t : TypeId} {l : List IV} {L : Array Value} (hL : L = (icells l).toArray) : IAt ((((w.alloc o).alloc p).alloc q).alloc (.cells L t)) (some ⟨w.heap.size + 1 + 1 + 1, 0, none⟩) l := iat_new (by rw [World.size_alloc, World.size_alloc, World.size_alloc]) hL
theorem hb1 {w W W' : World} {b0 : Nat} {x0 y0 : Value} (hq : Below W.heap.size W W') (h : Below w.heap.size w W ∧ (W.cell? ⟨b0, 0, none⟩ = some x0 ∧ W.cell? ⟨b0, 1, none⟩ = some y0)) : Below w.heap.size w W' ∧ (W'.cell? ⟨b0, 0, none⟩ = some x0 ∧ W'.cell? ⟨b0, 1, none⟩ = some y0) :=
  ⟨below_next h.1 hq, h1 hq h.2⟩
theorem ab1 {w W : World} {b0 : Nat} {x0 y0 : Value} {o : Obj} (h : Below w.heap.size w W ∧ (W.cell? ⟨b0, 0, none⟩ = some x0 ∧ W.cell? ⟨b0, 1, none⟩ = some y0)) : Below w.heap.size w (W.alloc o) ∧ ((W.alloc o).cell? ⟨b0, 0, none⟩ = some x0 ∧ (W.alloc o).cell? ⟨b0, 1, none⟩ = some y0) :=
  ⟨h.1.alloc h.1.size o, a1 h.2⟩
theorem hb2 {w W W' : World} {b0 b1 : Nat} {x0 y0 x1 y1 : Value} (hq : Below W.heap.size W W') (h : Below w.heap.size w W ∧ (W.cell? ⟨b0, 0, none⟩ = some x0 ∧ W.cell? ⟨b0, 1, none⟩ = some y0) ∧ (W.cell? ⟨b1, 0, none⟩ = some x1 ∧ W.cell? ⟨b1, 1, none⟩ = some y1)) : Below w.heap.size w W' ∧ (W'.cell? ⟨b0, 0, none⟩ = some x0 ∧ W'.cell? ⟨b0, 1, none⟩ = some y0) ∧ (W'.cell? ⟨b1, 0, none⟩ = some x1 ∧ W'.cell? ⟨b1, 1, none⟩ = some y1) :=
  ⟨below_next h.1 hq, h2 hq h.2⟩
theorem ab2 {w W : World} {b0 b1 : Nat} {x0 y0 x1 y1 : Value} {o : Obj} (h : Below w.heap.size w W ∧ (W.cell? ⟨b0, 0, none⟩ = some x0 ∧ W.cell? ⟨b0, 1, none⟩ = some y0) ∧ (W.cell? ⟨b1, 0, none⟩ = some x1 ∧ W.cell? ⟨b1, 1, none⟩ = some y1)) : Below w.heap.size w (W.alloc o) ∧ ((W.alloc o).cell? ⟨b0, 0, none⟩ = some x0 ∧ (W.alloc o).cell? ⟨b0, 1, none⟩ = some y0) ∧ ((W.alloc o).cell? ⟨b1, 0, none⟩ = some x1 ∧ (W.alloc o).cell? ⟨b1, 1, none⟩ = some y1) :=
  ⟨h.1.alloc h.1.size o, a2 h.2⟩
theorem hb3 {w W W' : World} {b0 b1 b2 : Nat} {x0 y0 x1 y1 x2 y2 : Value} (hq : Below W.heap.size W W') (h : Below w.heap.size w W ∧ (W.cell? ⟨b0, 0, none⟩ = some x0 ∧ W.cell? ⟨b0, 1, none⟩ = some y0) ∧ (W.cell? ⟨b1, 0, none⟩ = some x1 ∧ W.cell? ⟨b1, 1, none⟩ = some y1) ∧ (W.cell? ⟨b2, 0, none⟩ = some x2 ∧ W.cell? ⟨b2, 1, none⟩ = some y2)) : Below w.heap.size w W' ∧ (W'.cell? ⟨b0, 0, none⟩ = some x0 ∧ W'.cell? ⟨b0, 1, none⟩ = some y0) ∧ (W'.cell? ⟨b1, 0, none⟩ = some x1 ∧ W'.cell? ⟨b1, 1, none⟩ = some y1) ∧ (W'.cell? ⟨b2, 0, none⟩ = some x2 ∧ W'.cell? ⟨b2, 1, none⟩ = some y2) :=
  ⟨below_next h.1 hq, h3 hq h.2⟩
theorem ab3 {w W : World} {b0 b1 b2 : Nat} {x0 y0 x1 y1 x2 y2 : Value} {o : Obj} (h : Below w.heap.size w W ∧ (W.cell? ⟨b0, 0, none⟩ = some x0 ∧ W.cell? ⟨b0, 1, none⟩ = some y0) ∧ (W.cell? ⟨b1, 0, none⟩ = some x1 ∧ W.cell? ⟨b1, 1, none⟩ = some y1) ∧ (W.cell? ⟨b2, 0, none⟩ = some x2 ∧ W.cell? ⟨b2, 1, none⟩ = some y2)) : Below w.heap.size w (W.alloc o) ∧ ((W.alloc o).cell? ⟨b0, 0, none⟩ = some x0 ∧ (W.alloc o).cell? ⟨b0, 1, none⟩ = some y0) ∧ ((W.alloc o).cell? ⟨b1, 0, none⟩ = some x1 ∧ (W.alloc o).cell? ⟨b1, 1, none⟩ = some y1) ∧ ((W.alloc o).cell? ⟨b2, 0, none⟩ = some x2 ∧ (W.alloc o).cell? ⟨b2, 1, none⟩ = some y2) :=
  ⟨h.1.alloc h.1.size o, a3 h.2⟩
theorem hb4 {w W W' : World} {b0 b1 b2 b3 : Nat} {x0 y0 x1 y1 x2 y2 x3 y3 : Value} (hq : Below W.heap.size W W') (h : Below w.heap.size w W ∧ (W.cell? ⟨b0, 0, none⟩ = some x0 ∧ W.cell? ⟨b0, 1, none⟩ = some y0) ∧ (W.cell? ⟨b1, 0, none⟩ = some x1 ∧ W.cell? ⟨b1, 1, none⟩ = some y1) ∧ (W.cell? ⟨b2, 0, none⟩ = some x2 ∧ W.cell? ⟨b2, 1, none⟩ = some y2) ∧ (W.cell? ⟨b3, 0, none⟩ = some x3 ∧ W.cell? ⟨b3, 1, none⟩ = some y3)) : Below w.heap.size w W' ∧ (W'.cell? ⟨b0, 0, none⟩ = some x0 ∧ W'.cell? ⟨b0, 1, none⟩ = some y0) ∧ (W'.cell? ⟨b1, 0, none⟩ = some x1 ∧ W'.cell? ⟨b1, 1, none⟩ = some y1) ∧ (W'.cell? ⟨b2, 0, none⟩ = some x2 ∧ W'.cell? ⟨b2, 1, none⟩ = some y2) ∧ (W'.cell? ⟨b3, 0, none⟩ = some x3 ∧ W'.cell? ⟨b3, 1, none⟩ = some y3) :=
  ⟨below_next h.1 hq, h4 hq h.2⟩
theorem ab4 {w W : World} {b0 b1 b2 b3 : Nat} {x0 y0 x1 y1 x2 y2 x3 y3 : Value} {o : Obj} (h : Below w.heap.size w W ∧ (W.cell? ⟨b0, 0, none⟩ = some x0 ∧ W.cell? ⟨b0, 1, none⟩ = some y0) ∧ (W.cell? ⟨b1, 0, none⟩ = some x1 ∧ W.cell? ⟨b1, 1, none⟩ = some y1) ∧ (W.cell? ⟨b2, 0, none⟩ = some x2 ∧ W.cell? ⟨b2, 1, none⟩ = some y2) ∧ (W.cell? ⟨b3, 0, none⟩ = some x3 ∧ W.cell? ⟨b3, 1, none⟩ = some y3)) : Below w.heap.size w (W.alloc o) ∧ ((W.alloc o).cell? ⟨b0, 0, none⟩ = some x0 ∧ (W.alloc o).cell? ⟨b0, 1, none⟩ = some y0) ∧ ((W.alloc o).cell? ⟨b1, 0, none⟩ = some x1 ∧ (W.alloc o).cell? ⟨b1, 1, none⟩ = some y1) ∧ ((W.alloc o).cell? ⟨b2, 0, none⟩ = some x2 ∧ (W.alloc o).cell? ⟨b2, 1, none⟩ = some y2) ∧ ((W.alloc o).cell? ⟨b3, 0, none⟩ = some x3 ∧ (W.alloc o).cell? ⟨b3, 1, none⟩ = some y3) :=
  ⟨h.1.alloc h.1.size o, a4 h.2⟩
theorem hb5 {w W W' : World} {b0 b1 b2 b3 b4 : Nat} {x0 y0 x1 y1 x2 y2 x3 y3 x4 y4 : Value} (hq : Below W.heap.size W W') (h : Below w.heap.size w W ∧ (W.cell? ⟨b0, 0, none⟩ = some x0 ∧ W.cell? ⟨b0, 1, none⟩ = some y0) ∧ (W.cell? ⟨b1, 0, none⟩ = some x1 ∧ W.cell? ⟨b1, 1, none⟩ = some y1) ∧ (W.cell? ⟨b2, 0, none⟩ = some x2 ∧ W.cell? ⟨b2, 1, none⟩ = some y2) ∧ (W.cell? ⟨b3, 0, none⟩ = some x3 ∧ W.cell? ⟨b3, 1, none⟩ = some y3) ∧ (W.cell? ⟨b4, 0, none⟩ = some x4 ∧ W.cell? ⟨b4, 1, none⟩ = some y4)) : Below w.heap.size w W' ∧ (W'.cell? ⟨b0, 0, none⟩ = some x0 ∧ W'.cell? ⟨b0, 1, none⟩ = some y0) ∧ (W'.cell? ⟨b1, 0, none⟩ = some x1 ∧ W'.cell? ⟨b1, 1, none⟩ = some y1) ∧ (W'.cell? ⟨b2, 0, none⟩ = some x2 ∧ W'.cell? ⟨b2, 1, none⟩ = some y2) ∧ (W'.cell? ⟨b3, 0, none⟩ = some x3 ∧ W'.cell? ⟨b3, 1, none⟩ = some y3) ∧ (W'.cell? ⟨b4, 0, none⟩ = some x4 ∧ W'.cell? ⟨b4, 1, none⟩ = some y4) :=
  ⟨below_next h.1 hq, h5 hq h.2⟩
theorem ab5 {w W : World} {b0 b1 b2 b3 b4 : Nat} {x0 y0 x1 y1 x2 y2 x3 y3 x4 y4 : Value} {o : Obj} (h : Below w.heap.size w W ∧ (W.cell? ⟨b0, 0, none⟩ = some x0 ∧ W.cell? ⟨b0, 1, none⟩ = some y0) ∧ (W.cell? ⟨b1, 0, none⟩ = some x1 ∧ W.cell? ⟨b1, 1, none⟩ = some y1) ∧ (W.cell? ⟨b2, 0, none⟩ = some x2 ∧ W.cell? ⟨b2, 1, none⟩ = some y2) ∧ (W.cell? ⟨b3, 0, none⟩ = some x3 ∧ W.cell? ⟨b3, 1, none⟩ = some y3) ∧ (W.cell? ⟨b4, 0, none⟩ = some x4 ∧ W.cell? ⟨b4, 1, none⟩ = some y4)) : Below w.heap.size w (W.alloc o) ∧ ((W.alloc o).cell? ⟨b0, 0, none⟩ = some x0 ∧ (W.alloc o).cell? ⟨b0, 1, none⟩ = some y0) ∧ ((W.alloc o).cell? ⟨b1, 0, none⟩ = some x1 ∧ (W.alloc o).cell? ⟨b1, 1, none⟩ = some y1) ∧ ((W.alloc o).cell? ⟨b2, 0, none⟩ = some x2 ∧ (W.alloc o).cell? ⟨b2, 1, none⟩ = some y2) ∧ ((W.alloc o).cell? ⟨b3, 0, none⟩ = some x3 ∧ (W.alloc o).cell? ⟨b3, 1, none⟩ = some y3) ∧ ((W.alloc o).cell? ⟨b4, 0, none⟩ = some x4 ∧ (W.alloc o).cell? ⟨b4, 1, none⟩ = some y4) :=
  ⟨h.1.alloc h.1.size o, a5 h.2⟩
theorem hb6 {w W W' : World} {b0 b1 b2 b3 b4 b5 : Nat} {x0 y0 x1 y1 x2 y2 x3 y3 x4 y4 x5 y5 : Value} (hq : Below W.heap.size W W') (h : Below w.heap.size w W ∧ (W.cell? ⟨b0, 0, none⟩ = some x0 ∧ W.cell? ⟨b0, 1, none⟩ = some y0) ∧ (W.cell? ⟨b1, 0, none⟩ = some x1 ∧ W.cell? ⟨b1, 1, none⟩ = some y1) ∧ (W.cell? ⟨b2, 0, none⟩ = some x2 ∧ W.cell? ⟨b2, 1, none⟩ = some y2) ∧ (W.cell? ⟨b3, 0, none⟩ = some x3 ∧ W.cell? ⟨b3, 1, none⟩ = some y3) ∧ (W.cell? ⟨b4, 0, none⟩ = some x4 ∧ W.cell? ⟨b4, 1, none⟩ = some y4) ∧ (W.cell? ⟨b5, 0, none⟩ = some x5 ∧ W.cell? ⟨b5, 1, none⟩ = some y5)) : Below w.heap.size w W' ∧ (W'.cell? ⟨b0, 0, none⟩ = some x0 ∧ W'.cell? ⟨b0, 1, none⟩ = some y0) ∧ (W'.cell? ⟨b1, 0, none⟩ = some x1 ∧ W'.cell? ⟨b1, 1, none⟩ = some y1) ∧ (W'.cell? ⟨b2, 0, none⟩ = some x2 ∧ W'.cell? ⟨b2, 1, none⟩ = some y2) ∧ (W'.cell? ⟨b3, 0, none⟩ = some x3 ∧ W'.cell? ⟨b3, 1, none⟩ = some y3) ∧ (W'.cell? ⟨b4, 0, none⟩ = some x4 ∧ W'.cell? ⟨b4, 1, none⟩ = some y4) ∧ (W'.cell? ⟨b5, 0, none⟩ = some x5 ∧ W'.cell? ⟨b5, 1, none⟩ = some y5) :=
  ⟨below_next h.1 hq, h6 hq h.2⟩
theorem ab6 {w W : World} {b0 b1 b2 b3 b4 b5 : Nat} {x0 y0 x1 y1 x2 y2 x3 y3 x4 y4 x5 y5 : Value} {o : Obj} (h : Below w.heap.size w W ∧ (W.cell? ⟨b0, 0, none⟩ = some x0 ∧ W.cell? ⟨b0, 1, none⟩ = some y0) ∧ (W.cell? ⟨b1, 0, none⟩ = some x1 ∧ W.cell? ⟨b1, 1, none⟩ = some y1) ∧ (W.cell? ⟨b2, 0, none⟩ = some x2 ∧ W.cell? ⟨b2, 1, none⟩ = some y2) ∧ (W.cell? ⟨b3, 0, none⟩ = some x3 ∧ W.cell? ⟨b3, 1, none⟩ = some y3) ∧ (W.cell? ⟨b4, 0, none⟩ = some x4 ∧ W.cell? ⟨b4, 1, none⟩ = some y4) ∧ (W.cell? ⟨b5, 0, none⟩ = some x5 ∧ W.cell? ⟨b5, 1, none⟩ = some y5)) : Below w.heap.size w (W.alloc o) ∧ ((W.alloc o).cell? ⟨b0, 0, none⟩ = some x0 ∧ (W.alloc o).cell? ⟨b0, 1, none⟩ = some y0) ∧ ((W.alloc o).cell? ⟨b1, 0, none⟩ = some x1 ∧ (W.alloc o).cell? ⟨b1, 1, none⟩ = some y1) ∧ ((W.alloc o).cell? ⟨b2, 0, none⟩ = some x2 ∧ (W.alloc o).cell? ⟨b2, 1, none⟩ = some y2) ∧ ((W.alloc o).cell? ⟨b3, 0, none⟩ = some x3 ∧ (W.alloc o).cell? ⟨b3, 1, none⟩ = some y3) ∧ ((W.alloc o).cell? ⟨b4, 0, none⟩ = some x4 ∧ (W.alloc o).cell? ⟨b4, 1, none⟩ = some y4) ∧ ((W.alloc o).cell? ⟨b5, 0, none⟩ = some x5 ∧ (W.alloc o).cell? ⟨b5, 1, none⟩ = some y5) :=
  ⟨h.1.alloc h.1.size o, a6 h.2⟩
theorem hb7 {w W W' : World} {b0 b1 b2 b3 b4 b5 b6 : Nat} {x0 y0 x1 y1 x2 y2 x3 y3 x4 y4 x5 y5 x6 y6 : Value} (hq : Below W.heap.size W W') (h : Below w.heap.size w W ∧ (W.cell? ⟨b0, 0, none⟩ = some x0 ∧ W.cell? ⟨b0, 1, none⟩ = some y0) ∧ (W.cell? ⟨b1, 0, none⟩ = some x1 ∧ W.cell? ⟨b1, 1, none⟩ = some y1) ∧ (W.cell? ⟨b2, 0, none⟩ = some x2 ∧ W.cell? ⟨b2, 1, none⟩ = some y2) ∧ (W.cell? ⟨b3, 0, none⟩ = some x3 ∧ W.cell? ⟨b3, 1, none⟩ = some y3) ∧ (W.cell? ⟨b4, 0, none⟩ = some x4 ∧ W.cell? ⟨b4, 1, none⟩ = some y4) ∧ (W.cell? ⟨b5, 0, none⟩ = some x5 ∧ W.cell? ⟨b5, 1, none⟩ = some y5) ∧ (W.cell? ⟨b6, 0, none⟩ = some x6 ∧ W.cell? ⟨b6, 1, none⟩ = some y6)) : Below w.heap.size w W' ∧ (W'.cell? ⟨b0, 0, none⟩ = some x0 ∧ W'.cell? ⟨b0, 1, none⟩ = some y0) ∧ (W'.cell? ⟨b1, 0, none⟩ = some x1 ∧ W'.cell? ⟨b1, 1, none⟩ = some y1) ∧ (W'.cell? ⟨b2, 0, none⟩ = some x2 ∧ W'.cell? ⟨b2, 1, none⟩ = some y2) ∧ (W'.cell? ⟨b3, 0, none⟩ = some x3 ∧ W'.cell? ⟨b3, 1, none⟩ = some y3) ∧ (W'.cell? ⟨b4, 0, none⟩ = some x4 ∧ W'.cell? ⟨b4, 1, none⟩ = some y4) ∧ (W'.cell? ⟨b5, 0, none⟩ = some x5 ∧ W'.cell? ⟨b5, 1, none⟩ = some y5) ∧ (W'.cell? ⟨b6, 0, none⟩ = some x6 ∧ W'.cell? ⟨b6, 1, none⟩ = some y6) :=
  ⟨below_next h.1 hq, h7 hq h.2⟩
theorem ab7 {w W : World} {b0 b1 b2 b3 b4 b5 b6 : Nat} {x0 y0 x1 y1 x2 y2 x3 y3 x4 y4 x5 y5 x6 y6 : Value} {o : Obj} (h : Below w.heap.size w W ∧ (W.cell? ⟨b0, 0, none⟩ = some x0 ∧ W.cell? ⟨b0, 1, none⟩ = some y0) ∧ (W.cell? ⟨b1, 0, none⟩ = some x1 ∧ W.cell? ⟨b1, 1, none⟩ = some y1) ∧ (W.cell? ⟨b2, 0, none⟩ = some x2 ∧ W.cell? ⟨b2, 1, none⟩ = some y2) ∧ (W.cell? ⟨b3, 0, none⟩ = some x3 ∧ W.cell? ⟨b3, 1, none⟩ = some y3) ∧ (W.cell? ⟨b4, 0, none⟩ = some x4 ∧ W.cell? ⟨b4, 1, none⟩ = some y4) ∧ (W.cell? ⟨b5, 0, none⟩ = some x5 ∧ W.cell? ⟨b5, 1, none⟩ = some y5) ∧ (W.cell? ⟨b6, 0, none⟩ = some x6 ∧ W.cell? ⟨b6, 1, none⟩ = some y6)) : Below w.heap.size w (W.alloc o) ∧ ((W.alloc o).cell? ⟨b0, 0, none⟩ = some x0 ∧ (W.alloc o).cell? ⟨b0, 1, none⟩ = some y0) ∧ ((W.alloc o).cell? ⟨b1, 0, none⟩ = some x1 ∧ (W.alloc o).cell? ⟨b1, 1, none⟩ = some y1) ∧ ((W.alloc o).cell? ⟨b2, 0, none⟩ = some x2 ∧ (W.alloc o).cell? ⟨b2, 1, none⟩ = some y2) ∧ ((W.alloc o).cell? ⟨b3, 0, none⟩ = some x3 ∧ (W.alloc o).cell? ⟨b3, 1, none⟩ = some y3) ∧ ((W.alloc o).cell? ⟨b4, 0, none⟩ = some x4 ∧ (W.alloc o).cell? ⟨b4, 1, none⟩ = some y4) ∧ ((W.alloc o).cell? ⟨b5, 0, none⟩ = some x5 ∧ (W.alloc o).cell? ⟨b5, 1, none⟩ = some y5) ∧ ((W.alloc o).cell? ⟨b6, 0, none⟩ = some x6 ∧ (W.alloc o).cell? ⟨b6, 1, none⟩ = some y6) :=
  ⟨h.1.alloc h.1.size o, a7 h.2⟩
theorem s1 {W : World} {b0 r : Nat} {x0 y0 u v : Value} (h : (W.cell? ⟨b0, 0, none⟩ = some x0 ∧ W.cell? ⟨b0, 1, none⟩ = some y0)) (hr : b0 ≠ r) : (((W.setCell ⟨r, 0, none⟩ u).setCell ⟨r, 1, none⟩ v).cell? ⟨b0, 0, none⟩ = some x0 ∧ ((W.setCell ⟨r, 0, none⟩ u).setCell ⟨r, 1, none⟩ v).cell? ⟨b0, 1, none⟩ = some y0) :=
  held_set2 h hr
theorem s2 {W : World} {b0 b1 r : Nat} {x0 y0 x1 y1 u v : Value} (h : (W.cell? ⟨b0, 0, none⟩ = some x0 ∧ W.cell? ⟨b0, 1, none⟩ = some y0) ∧ (W.cell? ⟨b1, 0, none⟩ = some x1 ∧ W.cell? ⟨b1, 1, none⟩ = some y1)) (hr : b0 ≠ r ∧ b1 ≠ r) : (((W.setCell ⟨r, 0, none⟩ u).setCell ⟨r, 1, none⟩ v).cell? ⟨b0, 0, none⟩ = some x0 ∧ ((W.setCell ⟨r, 0, none⟩ u).setCell ⟨r, 1, none⟩ v).cell? ⟨b0, 1, none⟩ = some y0) ∧ (((W.setCell ⟨r, 0, none⟩ u).setCell ⟨r, 1, none⟩ v).cell? ⟨b1, 0, none⟩ = some x1 ∧ ((W.setCell ⟨r, 0, none⟩ u).setCell ⟨r, 1, none⟩ v).cell? ⟨b1, 1, none⟩ = some y1) :=
  ⟨held_set2 h.1 hr.1, held_set2 h.2 hr.2⟩
theorem s3 {W : World} {b0 b1 b2 r : Nat} {x0 y0 x1 y1 x2 y2 u v : Value} (h : (W.cell? ⟨b0, 0, none⟩ = some x0 ∧ W.cell? ⟨b0, 1, none⟩ = some y0) ∧ (W.cell? ⟨b1, 0, none⟩ = some x1 ∧ W.cell? ⟨b1, 1, none⟩ = some y1) ∧ (W.cell? ⟨b2, 0, none⟩ = some x2 ∧ W.cell? ⟨b2, 1, none⟩ = some y2)) (hr : b0 ≠ r ∧ b1 ≠ r ∧ b2 ≠ r) : (((W.setCell ⟨r, 0, none⟩ u).setCell ⟨r, 1, none⟩ v).cell? ⟨b0, 0, none⟩ = some x0 ∧ ((W.setCell ⟨r, 0, none⟩ u).setCell ⟨r, 1, none⟩ v).cell? ⟨b0, 1, none⟩ = some y0) ∧ (((W.setCell ⟨r, 0, none⟩ u).setCell ⟨r, 1, none⟩ v).cell? ⟨b1, 0, none⟩ = some x1 ∧ ((W.setCell ⟨r, 0, none⟩ u).setCell ⟨r, 1, none⟩ v).cell? ⟨b1, 1, none⟩ = some y1) ∧ (((W.setCell ⟨r, 0, none⟩ u).setCell ⟨r, 1, none⟩ v).cell? ⟨b2, 0, none⟩ = some x2 ∧ ((W.setCell ⟨r, 0, none⟩ u).setCell ⟨r, 1, none⟩ v).cell? ⟨b2, 1, none⟩ = some y2) :=
  ⟨held_set2 h.1 hr.1, held_set2 h.2.1 hr.2.1, held_set2 h.2.2 hr.2.2⟩
theorem s4 {W : World} {b0 b1 b2 b3 r : Nat} {x0 y0 x1 y1 x2 y2 x3 y3 u v : Value} (h : (W.cell? ⟨b0, 0, none⟩ = some x0 ∧ W.cell? ⟨b0, 1, none⟩ = some y0) ∧ (W.cell? ⟨b1, 0, none⟩ = some x1 ∧ W.cell? ⟨b1, 1, none⟩ = some y1) ∧ (W.cell? ⟨b2, 0, none⟩ = some x2 ∧ W.cell? ⟨b2, 1, none⟩ = some y2) ∧ (W.cell? ⟨b3, 0, none⟩ = some x3 ∧ W.cell? ⟨b3, 1, none⟩ = some y3)) (hr : b0 ≠ r ∧ b1 ≠ r ∧ b2 ≠ r ∧ b3 ≠ r) : (((W.setCell ⟨r, 0, none⟩ u).setCell ⟨r, 1, none⟩ v).cell? ⟨b0, 0, none⟩ = some x0 ∧ ((W.setCell ⟨r, 0, none⟩ u).setCell ⟨r, 1, none⟩ v).cell? ⟨b0, 1, none⟩ = some y0) ∧ (((W.setCell ⟨r, 0, none⟩ u).setCell ⟨r, 1, none⟩ v).cell? ⟨b1, 0, none⟩ = some x1 ∧ ((W.setCell ⟨r, 0, none⟩ u).setCell ⟨r, 1, none⟩ v).cell? ⟨b1, 1, none⟩ = some y1) ∧ (((W.setCell ⟨r, 0, none⟩ u).setCell ⟨r, 1, none⟩ v).cell? ⟨b2, 0, none⟩ = some x2 ∧ ((W.setCell ⟨r, 0, none⟩ u).setCell ⟨r, 1, none⟩ v).cell? ⟨b2, 1, none⟩ = some y2) ∧ (((W.setCell ⟨r, 0, none⟩ u).setCell ⟨r, 1, none⟩ v).cell? ⟨b3, 0, none⟩ = some x3 ∧ ((W.setCell ⟨r, 0, none⟩ u).setCell ⟨r, 1, none⟩ v).cell? ⟨b3, 1, none⟩ = some y3) :=
  ⟨held_set2 h.1 hr.1, held_set2 h.2.1 hr.2.1, held_set2 h.2.2.1 hr.2.2.1, held_set2 h.2.2.2 hr.2.2.2⟩
theorem s5 {W : World} {b0 b1 b2 b3 b4 r : Nat} {x0 y0 x1 y1 x2 y2 x3 y3 x4 y4 u v : Value} (h : (W.cell? ⟨b0, 0, none⟩ = some x0 ∧ W.cell? ⟨b0, 1, none⟩ = some y0) ∧ (W.cell? ⟨b1, 0, none⟩ = some x1 ∧ W.cell? ⟨b1, 1, none⟩ = some y1) ∧ (W.cell? ⟨b2, 0, none⟩ = some x2 ∧ W.cell? ⟨b2, 1, none⟩ = some y2) ∧ (W.cell? ⟨b3, 0, none⟩ = some x3 ∧ W.cell? ⟨b3, 1, none⟩ = some y3) ∧ (W.cell? ⟨b4, 0, none⟩ = some x4 ∧ W.cell? ⟨b4, 1, none⟩ = some y4)) (hr : b0 ≠ r ∧ b1 ≠ r ∧ b2 ≠ r ∧ b3 ≠ r ∧ b4 ≠ r) : (((W.setCell ⟨r, 0, none⟩ u).setCell ⟨r, 1, none⟩ v).cell? ⟨b0, 0, none⟩ = some x0 ∧ ((W.setCell ⟨r, 0, none⟩ u).setCell ⟨r, 1, none⟩ v).cell? ⟨b0, 1, none⟩ = some y0) ∧ (((W.setCell ⟨r, 0, none⟩ u).setCell ⟨r, 1, none⟩ v).cell? ⟨b1, 0, none⟩ = some x1 ∧ ((W.setCell ⟨r, 0, none⟩ u).setCell ⟨r, 1, none⟩ v).cell? ⟨b1, 1, none⟩ = some y1) ∧ (((W.setCell ⟨r, 0, none⟩ u).setCell ⟨r, 1, none⟩ v).cell? ⟨b2, 0, none⟩ = some x2 ∧ ((W.setCell ⟨r, 0, none⟩ u).setCell ⟨r, 1, none⟩ v).cell? ⟨b2, 1, none⟩ = some y2) ∧ (((W.setCell ⟨r, 0, none⟩ u).setCell ⟨r, 1, none⟩ v).cell? ⟨b3, 0, none⟩ = some x3 ∧ ((W.setCell ⟨r, 0, none⟩ u).setCell ⟨r, 1, none⟩ v).cell? ⟨b3, 1, none⟩ = some y3) ∧ (((W.setCell ⟨r, 0, none⟩ u).setCell ⟨r, 1, none⟩ v).cell? ⟨b4, 0, none⟩ = some x4 ∧ ((W.setCell ⟨r, 0, none⟩ u).setCell ⟨r, 1, none⟩ v).cell? ⟨b4, 1, none⟩ = some y4) :=
  ⟨held_set2 h.1 hr.1, held_set2 h.2.1 hr.2.1, held_set2 h.2.2.1 hr.2.2.1, held_set2 h.2.2.2.1 hr.2.2.2.1, held_set2 h.2.2.2.2 hr.2.2.2.2⟩
theorem s6 {W : World} {b0 b1 b2 b3 b4 b5 r : Nat} {x0 y0 x1 y1 x2 y2 x3 y3 x4 y4 x5 y5 u v : Value} (h : (W.cell? ⟨b0, 0, none⟩ = some x0 ∧ W.cell? ⟨b0, 1, none⟩ = some y0) ∧ (W.cell? ⟨b1, 0, none⟩ = some x1 ∧ W.cell? ⟨b1, 1, none⟩ = some y1) ∧ (W.cell? ⟨b2, 0, none⟩ = some x2 ∧ W.cell? ⟨b2, 1, none⟩ = some y2) ∧ (W.cell? ⟨b3, 0, none⟩ = some x3 ∧ W.cell? ⟨b3, 1, none⟩ = some y3) ∧ (W.cell? ⟨b4, 0, none⟩ = some x4 ∧ W.cell? ⟨b4, 1, none⟩ = some y4) ∧ (W.cell? ⟨b5, 0, none⟩ = some x5 ∧ W.cell? ⟨b5, 1, none⟩ = some y5)) (hr : b0 ≠ r ∧ b1 ≠ r ∧ b2 ≠ r ∧ b3 ≠ r ∧ b4 ≠ r ∧ b5 ≠ r) : (((W.setCell ⟨r, 0, none⟩ u).setCell ⟨r, 1, none⟩ v).cell? ⟨b0, 0, none⟩ = some x0 ∧ ((W.setCell ⟨r, 0, none⟩ u).setCell ⟨r, 1, none⟩ v).cell? ⟨b0, 1, none⟩ = some y0) ∧ (((W.setCell ⟨r, 0, none⟩ u).setCell ⟨r, 1, none⟩ v).cell? ⟨b1, 0, none⟩ = some x1 ∧ ((W.setCell ⟨r, 0, none⟩ u).setCell ⟨r, 1, none⟩ v).cell? ⟨b1, 1, none⟩ = some y1) ∧ (((W.setCell ⟨r, 0, none⟩ u).setCell ⟨r, 1, none⟩ v).cell? ⟨b2, 0, none⟩ = some x2 ∧ ((W.setCell ⟨r, 0, none⟩ u).setCell ⟨r, 1, none⟩ v).cell? ⟨b2, 1, none⟩ = some y2) ∧ (((W.setCell ⟨r, 0, none⟩ u).setCell ⟨r, 1, none⟩ v).cell? ⟨b3, 0, none⟩ = some x3 ∧ ((W.setCell ⟨r, 0, none⟩ u).setCell ⟨r, 1, none⟩ v).cell? ⟨b3, 1, none⟩ = some y3) ∧ (((W.setCell ⟨r, 0, none⟩ u).setCell ⟨r, 1, none⟩ v).cell? ⟨b4, 0, none⟩ = some x4 ∧ ((W.setCell ⟨r, 0, none⟩ u).setCell ⟨r, 1, none⟩ v).cell? ⟨b4, 1, none⟩ = some y4) ∧ (((W.setCell ⟨r, 0, none⟩ u).setCell ⟨r, 1, none⟩ v).cell? ⟨b5, 0, none⟩ = some x5 ∧ ((W.setCell ⟨r, 0, none⟩ u).setCell ⟨r, 1, none⟩ v).cell? ⟨b5, 1, none⟩ = some y5) :=
  ⟨held_set2 h.1 hr.1, held_set2 h.2.1 hr.2.1, held_set2 h.2.2.1 hr.2.2.1, held_set2 h.2.2.2.1 hr.2.2.2.1, held_set2 h.2.2.2.2.1 hr.2.2.2.2.1, held_set2 h.2.2.2.2.2 hr.2.2.2.2.2⟩
theorem s7 {W : World} {b0 b1 b2 b3 b4 b5 b6 r : Nat} {x0 y0 x1 y1 x2 y2 x3 y3 x4 y4 x5 y5 x6 y6 u v : Value} (h : (W.cell? ⟨b0, 0, none⟩ = some x0 ∧ W.cell? ⟨b0, 1, none⟩ = some y0) ∧ (W.cell? ⟨b1, 0, none⟩ = some x1 ∧ W.cell? ⟨b1, 1, none⟩ = some y1) ∧ (W.cell? ⟨b2, 0, none⟩ = some x2 ∧ W.cell? ⟨b2, 1, none⟩ = some y2) ∧ (W.cell? ⟨b3, 0, none⟩ = some x3 ∧ W.cell? ⟨b3, 1, none⟩ = some y3) ∧ (W.cell? ⟨b4, 0, none⟩ = some x4 ∧ W.cell? ⟨b4, 1, none⟩ = some y4) ∧ (W.cell? ⟨b5, 0, none⟩ = some x5 ∧ W.cell? ⟨b5, 1, none⟩ = some y5) ∧ (W.cell? ⟨b6, 0, none⟩ = some x6 ∧ W.cell? ⟨b6, 1, none⟩ = some y6)) (hr : b0 ≠ r ∧ b1 ≠ r ∧ b2 ≠ r ∧ b3 ≠ r ∧ b4 ≠ r ∧ b5 ≠ r ∧ b6 ≠ r) : (((W.setCell ⟨r, 0, none⟩ u).setCell ⟨r, 1, none⟩ v).cell? ⟨b0, 0, none⟩ = some x0 ∧ ((W.setCell ⟨r, 0, none⟩ u).setCell ⟨r, 1, none⟩ v).cell? ⟨b0, 1, none⟩ = some y0) ∧ (((W.setCell ⟨r, 0, none⟩ u).setCell ⟨r, 1, none⟩ v).cell? ⟨b1, 0, none⟩ = some x1 ∧ ((W.setCell ⟨r, 0, none⟩ u).setCell ⟨r, 1, none⟩ v).cell? ⟨b1, 1, none⟩ = some y1) ∧ (((W.setCell ⟨r, 0, none⟩ u).setCell ⟨r, 1, none⟩ v).cell? ⟨b2, 0, none⟩ = some x2 ∧ ((W.setCell ⟨r, 0, none⟩ u).setCell ⟨r, 1, none⟩ v).cell? ⟨b2, 1, none⟩ = some y2) ∧ (((W.setCell ⟨r, 0, none⟩ u).setCell ⟨r, 1, none⟩ v).cell? ⟨b3, 0, none⟩ = some x3 ∧ ((W.setCell ⟨r, 0, none⟩ u).setCell ⟨r, 1, none⟩ v).cell? ⟨b3, 1, none⟩ = some y3) ∧ (((W.setCell ⟨r, 0, none⟩ u).setCell ⟨r, 1, none⟩ v).cell? ⟨b4, 0, none⟩ = some x4 ∧ ((W.setCell ⟨r, 0, none⟩ u).setCell ⟨r, 1, none⟩ v).cell? ⟨b4, 1, none⟩ = some y4) ∧ (((W.setCell ⟨r, 0, none⟩ u).setCell ⟨r, 1, none⟩ v).cell? ⟨b5, 0, none⟩ = some x5 ∧ ((W.setCell ⟨r, 0, none⟩ u).setCell ⟨r, 1, none⟩ v).cell? ⟨b5, 1, none⟩ = some y5) ∧ (((W.setCell ⟨r, 0, none⟩ u).setCell ⟨r, 1, none⟩ v).cell? ⟨b6, 0, none⟩ = some x6 ∧ ((W.setCell ⟨r, 0, none⟩ u).setCell ⟨r, 1, none⟩ v).cell? ⟨b6, 1, none⟩ = some y6) :=
  ⟨held_set2 h.1 hr.1, held_set2 h.2.1 hr.2.1, held_set2 h.2.2.1 hr.2.2.1, held_set2 h.2.2.2.1 hr.2.2.2.1, held_set2 h.2.2.2.2.1 hr.2.2.2.2.1, held_set2 h.2.2.2.2.2.1 hr.2.2.2.2.2.1, held_set2 h.2.2.2.2.2.2 hr.2.2.2.2.2.2⟩
theorem cadd2 (w : World) (m n : Bool) (s t : ByteArray) (hs : s.size ≤ 100000) (ht : t.size ≤ 100000) (z : Bool) (o : ByteArray) (hz : wf (wv m s + wv n t) = wi z o) :
    Calls Tryz.prog 84 #[.slice (some ⟨w.heap.size, 0, none⟩) 2 2] (w.alloc (.cells #[.bool m, .string s, .bool n, .string t] 23)) (Ret (.agg #[.bool z, .string o]) (w.alloc (.cells #[.bool m, .string s, .bool n, .string t] 23))) :=
  wadd_any _ _ [(m, s), (n, t)] 2 2 rfl (by omega) (fun x h => by simp at h; rcases h with h | h <;> (rw [h]; assumption)) (IAt.new w _ _ _ rfl) z o (by rw [← hz]; congr 1; show wv m s + (wv n t + 0) = _; rw [Int.add_zero])
theorem cadd3 (w : World) (m n q : Bool) (s t u : ByteArray) (hs : s.size ≤ 100000) (ht : t.size ≤ 100000) (hu : u.size ≤ 100000) (z : Bool) (o : ByteArray) (hz : wf (wv m s + wv n t + wv q u) = wi z o) :
    Calls Tryz.prog 84 #[.slice (some ⟨w.heap.size, 0, none⟩) 3 3] (w.alloc (.cells #[.bool m, .string s, .bool n, .string t, .bool q, .string u] 23)) (Ret (.agg #[.bool z, .string o]) (w.alloc (.cells #[.bool m, .string s, .bool n, .string t, .bool q, .string u] 23))) :=
  wadd_any _ _ [(m, s), (n, t), (q, u)] 3 3 rfl (by omega) (fun x h => by simp at h; rcases h with h | h | h <;> (rw [h]; assumption)) (IAt.new w _ _ _ rfl) z o (by rw [← hz]; congr 1; show wv m s + (wv n t + (wv q u + 0)) = _; rw [Int.add_zero, Int.add_assoc])
theorem cmul2 (w : World) (m n : Bool) (s t : ByteArray) (hs : s.size ≤ 100000) (ht : t.size ≤ 100000) (z : Bool) (o : ByteArray) (hz : wf (wv m s * wv n t) = wi z o) :
    Calls Tryz.prog 89 #[.slice (some ⟨w.heap.size, 0, none⟩) 2 2] (w.alloc (.cells #[.bool m, .string s, .bool n, .string t] 23)) (Ret (.agg #[.bool z, .string o]) (w.alloc (.cells #[.bool m, .string s, .bool n, .string t] 23))) :=
  wmul_any _ w.heap.size 0 [(m, s), (n, t)] 2 2 rfl (by omega) (by omega) (by omega) (fun x h => by simp at h; rcases h with h | h <;> (rw [h]; assumption)) (IAt.new w _ _ _ rfl) z o (by rw [← hz]; congr 1; show (1 * wv m s) * wv n t = _; rw [Int.one_mul])
theorem cmul3 (w : World) (m n q : Bool) (s t u : ByteArray) (hs : s.size ≤ 100000) (ht : t.size ≤ 100000) (hu : u.size ≤ 100000) (z : Bool) (o : ByteArray) (hz : wf (wv m s * wv n t * wv q u) = wi z o) :
    Calls Tryz.prog 89 #[.slice (some ⟨w.heap.size, 0, none⟩) 3 3] (w.alloc (.cells #[.bool m, .string s, .bool n, .string t, .bool q, .string u] 23)) (Ret (.agg #[.bool z, .string o]) (w.alloc (.cells #[.bool m, .string s, .bool n, .string t, .bool q, .string u] 23))) :=
  wmul_any _ w.heap.size 0 [(m, s), (n, t), (q, u)] 3 3 rfl (by omega) (by omega) (by omega) (fun x h => by simp at h; rcases h with h | h | h <;> (rw [h]; assumption)) (IAt.new w _ _ _ rfl) z o (by rw [← hz]; congr 1; show (1 * wv m s) * wv n t * wv q u = _; rw [Int.one_mul])
theorem vadd2 (w : World) (g : Nat) (m n : Bool) (s t : ByteArray) (hs : s.size ≤ 100000) (ht : t.size ≤ 100000) (hI : IAt w (some ⟨g, 0, none⟩) [(m, s), (n, t)]) (z : Bool) (o : ByteArray) (hz : wf (wv m s + wv n t) = wi z o) :
    Calls Tryz.prog 84 #[.slice (some ⟨g, 0, none⟩) 2 2] w (Ret (.agg #[.bool z, .string o]) w) :=
  wadd_any _ _ [(m, s), (n, t)] 2 2 rfl (by omega) (fun x h => by simp at h; rcases h with h | h <;> (rw [h]; assumption)) hI z o (by rw [← hz]; congr 1; show wv m s + (wv n t + 0) = _; rw [Int.add_zero])
theorem vadd3 (w : World) (g : Nat) (m n q : Bool) (s t u : ByteArray) (hs : s.size ≤ 100000) (ht : t.size ≤ 100000) (hu : u.size ≤ 100000) (hI : IAt w (some ⟨g, 0, none⟩) [(m, s), (n, t), (q, u)]) (z : Bool) (o : ByteArray) (hz : wf (wv m s + wv n t + wv q u) = wi z o) :
    Calls Tryz.prog 84 #[.slice (some ⟨g, 0, none⟩) 3 3] w (Ret (.agg #[.bool z, .string o]) w) :=
  wadd_any _ _ [(m, s), (n, t), (q, u)] 3 3 rfl (by omega) (fun x h => by simp at h; rcases h with h | h | h <;> (rw [h]; assumption)) hI z o (by rw [← hz]; congr 1; show wv m s + (wv n t + (wv q u + 0)) = _; rw [Int.add_zero, Int.add_assoc])
theorem vmul2 (w : World) (g : Nat) (m n : Bool) (s t : ByteArray) (hs : s.size ≤ 100000) (ht : t.size ≤ 100000) (hI : IAt w (some ⟨g, 0, none⟩) [(m, s), (n, t)]) (z : Bool) (o : ByteArray) (hz : wf (wv m s * wv n t) = wi z o) :
    Calls Tryz.prog 89 #[.slice (some ⟨g, 0, none⟩) 2 2] w (Ret (.agg #[.bool z, .string o]) w) :=
  wmul_any _ _ 0 [(m, s), (n, t)] 2 2 rfl (by omega) (by omega) (by omega) (fun x h => by simp at h; rcases h with h | h <;> (rw [h]; assumption)) hI z o (by rw [← hz]; congr 1; show (1 * wv m s) * wv n t = _; rw [Int.one_mul])
theorem vmul3 (w : World) (g : Nat) (m n q : Bool) (s t u : ByteArray) (hs : s.size ≤ 100000) (ht : t.size ≤ 100000) (hu : u.size ≤ 100000) (hI : IAt w (some ⟨g, 0, none⟩) [(m, s), (n, t), (q, u)]) (z : Bool) (o : ByteArray) (hz : wf (wv m s * wv n t * wv q u) = wi z o) :
    Calls Tryz.prog 89 #[.slice (some ⟨g, 0, none⟩) 3 3] w (Ret (.agg #[.bool z, .string o]) w) :=
  wmul_any _ _ 0 [(m, s), (n, t), (q, u)] 3 3 rfl (by omega) (by omega) (by omega) (fun x h => by simp at h; rcases h with h | h | h <;> (rw [h]; assumption)) hI z o (by rw [← hz]; congr 1; show (1 * wv m s) * wv n t * wv q u = _; rw [Int.one_mul])
end Go.Proofs.YtmipcelnmmjplaaGreatDoor
/- Package whole: Div, walked. -/
namespace Go.Proofs.YtmipcelnmmjplaaGreatDoor
open Go.RowKit Go.Shelf

theorem divV_zero {A B : Nat} (h : B = 0) : divV A B = .tuple #[.string ⟨#[]⟩, .string ⟨#[]⟩, .bool false] := by unfold divV; rw [if_pos h, fb_zero]
theorem divV_some {A B : Nat} (h : B ≠ 0) : divV A B = .tuple #[.string (fb (A / B)), .string (fb (A % B)), .bool true] := by unfold divV; rw [if_neg h]
theorem sI_zero_iff {n : Bool} {m : Nat} : sI n m = 0 ↔ m = 0 := by cases n <;> simp [sI]
/-- Div's three answers. -/
def W3 (a : Bool) (s : ByteArray) (b : Bool) (t : ByteArray) (ok : Bool) : Value := .tuple #[wi a s, wi b t, .bool ok]

set_option maxRecDepth 100000 in
set_option maxHeartbeats 400000 in
theorem wdiv_none (w : World) (m n : Bool) (s t : ByteArray) (hs : s.size ≤ 100000) (ht : t.size ≤ 100000) (h0 : wv n t = 0) :
    Calls Tryz.prog 155 #[wi m s, wi n t] w (Ret (.tuple #[.agg #[.bool false, .string ⟨#[]⟩], .agg #[.bool false, .string ⟨#[]⟩], .bool false]) w) := by
  have hd := divV_zero (A := num s) (sI_zero_iff.1 ((wv_sI n t).symm.trans h0))
  have HD := Lib.hid hd; clear hd h0
  unfold wi
  go_enter Tryz.func155, Tryz.ntmps155
  go_wp2_with fail
  obtain ⟨hA, hB, hC, hD, hb⟩ := blocks4 w #[Value.bool m, Value.string s] #[Value.bool n, Value.string t] #[Value.bool false, Value.string { data := #[] }] #[Value.bool false, Value.string { data := #[] }]
  generalize ((((w.alloc (Obj.cells #[Value.bool m, Value.string s] 23)).alloc (Obj.cells #[Value.bool n, Value.string t] 23)).alloc (Obj.cells #[Value.bool false, Value.string { data := #[] }] 23)).alloc (Obj.cells #[Value.bool false, Value.string { data := #[] }] 23)) = W0 at *
  refine (use_div _ s t _ (by omega) (by omega) HD.out).mono ?_
  rintro e W1 ⟨rfl, hq⟩
  replace hb := below_next hb hq
  replace hA := hA.below hq
  replace hB := hB.below hq
  replace hC := hC.below hq
  replace hD := hD.below hq
  obtain ⟨hC0, hC1, hC2, hC3⟩ := hC.facts
  obtain ⟨hD0, hD1, hD2, hD3⟩ := hD.facts
  clear hq
  go_wp2
  obtain ⟨k1, k2⟩ := two_set hC hD (by omega) _ _ _ _
  exact ret_two rfl rfl rfl rfl k1 k2 ⟨rfl, below_set4 hb (by omega) (by omega) _ _ _ _⟩

set_option maxRecDepth 100000 in
set_option maxHeartbeats 400000 in
theorem wdiv_plain (w : World) (m n : Bool) (s t : ByteArray) (hs : s.size ≤ 100000) (ht : t.size ≤ 100000) (h0 : num t ≠ 0) (h1 : m = true → num s % num t = 0)
    (z1 : Bool) (o1 : ByteArray) (hz1 : wf (wv m s / wv n t) = wi z1 o1) (z2 : Bool) (o2 : ByteArray) (hz2 : wf (wv m s % wv n t) = wi z2 o2) :
    Calls Tryz.prog 155 #[wi m s, wi n t] w (Ret (.tuple #[.agg #[.bool z1, .string o1], .agg #[.bool z2, .string o2], .bool true]) w) := by
  obtain ⟨e1, e2⟩ := sI_div_plain m n (num s) (num t) (by omega) h1
  rw [wv_sI, wv_sI] at hz1 hz2
  rw [e1] at hz1
  rw [e2, wf_nat] at hz2
  obtain ⟨hz3, hz4⟩ := wi_inj hz2
  have hem := fb_empty (num s % num t)
  rw [hz4] at hem
  subst hz3
  have hm : m = true → o2.toList.isEmpty = true := fun h => by rw [hem, decide_eq_true (h1 h)]
  have hd := divV_some (A := num s) h0
  rw [hz4] at hd
  have HD := Lib.hid hd
  have HZ := Lib.hid hz1
  clear hd hz1 hz2 hz4 hem e1 e2 h1
  unfold wi
  go_enter Tryz.func155, Tryz.ntmps155
  go_wp2_with fail
  obtain ⟨hA, hB, hC, hD, hb⟩ := blocks4 w #[Value.bool m, Value.string s] #[Value.bool n, Value.string t] #[Value.bool false, Value.string { data := #[] }] #[Value.bool false, Value.string { data := #[] }]
  generalize ((((w.alloc (Obj.cells #[Value.bool m, Value.string s] 23)).alloc (Obj.cells #[Value.bool n, Value.string t] 23)).alloc (Obj.cells #[Value.bool false, Value.string { data := #[] }] 23)).alloc (Obj.cells #[Value.bool false, Value.string { data := #[] }] 23)) = W0 at *
  refine (use_div _ s t _ (by omega) (by omega) HD.out).mono ?_
  rintro e W1 ⟨rfl, hq⟩
  replace hb := below_next hb hq
  replace hA := hA.below hq
  replace hB := hB.below hq
  replace hC := hC.below hq
  replace hD := hD.below hq
  obtain ⟨hA0, hA1⟩ := hA.cells
  obtain ⟨hB0, hB1⟩ := hB.cells
  clear hq
  cases m
  · clear hm
    rw [show (false != n) = n by cases n <;> rfl] at HZ
    go_wp2_with fail
    refine (signed_any _ n _ (num s / num t) z1 o1 rfl HZ.out).mono ?_
    rintro e W2 ⟨rfl, hq⟩
    replace hb := below_next hb hq
    replace hC := hC.below hq
    replace hD := hD.below hq
    clear hA0 hA1 hB0 hB1 hA hB
    obtain ⟨hC0, hC1, hC2, hC3⟩ := hC.facts
    obtain ⟨hD0, hD1, hD2, hD3⟩ := hD.facts
    clear hq
    go_wp2
    obtain ⟨k1, k2⟩ := two_set hC hD (by omega) _ _ _ _
    exact ret_two rfl rfl rfl rfl k1 k2 ⟨rfl, below_set4 hb (by omega) (by omega) _ _ _ _⟩
  · have hm := hm rfl
    rw [show (true != n) = !n by cases n <;> rfl] at HZ
    go_wp2_with fail
    refine (signed_any _ (!n) _ (num s / num t) z1 o1 rfl HZ.out).mono ?_
    rintro e W2 ⟨rfl, hq⟩
    replace hb := below_next hb hq
    replace hC := hC.below hq
    replace hD := hD.below hq
    clear hA0 hA1 hB0 hB1 hA hB
    obtain ⟨hC0, hC1, hC2, hC3⟩ := hC.facts
    obtain ⟨hD0, hD1, hD2, hD3⟩ := hD.facts
    clear hq
    go_wp2
    obtain ⟨k1, k2⟩ := two_set hC hD (by omega) _ _ _ _
    exact ret_two rfl rfl rfl rfl k1 k2 ⟨rfl, below_set4 hb (by omega) (by omega) _ _ _ _⟩

set_option maxRecDepth 100000 in
set_option maxHeartbeats 400000 in
theorem wdiv_next (w : World) (n : Bool) (s t : ByteArray) (hs : s.size ≤ 100000) (ht : t.size ≤ 100000) (h0 : num t ≠ 0) (h1 : num s % num t ≠ 0)
    (z1 : Bool) (o1 : ByteArray) (hz1 : wf (wv true s / wv n t) = wi z1 o1) (z2 : Bool) (o2 : ByteArray) (hz2 : wf (wv true s % wv n t) = wi z2 o2) :
    Calls Tryz.prog 155 #[wi true s, wi n t] w (Ret (.tuple #[.agg #[.bool z1, .string o1], .agg #[.bool z2, .string o2], .bool true]) w) := by
  obtain ⟨e1, e2⟩ := sI_div_next n (num s) (num t) (by omega) h1
  rw [wv_sI, wv_sI] at hz1 hz2
  rw [e1] at hz1
  rw [e2, wf_nat] at hz2
  obtain ⟨hz3, hz4⟩ := wi_inj hz2
  have hem := fb_empty (num s % num t)
  rw [decide_eq_false h1] at hem
  subst hz3
  have hd := divV_some (A := num s) h0
  have hlt := Nat.mod_lt (num s) (Nat.pos_of_ne_zero h0)
  have hle := Nat.div_le_self (num s) (num t)
  obtain ⟨Q, hQ, nQ, sQ⟩ := nm (Nat.lt_of_le_of_lt hle (num_lt s))
  obtain ⟨R, hR, nR, sR⟩ := nm (Nat.lt_trans hlt (num_lt t))
  rw [hQ, hR] at hd
  rw [hR] at hem
  have hn : fb (num Q + 1) = fb (num s / num t + 1) := by rw [nQ]
  have hsub : fb (num t - num R) = o2 := by rw [nR]; exact hz4
  have hok : decide (num R ≤ num t) = true := by rw [nR]; simp; omega
  rw [show (true != n) = !n by cases n <;> rfl] at hz1
  have HD := Lib.hid hd
  have HZ := Lib.hid hz1
  have HN := Lib.hid (And.intro hn (And.intro hsub hok))
  clear hd hz1 hz2 hz4 e1 e2 h1 hn hsub hok hlt hle hQ hR nQ nR
  unfold wi
  go_enter Tryz.func155, Tryz.ntmps155
  go_wp2_with fail
  obtain ⟨hA, hB, hC, hD, hb⟩ := blocks4 w #[Value.bool true, Value.string s] #[Value.bool n, Value.string t] #[Value.bool false, Value.string { data := #[] }] #[Value.bool false, Value.string { data := #[] }]
  generalize ((((w.alloc (Obj.cells #[Value.bool true, Value.string s] 23)).alloc (Obj.cells #[Value.bool n, Value.string t] 23)).alloc (Obj.cells #[Value.bool false, Value.string { data := #[] }] 23)).alloc (Obj.cells #[Value.bool false, Value.string { data := #[] }] 23)) = W0 at *
  refine (use_div _ s t _ (by omega) (by omega) HD.out).mono ?_
  rintro e W1 ⟨rfl, hq⟩
  replace hb := below_next hb hq
  replace hA := hA.below hq
  replace hB := hB.below hq
  replace hC := hC.below hq
  replace hD := hD.below hq
  obtain ⟨hA0, hA1⟩ := hA.cells
  obtain ⟨hB0, hB1⟩ := hB.cells
  clear hq
  go_wp2_with fail
  refine (next_any _ Q (by omega) _ HN.out.1).mono ?_
  rintro e W2 ⟨rfl, hq⟩
  replace hb := below_next hb hq
  replace hA := hA.below hq
  replace hB := hB.below hq
  replace hC := hC.below hq
  replace hD := hD.below hq
  clear hA0 hA1 hB0 hB1
  obtain ⟨hA0, hA1⟩ := hA.cells
  obtain ⟨hB0, hB1⟩ := hB.cells
  clear hq
  go_wp2_with fail
  refine (use_sub _ t R o2 true (by omega) (by omega) HN.out.2.1 HN.out.2.2).mono ?_
  rintro e W3 ⟨rfl, hq⟩
  replace hb := below_next hb hq
  replace hA := hA.below hq
  replace hB := hB.below hq
  replace hC := hC.below hq
  replace hD := hD.below hq
  clear hA0 hA1 hB0 hB1
  obtain ⟨hA0, hA1⟩ := hA.cells
  obtain ⟨hB0, hB1⟩ := hB.cells
  clear hq
  go_wp2_with fail
  refine (signed_any _ (!n) _ (num s / num t + 1) z1 o1 rfl HZ.out).mono ?_
  rintro e W2 ⟨rfl, hq⟩
  replace hb := below_next hb hq
  replace hC := hC.below hq
  replace hD := hD.below hq
  clear hA0 hA1 hB0 hB1 hA hB
  obtain ⟨hC0, hC1, hC2, hC3⟩ := hC.facts
  obtain ⟨hD0, hD1, hD2, hD3⟩ := hD.facts
  clear hq
  go_wp2
  obtain ⟨k1, k2⟩ := two_set hC hD (by omega) _ _ _ _
  exact ret_two rfl rfl rfl rfl k1 k2 ⟨rfl, below_set4 hb (by omega) (by omega) _ _ _ _⟩

/-- Div, whatever the divisor but 0. -/
theorem wdiv_any (w : World) (m n : Bool) (s t : ByteArray) (hs : s.size ≤ 100000) (ht : t.size ≤ 100000) (h0 : wv n t ≠ 0)
    (z1 : Bool) (o1 : ByteArray) (hz1 : wf (wv m s / wv n t) = wi z1 o1) (z2 : Bool) (o2 : ByteArray) (hz2 : wf (wv m s % wv n t) = wi z2 o2) :
    Calls Tryz.prog 155 #[wi m s, wi n t] w (Ret (.tuple #[.agg #[.bool z1, .string o1], .agg #[.bool z2, .string o2], .bool true]) w) := by
  have h0' : num t ≠ 0 := fun h => h0 ((wv_sI n t).trans (sI_zero_iff.2 h))
  by_cases h : m = true → num s % num t = 0
  · exact wdiv_plain w m n s t hs ht h0' h z1 o1 hz1 z2 o2 hz2
  · cases m
    · exact absurd (fun h => by cases h) h
    · exact wdiv_next w n s t hs ht h0' (fun h' => h fun _ => h') z1 o1 hz1 z2 o2 hz2
end Go.Proofs.YtmipcelnmmjplaaGreatDoor
/- Package whole: Shift, walked. -/
namespace Go.Proofs.YtmipcelnmmjplaaGreatDoor
open Go.RowKit Go.Shelf

theorem sI_shl (n : Bool) (m j : Nat) : sI n m * ((2 ^ j : Nat) : Int) = sI n (m * 2 ^ j) := by
  cases n
  · simp only [sI, Bool.false_eq_true, if_false, Int.natCast_mul]
  · simp only [sI, if_true, Int.natCast_mul, Int.neg_mul]

set_option maxRecDepth 100000 in
set_option maxHeartbeats 400000 in
theorem wshift_up (w : World) (n : Bool) (s : ByteArray) (k : Nat) (hs : s.size ≤ 100000000) (hk : k ≤ 1000000) (z : Bool) (o : ByteArray) (hz : wf (wv n s * ((2 ^ k : Nat) : Int)) = wi z o) :
    Calls Tryz.prog 139 #[wi n s, .int .i64 k] w (Ret (.agg #[.bool z, .string o]) w) := by
  rw [wv_sI, sI_shl] at hz
  have HZ := Lib.hid hz; clear hz
  have hsh : fb (shlN (num s) (k : Int)) = fb (num s * 2 ^ k) := by rw [shl_nat]
  have HS := Lib.hid hsh; clear hsh
  unfold wi
  go_enter Tryz.func139, Tryz.ntmps139
  go_wp2_with fail
  obtain ⟨hA, hC, hb⟩ := blocks2 w #[Value.bool n, Value.string s] #[Value.bool false, Value.string { data := #[] }]
  generalize ((w.alloc (Obj.cells #[Value.bool n, Value.string s] 23)).alloc (Obj.cells #[Value.bool false, Value.string { data := #[] }] 23)) = W0 at *
  replace hC := hC.drew
  replace hb := hb.drew
  have hin := hA.drew.cells
  clear hA
  go_region_held3 (fun w' => w'.cell? ⟨w.heap.size, 0, none⟩ = some (.bool n) ∧ w'.cell? ⟨w.heap.size, 1, none⟩ = some (.string s))
    (first | assumption | exact held (by assumption) (by assumption) | exact held_set2 (by assumption) (by omega) | exact held_alloc (by assumption))
    (first
     | (go_at_call 182; refine (use_shl _ s _ _ hs (by omega) HS.out).mono ?_; rintro e W1 ⟨rfl, hq⟩; replace hb := below_next hb hq; replace hC := hC.below hq)
     | (go_at_call 151; refine (signed_any _ n _ (num s * 2 ^ k) z o rfl HZ.out).mono ?_; rintro e W2 ⟨rfl, hq⟩; replace hb := below_next hb hq; replace hC := hC.below hq; obtain ⟨hC0, hC1, hC2, hC3⟩ := hC.facts))
  go_wp2
  exact ret_whole rfl rfl (hC.set_ _ _) ⟨rfl, below_set2 hb (by omega) _ _ _ _⟩

set_option maxRecDepth 100000 in
set_option maxHeartbeats 400000 in
theorem wshift_down (w : World) (n : Bool) (s : ByteArray) (k : Int) (j : Nat) (hs : s.size ≤ 100000000) (hk : k < 0) (hk2 : -9223372036854775808 ≤ k) (hj : -max k (-9223372036854775807) = (j : Int)) (hm : n = true → num s % 2 ^ j = 0) (z : Bool) (o : ByteArray) (hz : wf (wv n s / ((2 ^ j : Nat) : Int)) = wi z o) :
    Calls Tryz.prog 139 #[wi n s, .int .i64 k] w (Ret (.agg #[.bool z, .string o]) w) := by
  rw [wv_sI, sI_shr n (num s) j hm] at hz
  obtain ⟨g, hg⟩ : ∃ g, sg (wv n s) = g := ⟨_, rfl⟩
  have hg2 : 0 ≤ g ∨ (g = -1 ∧ j ≤ tz (num s)) := by
    rw [← hg]
    rcases sg_cases (wv n s) with ⟨_, h⟩ | ⟨h, h'⟩ | ⟨_, h⟩
    · left; omega
    · right
      refine ⟨h', ?_⟩
      cases n
      · rw [wv_false] at h; omega
      · rw [wv_true] at h
        have h2 := tz_lt_iff (A := num s) (k := j) (by omega)
        have h3 := hm rfl
        rcases Nat.lt_or_ge (tz (num s)) j with h4 | h4
        · exact absurd h3 (h2.1 h4)
        · exact h4
    · left; omega
  have HG := Lib.hid hg; clear hg hm
  have HZ := Lib.hid hz; clear hz
  have hj2 : j ≤ 9223372036854775807 := by omega
  have hsr : fb (shrN (num s) (j : Int)) = fb (num s / 2 ^ j) := by rw [shr_nat]
  have HS := Lib.hid hsr; clear hsr
  unfold wi
  go_enter Tryz.func139, Tryz.ntmps139
  go_wp2_with fail
  obtain ⟨hA, hC, hb⟩ := blocks2 w #[Value.bool n, Value.string s] #[Value.bool false, Value.string { data := #[] }]
  generalize ((w.alloc (Obj.cells #[Value.bool n, Value.string s] 23)).alloc (Obj.cells #[Value.bool false, Value.string { data := #[] }] 23)) = W0 at *
  refine (use_shr _ s _ _ hs (by omega) HS.out).mono ?_
  rintro e W1 ⟨rfl, hq⟩
  replace hb := below_next hb hq
  replace hA := hA.below hq
  replace hC := hC.below hq
  obtain ⟨hA0, hA1⟩ := hA.cells
  clear hq
  clear hj
  go_wp2_with fail
  refine (wsign_any _ n s hs g HG.out).mono ?_
  rintro e W2 ⟨rfl, hq⟩
  replace hb := below_next hb hq
  replace hA := hA.below hq
  replace hC := hC.below hq
  clear hA0 hA1
  obtain ⟨hA0, hA1⟩ := hA.cells
  clear hq
  obtain ⟨y, hy⟩ : ∃ y : Nat, tz (num s) = y := ⟨_, rfl⟩
  rw [hy] at hg2
  have hy' : ((tz (num s) : Nat) : Int) = (y : Int) := by rw [hy]
  have HY := Lib.hid hy'; clear hy hy'
  rcases hg2 with hg2 | ⟨rfl, hg2⟩
  · go_wp2_with fail
    refine (signed_any _ n _ (num s / 2 ^ j) z o rfl HZ.out).mono ?_
    rintro e W4 ⟨rfl, hq⟩
    replace hb := below_next hb hq
    replace hC := hC.below hq
    obtain ⟨hC0, hC1, hC2, hC3⟩ := hC.facts
    clear hq
    go_wp2
    exact ret_whole rfl rfl (hC.set_ _ _) ⟨rfl, below_set2 hb (by omega) _ _ _ _⟩
  · go_wp2_with fail
    refine (use_zeros _ s _ hs HY.out).mono ?_
    rintro e W3 ⟨rfl, hq⟩
    replace hb := below_next hb hq
    replace hA := hA.below hq
    replace hC := hC.below hq
    clear hA0 hA1
    obtain ⟨hA0, hA1⟩ := hA.cells
    clear hq
    go_wp2_with fail
    refine (signed_any _ n _ (num s / 2 ^ j) z o rfl HZ.out).mono ?_
    rintro e W4 ⟨rfl, hq⟩
    replace hb := below_next hb hq
    replace hC := hC.below hq
    obtain ⟨hC0, hC1, hC2, hC3⟩ := hC.facts
    clear hq
    go_wp2
    exact ret_whole rfl rfl (hC.set_ _ _) ⟨rfl, below_set2 hb (by omega) _ _ _ _⟩

set_option maxRecDepth 100000 in
set_option maxHeartbeats 400000 in
theorem wshift_next (w : World) (s : ByteArray) (k : Int) (j : Nat) (hs : s.size ≤ 1000000) (hk : k < 0) (hk2 : -9223372036854775808 ≤ k) (hj : -max k (-9223372036854775807) = (j : Int)) (hm : num s % 2 ^ j ≠ 0) (z : Bool) (o : ByteArray) (hz : wf (wv true s / ((2 ^ j : Nat) : Int)) = wi z o) :
    Calls Tryz.prog 139 #[wi true s, .int .i64 k] w (Ret (.agg #[.bool z, .string o]) w) := by
  rw [wv_sI, sI_shr_next (num s) j hm] at hz
  have hpos : 0 < num s := by
    rcases Nat.eq_zero_or_pos (num s) with h | h
    · rw [h, Nat.zero_mod] at hm; exact absurd rfl hm
    · exact h
  have hg2 : tz (num s) < j := (tz_lt_iff hpos).2 hm
  have hg : sg (wv true s) = -1 := by unfold sg; rw [wv_true, if_neg (by omega), if_pos (by omega)]
  obtain ⟨Q, hQ, nQ, sQ⟩ := nm (Nat.lt_of_le_of_lt (Nat.div_le_self (num s) (2 ^ j)) (num_lt s))
  have hn : fb (num Q + 1) = fb (num s / 2 ^ j + 1) := by rw [nQ]
  have HN := Lib.hid hn; clear hn
  have HG := Lib.hid hg; clear hg hm hpos
  have HZ := Lib.hid hz; clear hz
  have hj2 : j ≤ 9223372036854775807 := by omega
  have hsr : fb (shrN (num s) (j : Int)) = Q := by rw [shr_nat, hQ]
  clear hQ nQ
  have HS := Lib.hid hsr; clear hsr
  unfold wi
  go_enter Tryz.func139, Tryz.ntmps139
  go_wp2_with fail
  obtain ⟨hA, hC, hb⟩ := blocks2 w #[Value.bool true, Value.string s] #[Value.bool false, Value.string { data := #[] }]
  generalize ((w.alloc (Obj.cells #[Value.bool true, Value.string s] 23)).alloc (Obj.cells #[Value.bool false, Value.string { data := #[] }] 23)) = W0 at *
  refine (use_shr _ s _ _ (by omega) (by omega) HS.out).mono ?_
  rintro e W1 ⟨rfl, hq⟩
  replace hb := below_next hb hq
  replace hA := hA.below hq
  replace hC := hC.below hq
  obtain ⟨hA0, hA1⟩ := hA.cells
  clear hq
  clear hj
  go_wp2_with fail
  refine (wsign_any _ true s (by omega) _ HG.out).mono ?_
  rintro e W2 ⟨rfl, hq⟩
  replace hb := below_next hb hq
  replace hA := hA.below hq
  replace hC := hC.below hq
  clear hA0 hA1
  obtain ⟨hA0, hA1⟩ := hA.cells
  clear hq
  obtain ⟨y, hy⟩ : ∃ y : Nat, tz (num s) = y := ⟨_, rfl⟩
  rw [hy] at hg2
  have hy' : ((tz (num s) : Nat) : Int) = (y : Int) := by rw [hy]
  have HY := Lib.hid hy'; clear hy hy'
  go_wp2_with fail
  refine (use_zeros _ s _ (by omega) HY.out).mono ?_
  rintro e W3 ⟨rfl, hq⟩
  replace hb := below_next hb hq
  replace hA := hA.below hq
  replace hC := hC.below hq
  clear hA0 hA1
  obtain ⟨hA0, hA1⟩ := hA.cells
  clear hq
  go_wp2_with fail
  refine (next_any _ Q (by omega) _ HN.out).mono ?_
  rintro e W5 ⟨rfl, hq⟩
  replace hb := below_next hb hq
  replace hA := hA.below hq
  replace hC := hC.below hq
  clear hA0 hA1
  obtain ⟨hA0, hA1⟩ := hA.cells
  clear hq
  go_wp2_with fail
  refine (signed_any _ true _ (num s / 2 ^ j + 1) z o rfl HZ.out).mono ?_
  rintro e W4 ⟨rfl, hq⟩
  replace hb := below_next hb hq
  replace hC := hC.below hq
  obtain ⟨hC0, hC1, hC2, hC3⟩ := hC.facts
  clear hq
  go_wp2
  exact ret_whole rfl rfl (hC.set_ _ _) ⟨rfl, below_set2 hb (by omega) _ _ _ _⟩
theorem ediv_far {z : Int} {K a b : Nat} (h : z.natAbs < 2 ^ K) (ha : K ≤ a) (hb : K ≤ b) : z / ((2 ^ a : Nat) : Int) = z / ((2 ^ b : Nat) : Int) := by
  rw [ediv_small (Nat.lt_of_lt_of_le h (Nat.pow_le_pow_right (by omega) ha)), ediv_small (Nat.lt_of_lt_of_le h (Nat.pow_le_pow_right (by omega) hb))]
/-- Shift, whatever the sign and the number. -/
theorem wshift_any (w : World) (n : Bool) (s : ByteArray) (k : Int) (hs : s.size ≤ 1000000) (hk1 : -9223372036854775808 ≤ k) (hk2 : k ≤ 1000000) (z : Bool) (o : ByteArray) (hz : wf (shiftI (wv n s) k) = wi z o) :
    Calls Tryz.prog 139 #[wi n s, .int .i64 k] w (Ret (.agg #[.bool z, .string o]) w) := by
  unfold shiftI at hz
  by_cases h : 0 ≤ k
  · rw [if_pos h] at hz
    obtain ⟨m, rfl⟩ : ∃ m : Nat, k = (m : Int) := ⟨k.toNat, by omega⟩
    rw [Int.toNat_natCast] at hz
    exact wshift_up w n s m (by omega) (by omega) z o hz
  · rw [if_neg h] at hz
    obtain ⟨j, hj⟩ : ∃ j : Nat, -max k (-9223372036854775807) = (j : Int) := ⟨(-max k (-9223372036854775807)).toNat, by omega⟩
    have hz2 : wf (wv n s / ((2 ^ j : Nat) : Int)) = wi z o := by
      rw [← hz]
      by_cases hk : -9223372036854775807 ≤ k
      · have e : j = (-k).toNat := by omega
        rw [e]
      · have hb : (wv n s).natAbs < 2 ^ (8 * s.size) := by
          rw [wv_abs, Nat.pow_mul]
          exact num_lt s
        rw [ediv_far hb (a := j) (b := (-k).toNat) (by omega) (by omega)]
    by_cases hm : n = true → num s % 2 ^ j = 0
    · exact wshift_down w n s k j (by omega) (by omega) hk1 hj hm z o hz2
    · cases n
      · exact absurd (fun h => by cases h) hm
      · exact wshift_next w s k j hs (by omega) hk1 hj (fun h' => hm fun _ => h') z o hz2
end Go.Proofs.YtmipcelnmmjplaaGreatDoor
/- Package whole: Pow, walked. -/
namespace Go.Proofs.YtmipcelnmmjplaaGreatDoor
open Go.RowKit Go.Shelf

/-- A power's size. -/
theorem pow_size (s : ByteArray) (e B : Nat) (he : e ≤ B) : (fb (num s ^ e)).size ≤ s.size * B + 1 := by
  refine fb_size_le ?_
  have h1 : num s ^ e ≤ (256 ^ s.size) ^ e := Nat.pow_le_pow_left (Nat.le_of_lt (num_lt s)) e
  rw [← Nat.pow_mul] at h1
  have h2 : 256 ^ (s.size * e) ≤ 256 ^ (s.size * B) := Nat.pow_le_pow_right (by omega) (Nat.mul_le_mul_left _ he)
  have h3 : 256 ^ (s.size * B) < 256 ^ (s.size * B + 1) := Nat.pow_lt_pow_right (by omega) (by omega)
  omega
theorem fb_num_of {m : Nat} {u : ByteArray} (h : fb m = u) : fb (num u) = u := by rw [← h, num_fb]
/-- The bit at e. -/
theorem and_one (k e : Nat) (h : k ≤ 64) : bits .and .i64 ((k : Int) / 2 ^ e) 1 = ((k / 2 ^ e % 2 : Nat) : Int) := by
  have h1 : (BitVec.ofInt 64 1).toNat = 2 ^ 1 - 1 := by decide
  have he : ((k : Int) / 2 ^ e) = ((k / 2 ^ e : Nat) : Int) := by rw [Int.natCast_ediv, Int.natCast_pow]; rfl
  have hle : k / 2 ^ e ≤ k := Nat.div_le_self _ _
  rw [he]
  generalize k / 2 ^ e = m at *
  have key : (BitVec.ofInt 64 (m : Int) &&& BitVec.ofInt 64 1).toNat = ((m : Int) % ((2 ^ 64 : Nat) : Int)).toNat % 2 ^ 1 := by
    rw [BitVec.toNat_and, BitVec.toNat_ofInt, h1, Nat.and_two_pow_sub_one_eq_mod]
  show IntKind.i64.wrap ((BitVec.ofInt 64 (m : Int) &&& BitVec.ofInt 64 1).toNat : Nat) = _
  rw [key, IntKind.wrap_i64]
  omega
/-- Between the rounds of Pow. -/
def PW (w wr : World) (n : Bool) (s : ByteArray) : Prop :=
  (wr.cell? ⟨w.heap.size, 0, none⟩ = some (.bool n) ∧ wr.cell? ⟨w.heap.size, 1, none⟩ = some (.string s)) ∧ Bk wr (w.heap.size + 1) #[.bool false, .string ⟨#[]⟩] ∧ Below w.heap.size w wr
def intW : Value → Nat | .int _ n => n.toNat | _ => 0

set_option maxRecDepth 100000 in
set_option maxHeartbeats 400000 in
theorem wpow_none (w : World) (n : Bool) (s : ByteArray) (k : Int) (hk : k < 1) (z : Bool) (o : ByteArray) (hz : wf 1 = wi z o) :
    Calls Tryz.prog 140 #[wi n s, .int .i64 k] w (Ret (.agg #[.bool z, .string o]) w) := by
  have HZ := Lib.hid hz; clear hz
  unfold wi
  go_enter Tryz.func140, Tryz.ntmps140
  go_wp2_with fail
  obtain ⟨hA, hC, hb⟩ := blocks2 w #[Value.bool n, Value.string s] #[Value.bool false, Value.string { data := #[] }]
  generalize ((w.alloc (Obj.cells #[Value.bool n, Value.string s] 23)).alloc (Obj.cells #[Value.bool false, Value.string { data := #[] }] 23)) = W0 at *
  refine (wof_any _ 1 (by omega) (by omega) z o HZ.out).mono ?_
  rintro e W1 ⟨rfl, hq⟩
  replace hb := below_next hb hq
  replace hC := hC.below hq
  obtain ⟨hC0, hC1, hC2, hC3⟩ := hC.facts
  clear hq hA
  go_wp2
  exact ret_whole rfl rfl (hC.set_ _ _) ⟨rfl, below_set2 hb (by omega) _ _ _ _⟩

set_option maxRecDepth 100000 in
set_option maxHeartbeats 800000 in
theorem wpow_some (w : World) (n : Bool) (s : ByteArray) (k : Nat) (hs : s.size ≤ 10000) (hk : 1 ≤ k) (hk2 : k ≤ 64) (z : Bool) (o : ByteArray) (hz : wf (sI (n && decide (k % 2 = 1)) (num s ^ k)) = wi z o) :
    Calls Tryz.prog 140 #[wi n s, .int .i64 k] w (Ret (.agg #[.bool z, .string o]) w) := by
  have HZ := Lib.hid hz; clear hz
  obtain ⟨y, hy⟩ : ∃ y : Nat, bl (num s) = y := ⟨_, rfl⟩
  have hy2 : y ≤ 80000 := by rw [← hy]; have := bl_size (k := 10000) hs; omega
  have hy3 : ((bl (num s) : Nat) : Int) = (y : Int) := by rw [hy]
  have HY := Lib.hid hy3; clear hy hy3
  unfold wi
  go_enter Tryz.func140, Tryz.ntmps140
  go_wp2_with fail
  obtain ⟨hA, hC, hb⟩ := blocks2 w #[Value.bool n, Value.string s] #[Value.bool false, Value.string { data := #[] }]
  generalize ((w.alloc (Obj.cells #[Value.bool n, Value.string s] 23)).alloc (Obj.cells #[Value.bool false, Value.string { data := #[] }] 23)) = W0 at *
  obtain ⟨M, hM⟩ : ∃ M : Nat, 17179869176 / k = M := ⟨_, rfl⟩
  have hM2 : 80000 ≤ M := by
    rw [← hM]
    exact (Nat.le_div_iff_mul_le (by omega)).2 (by omega)
  have hM3 : (17179869176 : Int).tdiv (k : Int) = (M : Int) := by rw [← hM]; rfl
  have hk0 : ¬ k = 0 := by omega
  have hM5 : M ≤ 17179869176 := by rw [← hM]; exact Nat.div_le_self _ _
  have hM4 : wrap64 (M : Int) = (M : Int) := by unfold wrap64; omega
  have hM6 : IntKind.i64.wrap (M : Int) = (M : Int) := by rw [IntKind.wrap_i64]; omega
  have hy6 : IntKind.i64.wrap ((y : Int) - 1) = (y : Int) - 1 := by rw [IntKind.wrap_i64]; omega
  have hcf : ¬ ((M : Int) < (y : Int) - 1) := by omega
  clear hM
  replace hC := hC.drew
  replace hb := hb.drew
  have hin := hA.drew.cells
  clear hA
  go_region_held3 (fun w' => w'.cell? ⟨w.heap.size, 0, none⟩ = some (.bool n) ∧ w'.cell? ⟨w.heap.size, 1, none⟩ = some (.string s))
    (first | assumption | exact held (by assumption) (by assumption) | exact held_set2 (by assumption) (by omega) | exact held_alloc (by assumption))
    (first
     | (go_at_call 135; refine (use_len _ s _ (by omega) HY.out).mono ?_; rintro e W1 ⟨rfl, hq⟩; replace hb := below_next hb hq; replace hC := hC.below hq))
  rename_i hin1
  obtain ⟨hA0, hA1⟩ := hin1
  go_wp2_with fail
  clear hM2 hM3 hM4 hM5 hM6 hy6 hcf hin
  have hA : W1.cell? ⟨w.heap.size, 0, none⟩ = some (.bool n) ∧ W1.cell? ⟨w.heap.size, 1, none⟩ = some (.string s) := ⟨hA0, hA1⟩
  clear hA0 hA1
  refine (use_of _ ⟨#[1]⟩ 1 (by unfold B64; omega) (by kernel_rfl)).mono ?_
  rintro e W2 ⟨rfl, hq2⟩
  replace hb := below_next hb hq2
  replace hC := hC.below hq2
  replace hA := held hA hq2
  clear hq2 hq
  go_wp2_with fail
  refine (Tryz.bits_Len (k : Int) _ (by omega) (by omega)).mono ?_
  rintro e W3 ⟨rfl, rfl⟩
  have hcl : Lib.bitLen (k : Int).toNat = bl k := by rw [Int.toNat_natCast]; exact bitLen_bl (by omega)
  obtain ⟨cn, hcn⟩ : ∃ cn, bl k = cn := ⟨_, rfl⟩
  have hcl2 : Lib.bitLen (k : Int).toNat = cn := hcl.trans hcn
  rw [hcl2]
  have hcb : cn ≤ 7 := by rw [← hcn]; exact bl_le (by omega)
  have hk3 : k / 2 ^ cn = 0 := by rw [← hcn]; exact Nat.div_eq_of_lt (bl_bounds (by omega)).2.2
  have HK := Lib.hid hk3; clear hk3 hcl hcl2 hcn
  go_wp2_with fail
  have hP0 : PW w W3 n s := ⟨hA, hC, hb⟩
  clear hA hC hb
  have hM0 : fb (num s ^ (k / 2 ^ (cn - 0))) = ⟨#[1]⟩ := by rw [Nat.sub_zero, HK.out, Nat.pow_zero]; kernel_rfl
  have HM0 := Lib.hid hM0; clear hM0
  go_loopw [5, 24] (fun mv i wr => ∃ (j : Nat) (t : ByteArray), j ≤ cn ∧ mv = .string t ∧ i = .int .i64 j ∧ fb (num s ^ (k / 2 ^ (cn - j))) = t ∧ PW w wr n s) (fun _ i _ => cn - intW i)
  case atStart => exact ⟨0, ⟨#[1]⟩, Nat.zero_le _, rfl, rfl, HM0.out, hP0⟩
  case round =>
    clear hP0
    obtain ⟨j, t, hj, rfl, rfl, ht, hA, hC, hb⟩ := hrel
    have hsk : s.size * 64 ≤ 640000 := by omega
    have hts : t.size ≤ 640001 := by
      rw [← ht]
      exact Nat.le_trans (pow_size s _ 64 (Nat.le_trans (Nat.div_le_self _ _) hk2)) (by omega)
    have hnt : num t = num s ^ (k / 2 ^ (cn - j)) := by rw [← ht, num_fb]
    have HT := Lib.hid (And.intro ht hnt); clear ht hnt
    by_cases hlt : j < cn
    · obtain ⟨u, hu⟩ : ∃ u, fb (num t * num t) = u := ⟨_, rfl⟩
      have hpb := pow_bits (num s) k (cn - (j + 1))
      rw [show cn - (j + 1) + 1 = cn - j by omega] at hpb
      have hun : num u = num s ^ (k / 2 ^ (cn - j)) * num s ^ (k / 2 ^ (cn - j)) := by rw [← hu, num_fb, HT.out.2]
      rw [← hun] at hpb
      have hus : u.size ≤ 1280002 := by
        rw [← hu]
        have := fb_size_le (lt_mul (num_lt t) (num_lt t))
        omega
      have HU := Lib.hid hu; clear hu hun
      obtain ⟨hA0, hA1⟩ := hA
      go_wp2_with fail
      refine (use_mul _ t t u (by omega) (by omega) HU.out).mono ?_
      rintro e V1 ⟨rfl, hq⟩
      replace hb := below_next hb hq
      replace hC := hC.below hq
      have hA := held ⟨hA0, hA1⟩ hq
      clear hA0 hA1 hq
      obtain ⟨hA0, hA1⟩ := hA
      have hba := and_one k (cn - 1 - j) hk2
      rw [show cn - (j + 1) = cn - 1 - j by omega] at hpb
      clear hsk hts HT
      by_cases hbt : k / 2 ^ (cn - 1 - j) % 2 = 1
      · rw [if_pos hbt] at hpb
        rw [hbt] at hba
        obtain ⟨v, hv⟩ : ∃ v, fb (num u * num s) = v := ⟨_, rfl⟩
        rw [← hpb] at hv
        have HV := Lib.hid (And.intro (hpb ▸ hv) hv); clear hv hpb hbt
        go_wp2_with fail
        refine (use_mul _ u s v (by omega) (by omega) HV.out.1).mono ?_
        rintro e V2 ⟨rfl, hq⟩
        replace hb := below_next hb hq
        replace hC := hC.below hq
        have hA := held ⟨hA0, hA1⟩ hq
        clear hA0 hA1 hq
        go_wp2
        go_roundw
        case rel => exact ⟨j + 1, v, by omega, rfl, by simp, by rw [show cn - (j + 1) = cn - 1 - j by omega]; exact HV.out.2, hA, hC, hb⟩
        case measure => simp [intW]; omega
      · rw [if_neg hbt, Nat.mul_one] at hpb
        have hbt0 : k / 2 ^ (cn - 1 - j) % 2 = 0 := by omega
        rw [hbt0] at hba
        have HV := Lib.hid (And.intro HU.out hpb); clear hpb hbt hbt0
        go_wp2
        go_roundw
        case rel => exact ⟨j + 1, u, by omega, rfl, by simp, by rw [show cn - (j + 1) = cn - 1 - j by omega, HV.out.2, fb_num_of HV.out.1], ⟨hA0, hA1⟩, hC, hb⟩
        case measure => simp [intW]; omega
    · have hjn : j = cn := by omega
      have hfin : fb (num s ^ k) = t := by
        have := HT.out.1
        rwa [hjn, Nat.sub_self, Nat.pow_zero, Nat.div_one] at this
      have HF := Lib.hid hfin; clear hfin hsk hts HT
      obtain ⟨hA0, hA1⟩ := hA
      have hmo : (k : Int).tmod 2 = ((k % 2 : Nat) : Int) := rfl
      by_cases hodd : k % 2 = 1
      · rw [hodd] at hmo
        have hz2 : wf (sI n (num s ^ k)) = wi z o := by
          rw [← HZ.out, decide_eq_true hodd, Bool.and_true]
        have HZ2 := Lib.hid hz2; clear hz2 hodd
        cases n
        · go_wp2_with fail
          refine (signed_any _ false t (num s ^ k) z o HF.out HZ2.out).mono ?_
          rintro e V1 ⟨rfl, hq⟩
          replace hb := below_next hb hq
          replace hC := hC.below hq
          obtain ⟨hC0, hC1, hC2, hC3⟩ := hC.facts
          clear hq hA0 hA1
          go_wp2
          exact ret_whole rfl rfl (hC.set_ _ _) ⟨rfl, below_set2 hb (by omega) _ _ _ _⟩
        · go_wp2_with fail
          refine (signed_any _ true t (num s ^ k) z o HF.out HZ2.out).mono ?_
          rintro e V1 ⟨rfl, hq⟩
          replace hb := below_next hb hq
          replace hC := hC.below hq
          obtain ⟨hC0, hC1, hC2, hC3⟩ := hC.facts
          clear hq hA0 hA1
          go_wp2
          exact ret_whole rfl rfl (hC.set_ _ _) ⟨rfl, below_set2 hb (by omega) _ _ _ _⟩
      · rw [show k % 2 = 0 by omega] at hmo
        have hz2 : wf (sI false (num s ^ k)) = wi z o := by
          rw [← HZ.out, decide_eq_false hodd, Bool.and_false]
        have HZ2 := Lib.hid hz2; clear hz2 hodd
        cases n
        · go_wp2_with fail
          refine (signed_any _ false t (num s ^ k) z o HF.out HZ2.out).mono ?_
          rintro e V1 ⟨rfl, hq⟩
          replace hb := below_next hb hq
          replace hC := hC.below hq
          obtain ⟨hC0, hC1, hC2, hC3⟩ := hC.facts
          clear hq hA0 hA1
          go_wp2
          exact ret_whole rfl rfl (hC.set_ _ _) ⟨rfl, below_set2 hb (by omega) _ _ _ _⟩
        · go_wp2_with fail
          refine (signed_any _ false t (num s ^ k) z o HF.out HZ2.out).mono ?_
          rintro e V1 ⟨rfl, hq⟩
          replace hb := below_next hb hq
          replace hC := hC.below hq
          obtain ⟨hC0, hC1, hC2, hC3⟩ := hC.facts
          clear hq hA0 hA1
          go_wp2
          exact ret_whole rfl rfl (hC.set_ _ _) ⟨rfl, below_set2 hb (by omega) _ _ _ _⟩
end Go.Proofs.YtmipcelnmmjplaaGreatDoor
/- Facts on quotients, powers and rows of Ints that several layers want. -/
namespace Go.Proofs.YtmipcelnmmjplaaGreatDoor
open Go.RowKit Go.Shelf

theorem nm2 {a : Int} (h : -1000 ≤ a ∧ a ≤ 1000) : ∃ z o, wf a = wi z o ∧ wv z o = a ∧ o.size ≤ 2 := nmw (by have : (256 : Nat) ^ 2 = 65536 := rfl; omega)
theorem quo_nmw (m n : Bool) (s t : ByteArray) : ∃ p u, wf (wv m s / wv n t) = wi p u ∧ wv p u = wv m s / wv n t ∧ u.size ≤ s.size := by
  refine nmw ?_
  have h1 : (wv m s / wv n t).natAbs ≤ (wv m s).natAbs := Int.natAbs_ediv_le_natAbs _ _
  have h4 := wv_abs m s
  have h5 := num_lt s
  omega
theorem rem_nmw (m n : Bool) (s t : ByteArray) (h0 : wv n t ≠ 0) : ∃ p u, wf (wv m s % wv n t) = wi p u ∧ wv p u = wv m s % wv n t ∧ u.size ≤ t.size := by
  refine nmw ?_
  have h1 := Int.emod_nonneg (wv m s) h0
  have h2 := Int.emod_lt (wv m s) h0
  have h4 := wv_abs n t
  have h5 := num_lt t
  omega
theorem sI_pow (n : Bool) (A k : Nat) : sI n A ^ k = sI (n && decide (k % 2 = 1)) (A ^ k) := by
  induction k with
  | zero => simp [sI]
  | succ k ih =>
    rw [Int.pow_succ, ih, sI_mul, Nat.pow_succ]
    congr 1
    rcases Nat.mod_two_eq_zero_or_one k with h | h
    · have h2 : (k + 1) % 2 = 1 := by omega
      rw [h, h2]; cases n <;> rfl
    · have h2 : (k + 1) % 2 = 0 := by omega
      rw [h, h2]; cases n <;> rfl
theorem wpow_any (w : World) (n : Bool) (s : ByteArray) (k : Nat) (hs : s.size ≤ 10000) (hk : k ≤ 64) (z : Bool) (o : ByteArray) (hz : wf (wv n s ^ k) = wi z o) :
    Calls Tryz.prog 140 #[wi n s, .int .i64 k] w (Ret (.agg #[.bool z, .string o]) w) := by
  rcases Nat.eq_zero_or_pos k with h | h
  · subst h
    exact wpow_none w n s _ (by omega) z o (by rw [Int.pow_zero] at hz; exact hz)
  · exact wpow_some w n s k hs h hk z o (by rw [← sI_pow, ← wv_sI]; exact hz)
theorem wpow_five (w : World) (n : Bool) (s : ByteArray) (hs : s.size ≤ 10000) (z : Bool) (o : ByteArray) (hz : wf (wv n s ^ 5) = wi z o) :
    Calls Tryz.prog 140 #[wi n s, .int .i64 5] w (Ret (.agg #[.bool z, .string o]) w) := wpow_any w n s 5 hs (by omega) z o hz
theorem wpow_more (w : World) (n : Bool) (s : ByteArray) (k : Nat) (hs : s.size ≤ 10000) (hk : k ≤ 50) (z : Bool) (o : ByteArray) (hz : wf (wv n s ^ (k + 5)) = wi z o) :
    Calls Tryz.prog 140 #[wi n s, .int .i64 ((k : Int) + 5)] w (Ret (.agg #[.bool z, .string o]) w) := by
  rw [show ((k : Int) + 5) = ((k + 5 : Nat) : Int) by omega]
  exact wpow_any w n s (k + 5) hs (by omega) z o hz
theorem pow_nmw (n : Bool) (s : ByteArray) (k : Nat) {B : Nat} (hs : s.size ≤ B) (hk : k ≤ 64) : ∃ p u, wf (wv n s ^ k) = wi p u ∧ wv p u = wv n s ^ k ∧ u.size ≤ 64 * B + 1 := by
  refine nmw ?_
  rw [wv_sI, sI_pow]
  have h0 : (sI (n && decide (k % 2 = 1)) (num s ^ k)).natAbs = num s ^ k := by unfold sI; split <;> omega
  rw [h0]
  have h1 : num s ^ k ≤ (256 ^ s.size) ^ k := Nat.pow_le_pow_left (Nat.le_of_lt (num_lt s)) k
  rw [← Nat.pow_mul] at h1
  have h3 : s.size * k ≤ 64 * B := by rw [Nat.mul_comm]; exact Nat.mul_le_mul hk hs
  have h2 : 256 ^ (s.size * k) ≤ 256 ^ (64 * B) := Nat.pow_le_pow_right (by omega) h3
  have h4 : 256 ^ (64 * B) < 256 ^ (64 * B + 1) := Nat.pow_lt_pow_right (by omega) (by omega)
  omega
theorem quo_lt {m n : Bool} {s t : ByteArray} : (wv m s / wv n t).natAbs < 256 ^ s.size := by
  have h1 : (wv m s / wv n t).natAbs ≤ (wv m s).natAbs := Int.natAbs_ediv_le_natAbs _ _
  have h4 := wv_abs m s
  have h5 := num_lt s
  omega
theorem rem_lt {m n : Bool} {s t : ByteArray} (h0 : wv n t ≠ 0) : (wv m s % wv n t).natAbs < 256 ^ t.size := by
  have h1 := Int.emod_nonneg (wv m s) h0
  have h2 := Int.emod_lt (wv m s) h0
  have h4 := wv_abs n t
  have h5 := num_lt t
  omega
/-- Mul, of however many. -/
theorem wmul_all (w : World) (ad : Option Addr) (l : List IV) (n c : Nat) (hn : l.length = n) (hc : n ≤ c) (hmax : n ≤ 900) (hs : ∀ x ∈ l, x.2.size ≤ 100000) (hl : IAt w ad l)
    (z : Bool) (o : ByteArray) (hz : wf (prodI l n) = wi z o) :
    Calls Tryz.prog 89 #[.slice ad n c] w (Ret (.agg #[.bool z, .string o]) w) := by
  rcases Nat.lt_or_ge n 1 with h | h
  · obtain rfl : n = 0 := by omega
    exact wmul_none w ad c z o hz
  · obtain ⟨b, off, rfl, hlt, h1, h2⟩ := hl 0 (by omega)
    rcases Nat.lt_or_ge n 2 with h2' | h2'
    · obtain rfl : n = 1 := by omega
      obtain ⟨x, rfl⟩ : ∃ x, l = [x] := List.length_eq_one_iff.1 hn
      refine wmul_one w b off c x.1 x.2 (hs x (by simp)) ?_ ?_ z o ?_
      · simpa using h1
      · simpa using h2
      · rw [← hz]
        show _ = wf (1 * wv x.1 x.2)
        rw [Int.one_mul]
    · exact wmul_any w b off l n c hn hc h2' hmax hs hl z o hz
theorem heldo {W W' : World} {b p q : Nat} {x y : Value} (hq : Below W.heap.size W W') (h : W.cell? ⟨b, p, none⟩ = some x ∧ W.cell? ⟨b, q, none⟩ = some y) : W'.cell? ⟨b, p, none⟩ = some x ∧ W'.cell? ⟨b, q, none⟩ = some y := by
  have hlt : b < W.heap.size := World.block_lt_of_cell? W _ h.1
  exact ⟨(hq.cell hlt).trans h.1, (hq.cell hlt).trans h.2⟩
theorem sI_pow' (n : Bool) (A k : Nat) : sI n A ^ k = sI (n && decide (k % 2 = 1)) (A ^ k) := by
  induction k with
  | zero => simp [sI]
  | succ k ih =>
    rw [Int.pow_succ, ih, sI_mul, Nat.pow_succ]
    congr 1
    rcases Nat.mod_two_eq_zero_or_one k with h | h
    · have h2 : (k + 1) % 2 = 1 := by omega
      rw [h, h2]; cases n <;> rfl
    · have h2 : (k + 1) % 2 = 0 := by omega
      rw [h, h2]; cases n <;> rfl
theorem wpow_int (w : World) (n : Bool) (s : ByteArray) (k : Int) (hs : s.size ≤ 10000) (hk : k ≤ 64) (z : Bool) (o : ByteArray) (hz : wf (wv n s ^ k.toNat) = wi z o) :
    Calls Tryz.prog 140 #[wi n s, .int .i64 k] w (Ret (.agg #[.bool z, .string o]) w) := by
  by_cases h : k < 1
  · refine wpow_none w n s k h z o ?_
    rw [← hz, show k.toNat = 0 by omega, Int.pow_zero]
  · obtain ⟨j, rfl⟩ : ∃ j : Nat, k = (j : Int) := ⟨k.toNat, by omega⟩
    refine wpow_some w n s j hs (by omega) (by omega) z o ?_
    rw [← sI_pow', ← wv_sI]
    exact hz
theorem icells_len : ∀ l : List IV, (icells l).length = l.length * 2
  | [] => rfl
  | x :: l => by rw [icells, List.length_cons, List.length_cons, icells_len l, List.length_cons]; omega
theorem icells_one : ∀ (l : List IV) (u : Value), u ∈ icells l → u.oneCell' = true
  | [], _, h => by cases h
  | x :: l, u, h => by
    rw [icells, List.mem_cons, List.mem_cons] at h
    rcases h with rfl | rfl | h
    · rfl
    · rfl
    · exact icells_one l u h
theorem icells_at {w : World} {a : Addr} {l : List IV} (h : IAt w (some a) l) (j : Nat) (u : Value) (hj : (icells l)[j]? = some u) : w.cell? (a.add j) = some u := by
  obtain ⟨hlt, hju⟩ := List.getElem?_eq_some_iff.1 hj
  rw [icells_len] at hlt
  have hi : j / 2 < l.length := by omega
  obtain ⟨lb, lo, e, _, h1, h2⟩ := h (j / 2) hi
  obtain rfl : a = ⟨lb, lo, none⟩ := by simpa using e
  have ea : (⟨lb, lo, none⟩ : Addr).add j = ⟨lb, lo + j, none⟩ := by unfold Addr.add; split <;> simp_all
  have hg := icells_get l (j / 2) hi
  rw [ea]
  rcases Nat.mod_two_eq_zero_or_one j with hm | hm
  · have e2 : j / 2 * 2 = j := by omega
    rw [e2] at h1 hg
    rw [h1, ← hj, hg.1]
  · have e2 : j / 2 * 2 + 1 = j := by omega
    rw [Nat.add_assoc, e2] at h2
    rw [e2] at hg
    rw [h2, ← hj, hg.2]
theorem own_row {w : World} {B n : Nat} {v : Value} {l : List IV} (hn : l.length = n) (h : w.ownsRow B 23 2 v n (icells l)) : ∃ od oc, v = .slice od n oc ∧ n ≤ oc ∧ IAt w od l := by
  rcases h.2 with ⟨rfl, rfl⟩ | ⟨g, cap, cur, rfl, _, hg, hc, _, _, _⟩
  · obtain rfl : l = [] := List.eq_nil_of_length_eq_zero hn
    exact ⟨none, 0, rfl, Nat.le_refl _, IAt.nil _ _⟩
  · refine ⟨some ⟨g, 0, none⟩, cap, rfl, hc, fun i hi => ?_⟩
    have hcell := h.cells (g := g) rfl
    have hgt := icells_get l i hi
    have ea : ∀ j : Nat, (⟨g, 0, none⟩ : Addr).add j = ⟨g, 0 + j, none⟩ := fun j => by unfold Addr.add; split <;> simp_all
    have h1 := hcell _ _ hgt.1
    have h2 := hcell _ _ hgt.2
    rw [ea] at h1 h2
    exact ⟨g, 0, rfl, World.block_lt_of_cell? w _ h1, h1, by rw [Nat.add_assoc]; exact h2⟩
theorem infoI4 : (Tryz.prog.info? 23).map (fun i => (i.zero, i.size, i.bytes)) = some (some (.agg #[.bool false, .string ⟨#[]⟩]), 2, 24) := by kernel_rfl
theorem hbc2 {w W W' : World} {b0 p0 q0 b1 p1 q1 : Nat} {x0 y0 x1 y1 : Value} (hq : Below W.heap.size W W') (h : Below w.heap.size w W ∧ (W.cell? ⟨b0, p0, none⟩ = some x0 ∧ W.cell? ⟨b0, q0, none⟩ = some y0) ∧ (W.cell? ⟨b1, p1, none⟩ = some x1 ∧ W.cell? ⟨b1, q1, none⟩ = some y1)) : Below w.heap.size w W' ∧ (W'.cell? ⟨b0, p0, none⟩ = some x0 ∧ W'.cell? ⟨b0, q0, none⟩ = some y0) ∧ (W'.cell? ⟨b1, p1, none⟩ = some x1 ∧ W'.cell? ⟨b1, q1, none⟩ = some y1) :=
  ⟨below_next h.1 hq, heldo hq h.2.1, heldo hq h.2.2⟩
theorem hbc3 {w W W' : World} {b0 p0 q0 b1 p1 q1 b2 p2 q2 : Nat} {x0 y0 x1 y1 x2 y2 : Value} (hq : Below W.heap.size W W') (h : Below w.heap.size w W ∧ (W.cell? ⟨b0, p0, none⟩ = some x0 ∧ W.cell? ⟨b0, q0, none⟩ = some y0) ∧ (W.cell? ⟨b1, p1, none⟩ = some x1 ∧ W.cell? ⟨b1, q1, none⟩ = some y1) ∧ (W.cell? ⟨b2, p2, none⟩ = some x2 ∧ W.cell? ⟨b2, q2, none⟩ = some y2)) : Below w.heap.size w W' ∧ (W'.cell? ⟨b0, p0, none⟩ = some x0 ∧ W'.cell? ⟨b0, q0, none⟩ = some y0) ∧ (W'.cell? ⟨b1, p1, none⟩ = some x1 ∧ W'.cell? ⟨b1, q1, none⟩ = some y1) ∧ (W'.cell? ⟨b2, p2, none⟩ = some x2 ∧ W'.cell? ⟨b2, q2, none⟩ = some y2) :=
  ⟨below_next h.1 hq, heldo hq h.2.1, heldo hq h.2.2.1, heldo hq h.2.2.2⟩
end Go.Proofs.YtmipcelnmmjplaaGreatDoor
/- An Int among the arguments, and a slice of Ints: opened and shut. -/
namespace Go.Proofs.YtmipcelnmmjplaaGreatDoor
open Go.ChangeShapes Go.WideShapes

theorem two_of {cs : Array Value} (h : cs.size = 2) : ∃ c0 c1, cs = #[c0, c1] := by
  obtain ⟨l⟩ := cs
  match l, h with
  | [a, b], _ => exact ⟨a, b, rfl⟩
section
variable {H : Type} {enc : TypeId × Value → H} {W : World} {base : Nat} {sp : Nat → Bool} {held : Bool}
theorem int_cells : Tryz.prog.cellsOf 23 = 2 := by kernel_rfl
theorem bool_cells : Tryz.prog.cellsOf 4 = 1 := by kernel_rfl
theorem string_cells : Tryz.prog.cellsOf 9 = 1 := by kernel_rfl
set_option maxRecDepth 100000 in
theorem open_whole {r : Reach} {b0 : Nat} {v : Value} {d : DataW H} {ps : List MemPlace} (hval : Value.okWide Tryz.prog W r b0 23 v) (hd : DataW.Trod enc Tryz.prog W base sp held 23 v d ps) :
    ∃ (n : Bool) (s : ByteArray), v = wi n s ∧ d = .agg [.lit (.bool n), .lit (.string s.data.toList)] ∧ ps = [] ∧ s.size ≤ maxLen := by
  have hu := Tryz.underlying23
  simp only [Value.okWide, hu] at hval
  obtain ⟨cs, rfl, h2, _⟩ := hval
  obtain ⟨fuel, hf⟩ := hd
  obtain ⟨y0, y1, n, hx, _, h0, h1⟩ := trod_struct2 hu hf
  rw [int_cells] at h2
  obtain ⟨c0, c1, rfl⟩ := two_of h2
  simp only [bool_cells, string_cells, Value.cells, List.drop_zero, List.take_succ_cons, List.take_zero, List.drop_succ_cons] at h0 h1
  obtain ⟨b, e0, rfl⟩ := DataW.trod_bool Tryz.underlying4 h0
  obtain ⟨s, e1, rfl, hs⟩ := DataW.trod_string Tryz.underlying9 h1
  simp only [List.cons.injEq, and_true] at e0 e1
  subst e0; subst e1
  simp only [Prod.mk.injEq] at hx
  exact ⟨b, s, rfl, hx.1, hx.2, hs⟩
set_option maxRecDepth 100000 in
theorem shut_whole {n : Bool} {s : ByteArray} (hs : s.size ≤ maxLen) :
    DataW.Trod enc Tryz.prog W base sp held 23 (wi n s) (.agg [.lit (.bool n), .lit (.string s.data.toList)]) [] := by
  refine ⟨1 + 1, ?_⟩
  refine trod_struct2_mk Tryz.underlying23 (by rw [int_cells]; rfl) (y0 := (.lit (.bool n), [])) (y1 := (.lit (.string s.data.toList), [])) ?_ ?_
  · simp [wi, Value.cells, bool_cells, DataW.trod, Tryz.underlying4]
  · simp [wi, Value.cells, string_cells, DataW.trod, Tryz.underlying9, hs]
end
end Go.Proofs.YtmipcelnmmjplaaGreatDoor
/- A row of Ints among the arguments, opened. -/
namespace Go.Proofs.YtmipcelnmmjplaaGreatDoor
open Go.RowKit Go.ChangeShapes Go.WideShapes Go.Deep

theorem laidOut : laidOutB Tryz.prog = true := by kernel_rfl
def boolOf : Value → Bool | .bool b => b | _ => false
def textOf : Value → ByteArray | .string s => s | _ => ⟨#[]⟩
section
variable {H : Type} {enc : TypeId × Value → H} {W : World} {base : Nat} {sp : Nat → Bool} {held : Bool}
set_option maxRecDepth 100000 in
theorem open_ints {r : Reach} {b0 : Nat} {v : Value} {d : DataW H} {ps : List MemPlace} (hval : Value.okWide Tryz.prog W r b0 98 v) (hd : DataW.Trod enc Tryz.prog W base sp held 98 v d ps) :
    ∃ (ad : Option Addr) (l : List IV) (n c : Nat), v = .slice ad n c ∧ l.length = n ∧ (n ≤ c ∧ (ad = none → c = 0)) ∧ IAt W ad l := by
  obtain ⟨a0, len, cap, rfl⟩ := okWide_slice Tryz.underlying98 hval
  obtain ⟨fuel, hf⟩ := hd
  rcases open_slice_pairs Tryz.underlying98 Tryz.underlying23 int_cells rfl rfl bool_cells string_cells hf with ⟨hcs, _⟩ | ⟨a, len', cap', m, k, V0, V1, D0, D1, P0, P1, hcs, _, hl, _, hmm, _, hcell⟩
  · simp [Value.cells] at hcs
    obtain ⟨rfl, rfl, rfl⟩ := hcs
    exact ⟨none, [], 0, 0, rfl, rfl, ⟨Nat.le_refl _, fun _ => rfl⟩, IAt.nil _ _⟩
  · simp [Value.cells] at hcs
    obtain ⟨rfl, rfl, rfl⟩ := hcs
    have hlm : len ≤ m := by rw [hmm]; split <;> omega
    refine ⟨some a, (List.range len).map fun i => (boolOf (V0 i), textOf (V1 i)), len, cap, rfl, by simp, ⟨hl, fun h => by cases h⟩, fun i hi => ?_⟩
    simp at hi
    obtain ⟨hc0, hc1, h0, h1⟩ := hcell i (by omega)
    obtain ⟨b, off, spot⟩ := a
    have hspot : spot = none := by simpa [Addr.add] using World.cell?_spot (hcell 0 (by omega)).1
    subst hspot
    obtain ⟨x, e0, _⟩ := DataW.trod_bool Tryz.underlying4 h0
    obtain ⟨y, e1, _, _⟩ := DataW.trod_string Tryz.underlying9 h1
    simp only [List.cons.injEq, and_true] at e0 e1
    have ea : ∀ j : Nat, (⟨b, off, none⟩ : Addr).add j = ⟨b, off + j, none⟩ := fun j => by unfold Addr.add; split <;> simp_all
    rw [ea] at hc0 hc1
    refine ⟨b, off, rfl, World.block_lt_of_cell? W _ hc0, ?_, ?_⟩
    · rw [hc0, e0]; simp [boolOf, e0]
    · rw [show off + i * 2 + 1 = off + (i * 2 + 1) by omega, hc1, e1]; simp [textOf, e1]
end
end Go.Proofs.YtmipcelnmmjplaaGreatDoor
/- A region whose operations come up in any order, by the sets of those that have come up: a set, whatever the way to it, is proved once. -/
namespace Go.Proofs.YtmipcelnmmjplaaGreatDoor
open Go.RowKit Go.Shelf

theorem dag_all {P : Program} {ops : Array Oper} {Q : Exit → Act → World → Prop} {S : World → Prop} (I : Nat → Array Bool → Act → World → Prop)
    (hstep : ∀ f L a w, I f L a w → Hid (∀ f' L' a' w', f' < f → I f' L' a' w' → wpAnyH P .any ops Q S f' L' a' w') → wpAnyH P .any ops Q S f L a w) : ∀ f L a w, I f L a w → wpAnyH P .any ops Q S f L a w := by
  intro f
  induction f using Nat.strongRecOn with
  | _ f ih => exact fun L a w h => hstep f L a w h (Lib.hid fun f' L' a' w' hlt h' => ih f' hlt L' a' w' h')
theorem region_dag {P : Program} {id : Nat} {ops : Array Oper} {Q : Exit → Act → World → Prop} {a : Act} {w : World} (S : World → Prop) (I : Nat → Array Bool → Act → World → Prop) (hm : P.follows .mixedOrders = true)
    (h0 : I ops.size (Array.replicate ops.size false) a w.drew)
    (hstep : ∀ f L a w, I f L a w → Hid (∀ f' L' a' w', f' < f → I f' L' a' w' → wpAnyH P .any ops Q S f' L' a' w') → wpAnyH P .any ops Q S f L a w) : (Code.region id ops true).wp P Q a w :=
  wp_region_held hm (dag_all I hstep _ _ _ _ h0)
theorem sb1 {w W : World} {b0 r : Nat} {x0 y0 u v : Value} (h : Below w.heap.size w W ∧ (W.cell? ⟨b0, 0, none⟩ = some x0 ∧ W.cell? ⟨b0, 1, none⟩ = some y0)) (h0 : w.heap.size ≤ r) (hr : b0 ≠ r) : Below w.heap.size w ((W.setCell ⟨r, 0, none⟩ u).setCell ⟨r, 1, none⟩ v) ∧ (((W.setCell ⟨r, 0, none⟩ u).setCell ⟨r, 1, none⟩ v).cell? ⟨b0, 0, none⟩ = some x0 ∧ ((W.setCell ⟨r, 0, none⟩ u).setCell ⟨r, 1, none⟩ v).cell? ⟨b0, 1, none⟩ = some y0) :=
  ⟨below_set2 h.1 h0 _ _ _ _, s1 h.2 hr⟩
theorem sb2 {w W : World} {b0 b1 r : Nat} {x0 y0 x1 y1 u v : Value} (h : Below w.heap.size w W ∧ (W.cell? ⟨b0, 0, none⟩ = some x0 ∧ W.cell? ⟨b0, 1, none⟩ = some y0) ∧ (W.cell? ⟨b1, 0, none⟩ = some x1 ∧ W.cell? ⟨b1, 1, none⟩ = some y1)) (h0 : w.heap.size ≤ r) (hr : b0 ≠ r ∧ b1 ≠ r) : Below w.heap.size w ((W.setCell ⟨r, 0, none⟩ u).setCell ⟨r, 1, none⟩ v) ∧ (((W.setCell ⟨r, 0, none⟩ u).setCell ⟨r, 1, none⟩ v).cell? ⟨b0, 0, none⟩ = some x0 ∧ ((W.setCell ⟨r, 0, none⟩ u).setCell ⟨r, 1, none⟩ v).cell? ⟨b0, 1, none⟩ = some y0) ∧ (((W.setCell ⟨r, 0, none⟩ u).setCell ⟨r, 1, none⟩ v).cell? ⟨b1, 0, none⟩ = some x1 ∧ ((W.setCell ⟨r, 0, none⟩ u).setCell ⟨r, 1, none⟩ v).cell? ⟨b1, 1, none⟩ = some y1) :=
  ⟨below_set2 h.1 h0 _ _ _ _, s2 h.2 hr⟩
theorem sb3 {w W : World} {b0 b1 b2 r : Nat} {x0 y0 x1 y1 x2 y2 u v : Value} (h : Below w.heap.size w W ∧ (W.cell? ⟨b0, 0, none⟩ = some x0 ∧ W.cell? ⟨b0, 1, none⟩ = some y0) ∧ (W.cell? ⟨b1, 0, none⟩ = some x1 ∧ W.cell? ⟨b1, 1, none⟩ = some y1) ∧ (W.cell? ⟨b2, 0, none⟩ = some x2 ∧ W.cell? ⟨b2, 1, none⟩ = some y2)) (h0 : w.heap.size ≤ r) (hr : b0 ≠ r ∧ b1 ≠ r ∧ b2 ≠ r) : Below w.heap.size w ((W.setCell ⟨r, 0, none⟩ u).setCell ⟨r, 1, none⟩ v) ∧ (((W.setCell ⟨r, 0, none⟩ u).setCell ⟨r, 1, none⟩ v).cell? ⟨b0, 0, none⟩ = some x0 ∧ ((W.setCell ⟨r, 0, none⟩ u).setCell ⟨r, 1, none⟩ v).cell? ⟨b0, 1, none⟩ = some y0) ∧ (((W.setCell ⟨r, 0, none⟩ u).setCell ⟨r, 1, none⟩ v).cell? ⟨b1, 0, none⟩ = some x1 ∧ ((W.setCell ⟨r, 0, none⟩ u).setCell ⟨r, 1, none⟩ v).cell? ⟨b1, 1, none⟩ = some y1) ∧ (((W.setCell ⟨r, 0, none⟩ u).setCell ⟨r, 1, none⟩ v).cell? ⟨b2, 0, none⟩ = some x2 ∧ ((W.setCell ⟨r, 0, none⟩ u).setCell ⟨r, 1, none⟩ v).cell? ⟨b2, 1, none⟩ = some y2) :=
  ⟨below_set2 h.1 h0 _ _ _ _, s3 h.2 hr⟩
theorem sb4 {w W : World} {b0 b1 b2 b3 r : Nat} {x0 y0 x1 y1 x2 y2 x3 y3 u v : Value} (h : Below w.heap.size w W ∧ (W.cell? ⟨b0, 0, none⟩ = some x0 ∧ W.cell? ⟨b0, 1, none⟩ = some y0) ∧ (W.cell? ⟨b1, 0, none⟩ = some x1 ∧ W.cell? ⟨b1, 1, none⟩ = some y1) ∧ (W.cell? ⟨b2, 0, none⟩ = some x2 ∧ W.cell? ⟨b2, 1, none⟩ = some y2) ∧ (W.cell? ⟨b3, 0, none⟩ = some x3 ∧ W.cell? ⟨b3, 1, none⟩ = some y3)) (h0 : w.heap.size ≤ r) (hr : b0 ≠ r ∧ b1 ≠ r ∧ b2 ≠ r ∧ b3 ≠ r) : Below w.heap.size w ((W.setCell ⟨r, 0, none⟩ u).setCell ⟨r, 1, none⟩ v) ∧ (((W.setCell ⟨r, 0, none⟩ u).setCell ⟨r, 1, none⟩ v).cell? ⟨b0, 0, none⟩ = some x0 ∧ ((W.setCell ⟨r, 0, none⟩ u).setCell ⟨r, 1, none⟩ v).cell? ⟨b0, 1, none⟩ = some y0) ∧ (((W.setCell ⟨r, 0, none⟩ u).setCell ⟨r, 1, none⟩ v).cell? ⟨b1, 0, none⟩ = some x1 ∧ ((W.setCell ⟨r, 0, none⟩ u).setCell ⟨r, 1, none⟩ v).cell? ⟨b1, 1, none⟩ = some y1) ∧ (((W.setCell ⟨r, 0, none⟩ u).setCell ⟨r, 1, none⟩ v).cell? ⟨b2, 0, none⟩ = some x2 ∧ ((W.setCell ⟨r, 0, none⟩ u).setCell ⟨r, 1, none⟩ v).cell? ⟨b2, 1, none⟩ = some y2) ∧ (((W.setCell ⟨r, 0, none⟩ u).setCell ⟨r, 1, none⟩ v).cell? ⟨b3, 0, none⟩ = some x3 ∧ ((W.setCell ⟨r, 0, none⟩ u).setCell ⟨r, 1, none⟩ v).cell? ⟨b3, 1, none⟩ = some y3) :=
  ⟨below_set2 h.1 h0 _ _ _ _, s4 h.2 hr⟩
theorem sb5 {w W : World} {b0 b1 b2 b3 b4 r : Nat} {x0 y0 x1 y1 x2 y2 x3 y3 x4 y4 u v : Value} (h : Below w.heap.size w W ∧ (W.cell? ⟨b0, 0, none⟩ = some x0 ∧ W.cell? ⟨b0, 1, none⟩ = some y0) ∧ (W.cell? ⟨b1, 0, none⟩ = some x1 ∧ W.cell? ⟨b1, 1, none⟩ = some y1) ∧ (W.cell? ⟨b2, 0, none⟩ = some x2 ∧ W.cell? ⟨b2, 1, none⟩ = some y2) ∧ (W.cell? ⟨b3, 0, none⟩ = some x3 ∧ W.cell? ⟨b3, 1, none⟩ = some y3) ∧ (W.cell? ⟨b4, 0, none⟩ = some x4 ∧ W.cell? ⟨b4, 1, none⟩ = some y4)) (h0 : w.heap.size ≤ r) (hr : b0 ≠ r ∧ b1 ≠ r ∧ b2 ≠ r ∧ b3 ≠ r ∧ b4 ≠ r) : Below w.heap.size w ((W.setCell ⟨r, 0, none⟩ u).setCell ⟨r, 1, none⟩ v) ∧ (((W.setCell ⟨r, 0, none⟩ u).setCell ⟨r, 1, none⟩ v).cell? ⟨b0, 0, none⟩ = some x0 ∧ ((W.setCell ⟨r, 0, none⟩ u).setCell ⟨r, 1, none⟩ v).cell? ⟨b0, 1, none⟩ = some y0) ∧ (((W.setCell ⟨r, 0, none⟩ u).setCell ⟨r, 1, none⟩ v).cell? ⟨b1, 0, none⟩ = some x1 ∧ ((W.setCell ⟨r, 0, none⟩ u).setCell ⟨r, 1, none⟩ v).cell? ⟨b1, 1, none⟩ = some y1) ∧ (((W.setCell ⟨r, 0, none⟩ u).setCell ⟨r, 1, none⟩ v).cell? ⟨b2, 0, none⟩ = some x2 ∧ ((W.setCell ⟨r, 0, none⟩ u).setCell ⟨r, 1, none⟩ v).cell? ⟨b2, 1, none⟩ = some y2) ∧ (((W.setCell ⟨r, 0, none⟩ u).setCell ⟨r, 1, none⟩ v).cell? ⟨b3, 0, none⟩ = some x3 ∧ ((W.setCell ⟨r, 0, none⟩ u).setCell ⟨r, 1, none⟩ v).cell? ⟨b3, 1, none⟩ = some y3) ∧ (((W.setCell ⟨r, 0, none⟩ u).setCell ⟨r, 1, none⟩ v).cell? ⟨b4, 0, none⟩ = some x4 ∧ ((W.setCell ⟨r, 0, none⟩ u).setCell ⟨r, 1, none⟩ v).cell? ⟨b4, 1, none⟩ = some y4) :=
  ⟨below_set2 h.1 h0 _ _ _ _, s5 h.2 hr⟩
theorem sb6 {w W : World} {b0 b1 b2 b3 b4 b5 r : Nat} {x0 y0 x1 y1 x2 y2 x3 y3 x4 y4 x5 y5 u v : Value} (h : Below w.heap.size w W ∧ (W.cell? ⟨b0, 0, none⟩ = some x0 ∧ W.cell? ⟨b0, 1, none⟩ = some y0) ∧ (W.cell? ⟨b1, 0, none⟩ = some x1 ∧ W.cell? ⟨b1, 1, none⟩ = some y1) ∧ (W.cell? ⟨b2, 0, none⟩ = some x2 ∧ W.cell? ⟨b2, 1, none⟩ = some y2) ∧ (W.cell? ⟨b3, 0, none⟩ = some x3 ∧ W.cell? ⟨b3, 1, none⟩ = some y3) ∧ (W.cell? ⟨b4, 0, none⟩ = some x4 ∧ W.cell? ⟨b4, 1, none⟩ = some y4) ∧ (W.cell? ⟨b5, 0, none⟩ = some x5 ∧ W.cell? ⟨b5, 1, none⟩ = some y5)) (h0 : w.heap.size ≤ r) (hr : b0 ≠ r ∧ b1 ≠ r ∧ b2 ≠ r ∧ b3 ≠ r ∧ b4 ≠ r ∧ b5 ≠ r) : Below w.heap.size w ((W.setCell ⟨r, 0, none⟩ u).setCell ⟨r, 1, none⟩ v) ∧ (((W.setCell ⟨r, 0, none⟩ u).setCell ⟨r, 1, none⟩ v).cell? ⟨b0, 0, none⟩ = some x0 ∧ ((W.setCell ⟨r, 0, none⟩ u).setCell ⟨r, 1, none⟩ v).cell? ⟨b0, 1, none⟩ = some y0) ∧ (((W.setCell ⟨r, 0, none⟩ u).setCell ⟨r, 1, none⟩ v).cell? ⟨b1, 0, none⟩ = some x1 ∧ ((W.setCell ⟨r, 0, none⟩ u).setCell ⟨r, 1, none⟩ v).cell? ⟨b1, 1, none⟩ = some y1) ∧ (((W.setCell ⟨r, 0, none⟩ u).setCell ⟨r, 1, none⟩ v).cell? ⟨b2, 0, none⟩ = some x2 ∧ ((W.setCell ⟨r, 0, none⟩ u).setCell ⟨r, 1, none⟩ v).cell? ⟨b2, 1, none⟩ = some y2) ∧ (((W.setCell ⟨r, 0, none⟩ u).setCell ⟨r, 1, none⟩ v).cell? ⟨b3, 0, none⟩ = some x3 ∧ ((W.setCell ⟨r, 0, none⟩ u).setCell ⟨r, 1, none⟩ v).cell? ⟨b3, 1, none⟩ = some y3) ∧ (((W.setCell ⟨r, 0, none⟩ u).setCell ⟨r, 1, none⟩ v).cell? ⟨b4, 0, none⟩ = some x4 ∧ ((W.setCell ⟨r, 0, none⟩ u).setCell ⟨r, 1, none⟩ v).cell? ⟨b4, 1, none⟩ = some y4) ∧ (((W.setCell ⟨r, 0, none⟩ u).setCell ⟨r, 1, none⟩ v).cell? ⟨b5, 0, none⟩ = some x5 ∧ ((W.setCell ⟨r, 0, none⟩ u).setCell ⟨r, 1, none⟩ v).cell? ⟨b5, 1, none⟩ = some y5) :=
  ⟨below_set2 h.1 h0 _ _ _ _, s6 h.2 hr⟩
theorem sb7 {w W : World} {b0 b1 b2 b3 b4 b5 b6 r : Nat} {x0 y0 x1 y1 x2 y2 x3 y3 x4 y4 x5 y5 x6 y6 u v : Value} (h : Below w.heap.size w W ∧ (W.cell? ⟨b0, 0, none⟩ = some x0 ∧ W.cell? ⟨b0, 1, none⟩ = some y0) ∧ (W.cell? ⟨b1, 0, none⟩ = some x1 ∧ W.cell? ⟨b1, 1, none⟩ = some y1) ∧ (W.cell? ⟨b2, 0, none⟩ = some x2 ∧ W.cell? ⟨b2, 1, none⟩ = some y2) ∧ (W.cell? ⟨b3, 0, none⟩ = some x3 ∧ W.cell? ⟨b3, 1, none⟩ = some y3) ∧ (W.cell? ⟨b4, 0, none⟩ = some x4 ∧ W.cell? ⟨b4, 1, none⟩ = some y4) ∧ (W.cell? ⟨b5, 0, none⟩ = some x5 ∧ W.cell? ⟨b5, 1, none⟩ = some y5) ∧ (W.cell? ⟨b6, 0, none⟩ = some x6 ∧ W.cell? ⟨b6, 1, none⟩ = some y6)) (h0 : w.heap.size ≤ r) (hr : b0 ≠ r ∧ b1 ≠ r ∧ b2 ≠ r ∧ b3 ≠ r ∧ b4 ≠ r ∧ b5 ≠ r ∧ b6 ≠ r) : Below w.heap.size w ((W.setCell ⟨r, 0, none⟩ u).setCell ⟨r, 1, none⟩ v) ∧ (((W.setCell ⟨r, 0, none⟩ u).setCell ⟨r, 1, none⟩ v).cell? ⟨b0, 0, none⟩ = some x0 ∧ ((W.setCell ⟨r, 0, none⟩ u).setCell ⟨r, 1, none⟩ v).cell? ⟨b0, 1, none⟩ = some y0) ∧ (((W.setCell ⟨r, 0, none⟩ u).setCell ⟨r, 1, none⟩ v).cell? ⟨b1, 0, none⟩ = some x1 ∧ ((W.setCell ⟨r, 0, none⟩ u).setCell ⟨r, 1, none⟩ v).cell? ⟨b1, 1, none⟩ = some y1) ∧ (((W.setCell ⟨r, 0, none⟩ u).setCell ⟨r, 1, none⟩ v).cell? ⟨b2, 0, none⟩ = some x2 ∧ ((W.setCell ⟨r, 0, none⟩ u).setCell ⟨r, 1, none⟩ v).cell? ⟨b2, 1, none⟩ = some y2) ∧ (((W.setCell ⟨r, 0, none⟩ u).setCell ⟨r, 1, none⟩ v).cell? ⟨b3, 0, none⟩ = some x3 ∧ ((W.setCell ⟨r, 0, none⟩ u).setCell ⟨r, 1, none⟩ v).cell? ⟨b3, 1, none⟩ = some y3) ∧ (((W.setCell ⟨r, 0, none⟩ u).setCell ⟨r, 1, none⟩ v).cell? ⟨b4, 0, none⟩ = some x4 ∧ ((W.setCell ⟨r, 0, none⟩ u).setCell ⟨r, 1, none⟩ v).cell? ⟨b4, 1, none⟩ = some y4) ∧ (((W.setCell ⟨r, 0, none⟩ u).setCell ⟨r, 1, none⟩ v).cell? ⟨b5, 0, none⟩ = some x5 ∧ ((W.setCell ⟨r, 0, none⟩ u).setCell ⟨r, 1, none⟩ v).cell? ⟨b5, 1, none⟩ = some y5) ∧ (((W.setCell ⟨r, 0, none⟩ u).setCell ⟨r, 1, none⟩ v).cell? ⟨b6, 0, none⟩ = some x6 ∧ ((W.setCell ⟨r, 0, none⟩ u).setCell ⟨r, 1, none⟩ v).cell? ⟨b6, 1, none⟩ = some y6) :=
  ⟨below_set2 h.1 h0 _ _ _ _, s7 h.2 hr⟩
theorem Bk.far2 {W : World} {b r : Nat} {cs : Array Value} (h : Bk W b cs) (hr : b ≠ r) (u v : Value) : Bk ((W.setCell ⟨r, 0, none⟩ u).setCell ⟨r, 1, none⟩ v) b cs := (h.far (p := ⟨r, 0, none⟩) hr u).far (p := ⟨r, 1, none⟩) hr v
end Go.Proofs.YtmipcelnmmjplaaGreatDoor
/- Taking an operation first, its slot said outright. -/
namespace Go.Proofs.YtmipcelnmmjplaaGreatDoor
open Go.RowKit Go.Shelf

theorem dag_take {P : Program} {ops : Array Oper} {Q : Exit → Act → World → Prop} {S : World → Prop} {md : Region.Mode} {i : Nat} {oi : Oper} {d : Option Tmp} {v : Value} {fuel : Nat} {listed : Array Bool} {a : Act} {w : World} (hi : ops[i]? = some oi) (hd : oi.dst = d)
    (hs : Region.noSelect ops = true) (hf : Region.free md ops listed i = true) (hr : (Region.ready md ops listed).contains i = true)
    (hQ : ∀ c a w, Q (.panic c) (a.put d v) w → Q (.panic c) a w) (hy : YieldsIf P ops S oi v a) (hS : S w)
    (h : wpAnyH P md ops Q S fuel (listed.setIfInBounds i true) (a.put d v) w) : wpAnyH P md ops Q S (fuel + 1) listed a w := by
  subst hd
  exact wpAnyH_take hi hs hf hr hQ hy hS h
end Go.Proofs.YtmipcelnmmjplaaGreatDoor
