/- Facts on quotients, powers and rows of Ints that several layers want. -/
import Derived.Test.YtfgolecbchhokaaGreatDoorWHeld
import Derived.Test.YtfgolecbchhokaaGreatDoorWSg
import Derived.Test.YtfgolecbchhokaaGreatDoorWPow
import Derived.Test.YtfgolecbchhokaaGreatDoorWDiv
import Derived.Test.YtfgolecbchhokaaGreatDoorWShift
import Derived.Test.YtfgolecbchhokaaGreatDoorWMul
import Derived.Deep.DeepFit
import Derived.Deep.RegionHeld3
import Derived.Laws.AppendOwn
import Derived.Laws.AppendOwnNone
namespace Go.Proofs.YtfgolecbchhokaaGreatDoor
open Go.RowKit Go.Shelf

theorem nm2 {a : Int} (h : -1000 ≤ a ∧ a ≤ 1000) : ∃ z o, wf a = wi z o ∧ wv z o = a ∧ o.size ≤ 2 := nmw (by have : (256 : Nat) ^ 2 = 65536 := rfl; omega)
theorem quo_nmw (m n : Bool) (s t : ByteArray) : ∃ p u, wf (wv m s / wv n t) = wi p u ∧ wv p u = wv m s / wv n t ∧ u.size ≤ s.size := by
  refine nmw ?_
  have h1 : (wv m s / wv n t).natAbs ≤ (wv m s).natAbs := Int.natAbs_ediv_le_natAbs _ _
  have h4 := wv_abs m s
  have h5 := num_lt s
  omega
theorem rem_nmw (m n : Bool) (s t : ByteArray) (h0 : wv n t ≠ 0) : ∃ p u, wf (wv m s % wv n t) = wi p u ∧ wv p u = wv m s % wv n t ∧ u.size ≤ t.size := by
  refine nmw ?_
  have h1 := Int.emod_nonneg (wv m s) h0
  have h2 := Int.emod_lt (wv m s) h0
  have h4 := wv_abs n t
  have h5 := num_lt t
  omega
theorem sI_pow (n : Bool) (A k : Nat) : sI n A ^ k = sI (n && decide (k % 2 = 1)) (A ^ k) := by
  induction k with
  | zero => simp [sI]
  | succ k ih =>
    rw [Int.pow_succ, ih, sI_mul, Nat.pow_succ]
    congr 1
    rcases Nat.mod_two_eq_zero_or_one k with h | h
    · have h2 : (k + 1) % 2 = 1 := by omega
      rw [h, h2]; cases n <;> rfl
    · have h2 : (k + 1) % 2 = 0 := by omega
      rw [h, h2]; cases n <;> rfl
theorem wpow_any (w : World) (n : Bool) (s : ByteArray) (k : Nat) (hs : s.size ≤ 10000) (hk : k ≤ 64) (z : Bool) (o : ByteArray) (hz : wf (wv n s ^ k) = wi z o) :
    Calls Tryz.prog 101 #[wi n s, .int .i64 k] w (Ret (.agg #[.bool z, .string o]) w) := by
  rcases Nat.eq_zero_or_pos k with h | h
  · subst h
    exact wpow_none w n s _ (by omega) z o (by rw [Int.pow_zero] at hz; exact hz)
  · exact wpow_some w n s k hs h hk z o (by rw [← sI_pow, ← wv_sI]; exact hz)
theorem wpow_five (w : World) (n : Bool) (s : ByteArray) (hs : s.size ≤ 10000) (z : Bool) (o : ByteArray) (hz : wf (wv n s ^ 5) = wi z o) :
    Calls Tryz.prog 101 #[wi n s, .int .i64 5] w (Ret (.agg #[.bool z, .string o]) w) := wpow_any w n s 5 hs (by omega) z o hz
theorem wpow_more (w : World) (n : Bool) (s : ByteArray) (k : Nat) (hs : s.size ≤ 10000) (hk : k ≤ 50) (z : Bool) (o : ByteArray) (hz : wf (wv n s ^ (k + 5)) = wi z o) :
    Calls Tryz.prog 101 #[wi n s, .int .i64 ((k : Int) + 5)] w (Ret (.agg #[.bool z, .string o]) w) := by
  rw [show ((k : Int) + 5) = ((k + 5 : Nat) : Int) by omega]
  exact wpow_any w n s (k + 5) hs (by omega) z o hz
theorem pow_nmw (n : Bool) (s : ByteArray) (k : Nat) {B : Nat} (hs : s.size ≤ B) (hk : k ≤ 64) : ∃ p u, wf (wv n s ^ k) = wi p u ∧ wv p u = wv n s ^ k ∧ u.size ≤ 64 * B + 1 := by
  refine nmw ?_
  rw [wv_sI, sI_pow]
  have h0 : (sI (n && decide (k % 2 = 1)) (num s ^ k)).natAbs = num s ^ k := by unfold sI; split <;> omega
  rw [h0]
  have h1 : num s ^ k ≤ (256 ^ s.size) ^ k := Nat.pow_le_pow_left (Nat.le_of_lt (num_lt s)) k
  rw [← Nat.pow_mul] at h1
  have h3 : s.size * k ≤ 64 * B := by rw [Nat.mul_comm]; exact Nat.mul_le_mul hk hs
  have h2 : 256 ^ (s.size * k) ≤ 256 ^ (64 * B) := Nat.pow_le_pow_right (by omega) h3
  have h4 : 256 ^ (64 * B) < 256 ^ (64 * B + 1) := Nat.pow_lt_pow_right (by omega) (by omega)
  omega
theorem quo_lt {m n : Bool} {s t : ByteArray} : (wv m s / wv n t).natAbs < 256 ^ s.size := by
  have h1 : (wv m s / wv n t).natAbs ≤ (wv m s).natAbs := Int.natAbs_ediv_le_natAbs _ _
  have h4 := wv_abs m s
  have h5 := num_lt s
  omega
theorem rem_lt {m n : Bool} {s t : ByteArray} (h0 : wv n t ≠ 0) : (wv m s % wv n t).natAbs < 256 ^ t.size := by
  have h1 := Int.emod_nonneg (wv m s) h0
  have h2 := Int.emod_lt (wv m s) h0
  have h4 := wv_abs n t
  have h5 := num_lt t
  omega
/-- Mul, of however many. -/
theorem wmul_all (w : World) (ad : Option Addr) (l : List IV) (n c : Nat) (hn : l.length = n) (hc : n ≤ c) (hmax : n ≤ 900) (hs : ∀ x ∈ l, x.2.size ≤ 100000) (hl : IAt w ad l)
    (z : Bool) (o : ByteArray) (hz : wf (prodI l n) = wi z o) :
    Calls Tryz.prog 25 #[.slice ad n c] w (Ret (.agg #[.bool z, .string o]) w) := by
  rcases Nat.lt_or_ge n 1 with h | h
  · obtain rfl : n = 0 := by omega
    exact wmul_none w ad c z o hz
  · obtain ⟨b, off, rfl, hlt, h1, h2⟩ := hl 0 (by omega)
    rcases Nat.lt_or_ge n 2 with h2' | h2'
    · obtain rfl : n = 1 := by omega
      obtain ⟨x, rfl⟩ : ∃ x, l = [x] := List.length_eq_one_iff.1 hn
      refine wmul_one w b off c x.1 x.2 (hs x (by simp)) ?_ ?_ z o ?_
      · simpa using h1
      · simpa using h2
      · rw [← hz]
        show _ = wf (1 * wv x.1 x.2)
        rw [Int.one_mul]
    · exact wmul_any w b off l n c hn hc h2' hmax hs hl z o hz
theorem heldo {W W' : World} {b p q : Nat} {x y : Value} (hq : Below W.heap.size W W') (h : W.cell? ⟨b, p, none⟩ = some x ∧ W.cell? ⟨b, q, none⟩ = some y) : W'.cell? ⟨b, p, none⟩ = some x ∧ W'.cell? ⟨b, q, none⟩ = some y := by
  have hlt : b < W.heap.size := World.block_lt_of_cell? W _ h.1
  exact ⟨(hq.cell hlt).trans h.1, (hq.cell hlt).trans h.2⟩
theorem sI_pow' (n : Bool) (A k : Nat) : sI n A ^ k = sI (n && decide (k % 2 = 1)) (A ^ k) := by
  induction k with
  | zero => simp [sI]
  | succ k ih =>
    rw [Int.pow_succ, ih, sI_mul, Nat.pow_succ]
    congr 1
    rcases Nat.mod_two_eq_zero_or_one k with h | h
    · have h2 : (k + 1) % 2 = 1 := by omega
      rw [h, h2]; cases n <;> rfl
    · have h2 : (k + 1) % 2 = 0 := by omega
      rw [h, h2]; cases n <;> rfl
theorem wpow_int (w : World) (n : Bool) (s : ByteArray) (k : Int) (hs : s.size ≤ 10000) (hk : k ≤ 64) (z : Bool) (o : ByteArray) (hz : wf (wv n s ^ k.toNat) = wi z o) :
    Calls Tryz.prog 101 #[wi n s, .int .i64 k] w (Ret (.agg #[.bool z, .string o]) w) := by
  by_cases h : k < 1
  · refine wpow_none w n s k h z o ?_
    rw [← hz, show k.toNat = 0 by omega, Int.pow_zero]
  · obtain ⟨j, rfl⟩ : ∃ j : Nat, k = (j : Int) := ⟨k.toNat, by omega⟩
    refine wpow_some w n s j hs (by omega) (by omega) z o ?_
    rw [← sI_pow', ← wv_sI]
    exact hz
theorem icells_len : ∀ l : List IV, (icells l).length = l.length * 2
  | [] => rfl
  | x :: l => by rw [icells, List.length_cons, List.length_cons, icells_len l, List.length_cons]; omega
theorem icells_one : ∀ (l : List IV) (u : Value), u ∈ icells l → u.oneCell' = true
  | [], _, h => by cases h
  | x :: l, u, h => by
    rw [icells, List.mem_cons, List.mem_cons] at h
    rcases h with rfl | rfl | h
    · rfl
    · rfl
    · exact icells_one l u h
theorem icells_at {w : World} {a : Addr} {l : List IV} (h : IAt w (some a) l) (j : Nat) (u : Value) (hj : (icells l)[j]? = some u) : w.cell? (a.add j) = some u := by
  obtain ⟨hlt, hju⟩ := List.getElem?_eq_some_iff.1 hj
  rw [icells_len] at hlt
  have hi : j / 2 < l.length := by omega
  obtain ⟨lb, lo, e, _, h1, h2⟩ := h (j / 2) hi
  obtain rfl : a = ⟨lb, lo, none⟩ := by simpa using e
  have ea : (⟨lb, lo, none⟩ : Addr).add j = ⟨lb, lo + j, none⟩ := by unfold Addr.add; split <;> simp_all
  have hg := icells_get l (j / 2) hi
  rw [ea]
  rcases Nat.mod_two_eq_zero_or_one j with hm | hm
  · have e2 : j / 2 * 2 = j := by omega
    rw [e2] at h1 hg
    rw [h1, ← hj, hg.1]
  · have e2 : j / 2 * 2 + 1 = j := by omega
    rw [Nat.add_assoc, e2] at h2
    rw [e2] at hg
    rw [h2, ← hj, hg.2]
theorem own_row {w : World} {B n : Nat} {v : Value} {l : List IV} (hn : l.length = n) (h : w.ownsRow B 23 2 v n (icells l)) : ∃ od oc, v = .slice od n oc ∧ n ≤ oc ∧ IAt w od l := by
  rcases h.2 with ⟨rfl, rfl⟩ | ⟨g, cap, cur, rfl, _, hg, hc, _, _, _⟩
  · obtain rfl : l = [] := List.eq_nil_of_length_eq_zero hn
    exact ⟨none, 0, rfl, Nat.le_refl _, IAt.nil _ _⟩
  · refine ⟨some ⟨g, 0, none⟩, cap, rfl, hc, fun i hi => ?_⟩
    have hcell := h.cells (g := g) rfl
    have hgt := icells_get l i hi
    have ea : ∀ j : Nat, (⟨g, 0, none⟩ : Addr).add j = ⟨g, 0 + j, none⟩ := fun j => by unfold Addr.add; split <;> simp_all
    have h1 := hcell _ _ hgt.1
    have h2 := hcell _ _ hgt.2
    rw [ea] at h1 h2
    exact ⟨g, 0, rfl, World.block_lt_of_cell? w _ h1, h1, by rw [Nat.add_assoc]; exact h2⟩
theorem infoI4 : (Tryz.prog.info? 23).map (fun i => (i.zero, i.size, i.bytes)) = some (some (.agg #[.bool false, .string ⟨#[]⟩]), 2, 24) := by kernel_rfl
theorem hbc2 {w W W' : World} {b0 p0 q0 b1 p1 q1 : Nat} {x0 y0 x1 y1 : Value} (hq : Below W.heap.size W W') (h : Below w.heap.size w W ∧ (W.cell? ⟨b0, p0, none⟩ = some x0 ∧ W.cell? ⟨b0, q0, none⟩ = some y0) ∧ (W.cell? ⟨b1, p1, none⟩ = some x1 ∧ W.cell? ⟨b1, q1, none⟩ = some y1)) : Below w.heap.size w W' ∧ (W'.cell? ⟨b0, p0, none⟩ = some x0 ∧ W'.cell? ⟨b0, q0, none⟩ = some y0) ∧ (W'.cell? ⟨b1, p1, none⟩ = some x1 ∧ W'.cell? ⟨b1, q1, none⟩ = some y1) :=
  ⟨below_next h.1 hq, heldo hq h.2.1, heldo hq h.2.2⟩
theorem hbc3 {w W W' : World} {b0 p0 q0 b1 p1 q1 b2 p2 q2 : Nat} {x0 y0 x1 y1 x2 y2 : Value} (hq : Below W.heap.size W W') (h : Below w.heap.size w W ∧ (W.cell? ⟨b0, p0, none⟩ = some x0 ∧ W.cell? ⟨b0, q0, none⟩ = some y0) ∧ (W.cell? ⟨b1, p1, none⟩ = some x1 ∧ W.cell? ⟨b1, q1, none⟩ = some y1) ∧ (W.cell? ⟨b2, p2, none⟩ = some x2 ∧ W.cell? ⟨b2, q2, none⟩ = some y2)) : Below w.heap.size w W' ∧ (W'.cell? ⟨b0, p0, none⟩ = some x0 ∧ W'.cell? ⟨b0, q0, none⟩ = some y0) ∧ (W'.cell? ⟨b1, p1, none⟩ = some x1 ∧ W'.cell? ⟨b1, q1, none⟩ = some y1) ∧ (W'.cell? ⟨b2, p2, none⟩ = some x2 ∧ W'.cell? ⟨b2, q2, none⟩ = some y2) :=
  ⟨below_next h.1 hq, heldo hq h.2.1, heldo hq h.2.2.1, heldo hq h.2.2.2⟩
end Go.Proofs.YtfgolecbchhokaaGreatDoor
