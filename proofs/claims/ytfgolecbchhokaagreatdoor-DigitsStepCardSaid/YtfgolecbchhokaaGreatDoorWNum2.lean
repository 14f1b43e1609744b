/- Ints that stand for sums, differences, products, powers: their texts, and how long these are. -/
import Derived.Test.YtfgolecbchhokaaGreatDoorWNum
namespace Go.Proofs.YtfgolecbchhokaaGreatDoor

theorem wv_lt {n : Bool} {s : ByteArray} {k : Nat} (h : s.size ≤ k) : (wv n s).natAbs < 256 ^ k := by rw [wv_abs]; exact lt_size h
theorem neg_nmw (n : Bool) (t : ByteArray) {k : Nat} (h : t.size ≤ k) : ∃ p u, wf (-wv n t) = wi p u ∧ wv p u = -wv n t ∧ u.size ≤ k := nmw (by rw [Int.natAbs_neg]; exact wv_lt h)
theorem form_nmw (n : Bool) (t : ByteArray) {k : Nat} (h : t.size ≤ k) : ∃ p u, wf (wv n t) = wi p u ∧ wv p u = wv n t ∧ u.size ≤ k := nmw (wv_lt h)
theorem plus_nmw (m n : Bool) (s t : ByteArray) {k : Nat} (hs : s.size ≤ k) (ht : t.size ≤ k) : ∃ p u, wf (wv m s + wv n t) = wi p u ∧ wv p u = wv m s + wv n t ∧ u.size ≤ k + 1 := by
  refine nmw ?_
  have h1 := Int.natAbs_add_le (wv m s) (wv n t)
  have h2 := lt_add (wv_lt (n := m) hs) (wv_lt (n := n) ht)
  omega
theorem minus_nmw (m n : Bool) (s t : ByteArray) {k : Nat} (hs : s.size ≤ k) (ht : t.size ≤ k) : ∃ p u, wf (wv m s - wv n t) = wi p u ∧ wv p u = wv m s - wv n t ∧ u.size ≤ k + 1 := by
  refine nmw ?_
  have h1 := Int.natAbs_sub_le (wv m s) (wv n t)
  have h2 := lt_add (wv_lt (n := m) hs) (wv_lt (n := n) ht)
  omega
theorem times_nmw (m n : Bool) (s t : ByteArray) {k l : Nat} (hs : s.size ≤ k) (ht : t.size ≤ l) : ∃ p u, wf (wv m s * wv n t) = wi p u ∧ wv p u = wv m s * wv n t ∧ u.size ≤ k + l := by
  refine nmw ?_
  rw [Int.natAbs_mul]
  exact lt_mul (wv_lt hs) (wv_lt ht)
end Go.Proofs.YtfgolecbchhokaaGreatDoor
