/- Plain facts on sums of Ints, and of the texts on either side of 0: no function is walked in this text. -/
import Derived.Test.YtfgolecbchhokaaGreatDoorWApp
import Derived.Test.YtfgolecbchhokaaGreatDoorWMem
namespace Go.Proofs.YtfgolecbchhokaaGreatDoor
open Go.RowKit Go.Shelf

/-- What the first k are together. -/
def sumI (l : List IV) (k : Nat) : Int := ((l.take k).map fun x => wv x.1 x.2).sum
theorem sumI_zero (l : List IV) : sumI l 0 = 0 := rfl
theorem sumI_succ {l : List IV} {k : Nat} (h : k < l.length) : sumI l (k + 1) = sumI l k + wv l[k].1 l[k].2 := by
  unfold sumI
  rw [List.take_succ_eq_append_getElem h, List.map_append, List.sum_append]
  show _ + (wv l[k].1 l[k].2 + 0) = _
  rw [Int.add_zero]
/-- Texts, together. -/
def sumS (l : List ByteArray) : Nat := (l.map num).sum
theorem sumS_nil : sumS [] = 0 := rfl
theorem sumS_one (s : ByteArray) : sumS [s] = num s := by simp [sumS]
theorem sumS_snoc (l : List ByteArray) (s : ByteArray) : sumS (l ++ [s]) = sumS l + num s := by simp [sumS]
theorem sumTo_all (l : List ByteArray) : sumTo l l.length = sumS l := by unfold sumTo sumS; rw [List.take_length]
theorem sumS_le (l : List ByteArray) (B : Nat) (h : ∀ s ∈ l, s.size ≤ B) : sumS l ≤ l.length * 256 ^ B := by
  induction l with
  | nil => simp [sumS]
  | cons s l ih =>
    have h1 := ih fun t ht => h t (List.mem_cons_of_mem _ ht)
    have h2 : num s ≤ 256 ^ B := Nat.le_of_lt (Nat.lt_of_lt_of_le (num_lt s) (Nat.pow_le_pow_right (by omega) (h s (List.mem_cons_self ..))))
    have h3 : sumS (s :: l) = num s + sumS l := by simp [sumS]
    rw [h3, List.length_cons, Nat.add_mul, Nat.one_mul]
    omega
theorem sumS_size {l : List ByteArray} {B : Nat} (h : ∀ s ∈ l, s.size ≤ B) (hl : l.length ≤ 1000000) : (fb (sumS l)).size ≤ B + 3 := by
  refine fb_size_le ?_
  have h1 := sumS_le l B h
  have h2 : l.length * 256 ^ B ≤ 1000000 * 256 ^ B := Nat.mul_le_mul_right _ hl
  have h3 : 0 < 256 ^ B := Nat.pow_pos (by omega)
  rw [Nat.pow_add]
  omega
end Go.Proofs.YtfgolecbchhokaaGreatDoor
