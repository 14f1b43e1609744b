/- Plain facts on one digit of a quotient: no program stands in this text. -/
import Derived.Test.YtemlhloipjbecaaDoorNum
namespace Go.Proofs.YtemlhloipjbecaaDoor

/-- A guess by the highest digits alone is not too small. -/
theorem guess_ge {xs ys : List Nat} {n hi lo top g : Nat} (hxl : xs.length = n + 1) (hyl : ys.length = n) (hn : 1 ≤ n) (hdx : Dig xs)
    (h1 : hi = xs.getD n 0) (h2 : lo = xs.getD (n - 1) 0) (h3 : top = ys.getD (n - 1) 0) (htop : 0 < top) (hlt : val xs < val ys * B64)
    (hg : (top ≤ hi ∧ g = 18446744073709551615) ∨ (hi < top ∧ g = (hi * B64 + lo) / top)) : val xs / val ys ≤ g := by
  have hY : 0 < val ys := by
    rcases Nat.eq_zero_or_pos (val ys) with h | h
    · rw [h] at hlt; simp at hlt
    · exact h
  have hQ : val xs / val ys < B64 := by rw [Nat.div_lt_iff_lt_mul hY, Nat.mul_comm]; exact hlt
  rcases hg with ⟨_, rfl⟩ | ⟨_, rfl⟩
  · unfold B64 at hQ; omega
  · obtain ⟨m, rfl⟩ : ∃ m, n = m + 1 := ⟨n - 1, by omega⟩
    simp only [Nat.add_sub_cancel] at h2 h3
    rw [Nat.le_div_iff_mul_le htop]
    have ey : val ys = val (ys.take m) + B64 ^ m * top := by
      rw [h3, val_split ys m (by omega)]
      congr 2
      rw [List.drop_eq_getElem_cons (by omega), List.drop_of_length_le (by omega), val_single]
      simp [hyl]
    have ex : val xs = val (xs.take m) + B64 ^ m * (hi * B64 + lo) := by
      rw [h1, h2, val_split xs m (by omega)]
      congr 2
      rw [List.drop_eq_getElem_cons (by omega), List.drop_eq_getElem_cons (by omega), List.drop_of_length_le (by omega)]
      simp only [val]
      simp [hxl, show m < m + 1 + 1 by omega]
      rw [Nat.add_comm, Nat.mul_comm]
    have hl : val (xs.take m) < B64 ^ m := by
      have := val_lt (hdx.take m)
      rw [List.length_take, Nat.min_eq_left (by omega)] at this
      exact this
    have hq : val xs / val ys * val ys ≤ val xs := Nat.div_mul_le_self _ _
    generalize val xs / val ys = Q at *
    rw [ex, ey, Nat.mul_add] at hq
    have hP : 0 < B64 ^ m := Nat.pow_pos B64_pos
    rcases Nat.lt_or_ge (hi * B64 + lo) (Q * top) with h | h
    · exfalso
      have h5 : B64 ^ m * (hi * B64 + lo + 1) ≤ B64 ^ m * (Q * top) := Nat.mul_le_mul_left _ h
      rw [Nat.mul_left_comm] at hq
      rw [Nat.mul_add] at h5
      omega
    · exact h

/-- The rest and the digit, as long as they are tried: E the rest's digits, t the digit, o what is wanting. -/
def Try (X Y P E t o : Nat) : Prop := E + t * Y = X + P * o ∧ o ≤ 1 ∧ E < P ∧ X / Y ≤ t ∧ t < B64

theorem try_first {X Y P E g o : Nat} (h : E + g * Y = X + P * o) (hE : E < P) (hYP : Y * B64 ≤ P) (hg : X / Y ≤ g) (hgB : g < B64) (hY : 0 < Y) : Try X Y P E g o := by
  refine ⟨h, ?_, hE, hg, hgB⟩
  have h1 : g * Y < B64 * Y := Nat.mul_lt_mul_of_pos_right hgB hY
  rw [Nat.mul_comm Y] at hYP
  rcases Nat.lt_or_ge o 2 with h2 | h2
  · omega
  · have : P * 2 ≤ P * o := Nat.mul_le_mul_left _ h2
    omega
theorem try_more {X Y P E t o E' c : Nat} (h : Try X Y P E t o) (ho : o ≠ 0) (hs : E' + P * c = E + Y) (hE' : E' < P) (hYP : Y * B64 ≤ P) (hY : 0 < Y) :
    1 ≤ t ∧ c ≤ o ∧ Try X Y P E' (t - 1) (o - c) := by
  obtain ⟨h1, h2, h3, h4, h5⟩ := h
  obtain rfl : o = 1 := by omega
  have hYP' : Y ≤ P := Nat.le_trans (Nat.le_mul_of_pos_right _ B64_pos) hYP
  have ht : X < t * Y := by omega
  have hq : X / Y < t := by rw [Nat.div_lt_iff_lt_mul hY]; exact ht
  have hc : c ≤ 1 := by
    rcases Nat.lt_or_ge c 2 with h | h
    · omega
    · have : P * 2 ≤ P * c := Nat.mul_le_mul_left _ h
      omega
  have h1t : 1 ≤ t := Nat.lt_of_le_of_lt (Nat.zero_le _) hq
  obtain ⟨k, rfl⟩ : ∃ k, t = k + 1 := ⟨t - 1, by omega⟩
  refine ⟨h1t, hc, ?_, by omega, hE', Nat.le_of_lt_succ hq, by omega⟩
  simp only [Nat.add_sub_cancel]
  rw [Nat.add_mul] at h1
  have : c = 0 ∨ c = 1 := by omega
  rcases this with rfl | rfl
  · simp at *; omega
  · simp at *; omega
theorem try_pos {X Y P E t o : Nat} (h : Try X Y P E t o) (ho : o ≠ 0) : 1 ≤ t := by
  obtain ⟨h1, h2, h3, _⟩ := h
  obtain rfl : o = 1 := by omega
  rcases Nat.eq_zero_or_pos t with h | h
  · subst h; omega
  · exact h
theorem try_done {X Y P E t : Nat} (h : Try X Y P E t 0) (hY : 0 < Y) : t = X / Y ∧ E = X % Y := by
  obtain ⟨h1, _, _, h4, _⟩ := h
  have h5 : t ≤ X / Y := by rw [Nat.le_div_iff_mul_le hY]; omega
  have : t = X / Y := by omega
  subst this
  refine ⟨rfl, ?_⟩
  have := Nat.div_add_mod X Y
  rw [Nat.mul_comm] at this
  omega
end Go.Proofs.YtemlhloipjbecaaDoor
