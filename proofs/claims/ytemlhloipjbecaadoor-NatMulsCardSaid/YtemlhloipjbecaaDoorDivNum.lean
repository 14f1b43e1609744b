/- Plain facts on the division of two digits by one, half digit by half digit: no program stands in this text. -/
import Derived.Test.YtemlhloipjbecaaDoorNum
namespace Go.Proofs.YtemlhloipjbecaaDoor

/-- The guess q with its rest r is not too small. -/
def Gs (y1 y hi u q r : Nat) : Prop := q * y1 + r = hi ∧ r < 4294967296 ∧ q ≤ 4294967297 ∧ hi * 4294967296 + u < (q + 1) * y
/-- The guess is right. -/
def Rt (y N q : Nat) : Prop := q * y ≤ N ∧ N < (q + 1) * y

section
variable {y1 y0 y hi u q r : Nat}
theorem mul_halves (hy : y = y1 * 4294967296 + y0) (q : Nat) : q * y = q * y1 * 4294967296 + q * y0 := by
  rw [hy, Nat.mul_add, Nat.mul_assoc]
theorem gs_init (hy : y = y1 * 4294967296 + y0) (h1 : 2147483648 ≤ y1) (h1' : y1 < 4294967296) (h0 : y0 < 4294967296) (hlt : hi < y) (hu : u < 4294967296) : Gs y1 y hi u (hi / y1) (hi % y1) := by
  refine ⟨by rw [Nat.mul_comm]; exact Nat.div_add_mod hi y1, ?_, ?_, ?_⟩
  · have := Nat.mod_lt hi (show 0 < y1 by omega)
    omega
  · have : hi / y1 < 4294967298 := by rw [Nat.div_lt_iff_lt_mul (by omega)]; omega
    omega
  · have h := Nat.lt_div_mul_add (a := hi) (b := y1) (by omega)
    have e := mul_halves hy (hi / y1 + 1)
    rw [e, Nat.add_mul]
    omega
theorem gs_exit (hy : y = y1 * 4294967296 + y0) (h : Gs y1 y hi u q r) (hc : q * y0 ≤ 4294967296 * r + u) : Rt y (hi * 4294967296 + u) q := by
  refine ⟨?_, h.2.2.2⟩
  rw [mul_halves hy]
  have := h.1
  omega
theorem gs_dec (hy : y = y1 * 4294967296 + y0) (hlt : hi < y) (hu : u < 4294967296) (h : Gs y1 y hi u q r) (hc : 4294967296 ≤ q ∨ 4294967296 * r + u < q * y0) :
    1 ≤ q ∧ (q - 1) * y1 + (r + y1) = hi ∧ q - 1 ≤ 4294967296 ∧ hi * 4294967296 + u < (q - 1 + 1) * y := by
  have hq : 1 ≤ q := by
    rcases Nat.eq_zero_or_pos q with h0 | h0
    · subst h0; simp at hc
    · exact h0
  obtain ⟨k, rfl⟩ : ∃ k, q = k + 1 := ⟨q - 1, by omega⟩
  obtain ⟨g1, g2, g3, g4⟩ := h
  simp only [Nat.add_sub_cancel]
  refine ⟨hq, by rw [Nat.add_mul] at g1; omega, by omega, ?_⟩
  rcases hc with hc | hc
  · have : 4294967296 * y ≤ (k + 1) * y := Nat.mul_le_mul_right _ hc
    omega
  · rw [mul_halves hy]
    omega
theorem gs_break (hy : y = y1 * 4294967296 + y0) (h0 : y0 < 4294967296) {k s : Nat} (h1 : k * y1 + s = hi) (h2 : k ≤ 4294967296) (h3 : hi * 4294967296 + u < (k + 1) * y) (hs : 4294967296 ≤ s) :
    Rt y (hi * 4294967296 + u) k := by
  refine ⟨?_, h3⟩
  rw [mul_halves hy]
  have : k * y0 ≤ 4294967296 * 4294967295 := Nat.mul_le_mul h2 (by omega)
  omega
theorem rt_rest (h : Rt y (hi * 4294967296 + u) q) (hlt : hi < y) (hu : u < 4294967296) : hi * 4294967296 + u - q * y < y ∧ q < 4294967296 := by
  obtain ⟨a, b⟩ := h
  rw [Nat.add_mul] at b
  refine ⟨by omega, ?_⟩
  rcases Nat.lt_or_ge q 4294967296 with h | h
  · exact h
  · have : 4294967296 * y ≤ q * y := Nat.mul_le_mul_right _ h
    omega
end
end Go.Proofs.YtemlhloipjbecaaDoor
