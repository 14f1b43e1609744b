/- Facts for SpanInside and SpanWithin: places, products, quotients between ends; no function is walked in this text. -/
import Derived.Test.YthggjlkeadjhcaaGreatDoorSQuo
import Derived.Test.YthggjlkeadjhcaaGreatDoorSOrd
namespace Go.Proofs.YthggjlkeadjhcaaGreatDoor
open Go.RowKit Go.Shelf

/-- A number so many 256ths of the way between two. -/
def placeD (lo hi : Dyadic) (n : Int) : Dyadic := lo + (hi - lo) * .ofIntWithPrec n 0 * .ofIntWithPrec 1 8
theorem place_in {lo hi : Dyadic} {n : Int} (h0 : 0 ≤ n) (h1 : n ≤ 255) (h : lo.toRat ≤ hi.toRat) : lo.toRat ≤ (placeD lo hi n).toRat ∧ (placeD lo hi n).toRat ≤ hi.toRat := by
  unfold placeD
  rw [Dyadic.toRat_add, Dyadic.toRat_mul, Dyadic.toRat_mul, Dyadic.toRat_sub, ofI_toRat, ofI_toRat]
  have e1 : (2 : Rat) ^ (-(0 : Int)) = 1 := by decide +kernel
  have e2 : (2 : Rat) ^ (-(8 : Int)) = 1 / 256 := by decide +kernel
  rw [e1, e2]
  have g0 : (0 : Rat) ≤ (n : Rat) := by exact_mod_cast h0
  have g1 : (n : Rat) ≤ ((255 : Int) : Rat) := Rat.intCast_le_intCast.2 h1
  have e4 : ((255 : Int) : Rat) = 255 := rfl
  rw [e4] at g1
  generalize (n : Rat) = k at *
  have hd : 0 ≤ hi.toRat - lo.toRat := by grind
  have k1 := Rat.mul_nonneg hd g0
  have k2 := Rat.mul_le_mul_of_nonneg_left g1 hd
  generalize lo.toRat = x at *
  generalize hi.toRat = y at *
  have e3 : ((1 : Int) : Rat) = 1 := rfl
  rw [e3]
  constructor <;> grind
theorem inv_le {c y : Rat} (hc : 0 < c) (h : c ≤ y) : y⁻¹ ≤ c⁻¹ := by
  have hy : 0 < y := by grind
  have h1 := Rat.inv_pos.2 hc
  have h2 := Rat.inv_pos.2 hy
  have e1 : c * c⁻¹ = 1 := Rat.mul_inv_cancel c (by grind)
  have e2 : y * y⁻¹ = 1 := Rat.mul_inv_cancel y (by grind)
  have h3 := Rat.mul_le_mul_of_nonneg_right h (Rat.le_of_lt (Rat.mul_pos h1 h2))
  have e3 : c * (c⁻¹ * y⁻¹) = y⁻¹ := by rw [← Rat.mul_assoc, e1, Rat.one_mul]
  have e4 : y * (c⁻¹ * y⁻¹) = c⁻¹ := by rw [Rat.mul_comm c⁻¹, ← Rat.mul_assoc, e2, Rat.one_mul]
  rw [e3, e4] at h3
  exact h3
theorem inv_minus {y : Rat} (h : y ≠ 0) : (-y)⁻¹ = -y⁻¹ := by
  refine Rat.inv_eq_of_mul_eq_one ?_
  rw [Rat.neg_mul, Rat.mul_neg, Rat.mul_inv_cancel y h]
  rfl
theorem inv_le' {c d y : Rat} (hz : 0 < c ∨ d < 0) (hc : c ≤ y) (hd : y ≤ d) : d⁻¹ ≤ y⁻¹ ∧ y⁻¹ ≤ c⁻¹ := by
  rcases hz with hz | hz
  · exact ⟨inv_le (by grind) hd, inv_le hz hc⟩
  · have n1 : (-y)⁻¹ ≤ (-d)⁻¹ := inv_le (by grind) (by grind)
    have n2 : (-c)⁻¹ ≤ (-y)⁻¹ := inv_le (by grind) (by grind)
    rw [inv_minus (by grind), inv_minus (by grind)] at n1 n2
    exact ⟨by grind, by grind⟩
theorem quo_low {L a b c d x y : Rat} (hz : 0 < c ∨ d < 0) (h1 : L ≤ a / c) (h2 : L ≤ a / d) (h3 : L ≤ b / c) (h4 : L ≤ b / d) (ha : a ≤ x) (hb : x ≤ b) (hc : c ≤ y) (hd : y ≤ d) : L ≤ x / y := by
  obtain ⟨k1, k2⟩ := inv_le' hz hc hd
  rw [Rat.div_def] at *
  exact mul_low h2 h1 h4 h3 ha hb k1 k2
theorem quo_high {U a b c d x y : Rat} (hz : 0 < c ∨ d < 0) (h1 : a / c ≤ U) (h2 : a / d ≤ U) (h3 : b / c ≤ U) (h4 : b / d ≤ U) (ha : a ≤ x) (hb : x ≤ b) (hc : c ≤ y) (hd : y ≤ d) : x / y ≤ U := by
  obtain ⟨k1, k2⟩ := inv_le' hz hc hd
  rw [Rat.div_def] at *
  exact mul_high h2 h1 h4 h3 ha hb k1 k2
/-- The quotient's lower end is one of the four corners' or above it. -/
theorem quo_corner_low {a b c d x y : Rat} (hz : 0 < c ∨ d < 0) (ha : a ≤ x) (hb : x ≤ b) (hc : c ≤ y) (hd : y ≤ d) : a / c ≤ x / y ∨ a / d ≤ x / y ∨ b / c ≤ x / y ∨ b / d ≤ x / y := by
  by_cases h1 : a / c ≤ x / y
  · exact .inl h1
  by_cases h2 : a / d ≤ x / y
  · exact .inr (.inl h2)
  by_cases h3 : b / c ≤ x / y
  · exact .inr (.inr (.inl h3))
  by_cases h4 : b / d ≤ x / y
  · exact .inr (.inr (.inr h4))
  obtain ⟨L, hL, l1, l2, l3, l4⟩ : ∃ L, x / y < L ∧ L ≤ a / c ∧ L ≤ a / d ∧ L ≤ b / c ∧ L ≤ b / d := by
    generalize x / y = q at *
    generalize a / c = r1 at *
    generalize a / d = r2 at *
    generalize b / c = r3 at *
    generalize b / d = r4 at *
    rcases Rat.le_total (a := r1) (b := r2) with h5 | h5 <;> rcases Rat.le_total (a := r3) (b := r4) with h6 | h6
    · rcases Rat.le_total (a := r1) (b := r3) with h7 | h7
      · exact ⟨r1, by grind, by grind, by grind, by grind, by grind⟩
      · exact ⟨r3, by grind, by grind, by grind, by grind, by grind⟩
    · rcases Rat.le_total (a := r1) (b := r4) with h7 | h7
      · exact ⟨r1, by grind, by grind, by grind, by grind, by grind⟩
      · exact ⟨r4, by grind, by grind, by grind, by grind, by grind⟩
    · rcases Rat.le_total (a := r2) (b := r3) with h7 | h7
      · exact ⟨r2, by grind, by grind, by grind, by grind, by grind⟩
      · exact ⟨r3, by grind, by grind, by grind, by grind, by grind⟩
    · rcases Rat.le_total (a := r2) (b := r4) with h7 | h7
      · exact ⟨r2, by grind, by grind, by grind, by grind, by grind⟩
      · exact ⟨r4, by grind, by grind, by grind, by grind, by grind⟩
  have := quo_low hz l1 l2 l3 l4 ha hb hc hd
  exact absurd this (by grind)
theorem quo_corner_high {a b c d x y : Rat} (hz : 0 < c ∨ d < 0) (ha : a ≤ x) (hb : x ≤ b) (hc : c ≤ y) (hd : y ≤ d) : x / y ≤ a / c ∨ x / y ≤ a / d ∨ x / y ≤ b / c ∨ x / y ≤ b / d := by
  have h := quo_corner_low (a := -b) (b := -a) (x := -x) hz (by grind) (by grind) hc hd
  simp only [Rat.div_def, Rat.neg_mul] at h ⊢
  grind
theorem far4_low (a b c d : NV) : (farD (-1) [a, b, c, d] 4).toRat ≤ (nvl a).toRat ∧ (farD (-1) [a, b, c, d] 4).toRat ≤ (nvl b).toRat ∧ (farD (-1) [a, b, c, d] 4).toRat ≤ (nvl c).toRat ∧ (farD (-1) [a, b, c, d] 4).toRat ≤ (nvl d).toRat ∧ (farD (-1) [a, b, c, d] 4 = nvl a ∨ farD (-1) [a, b, c, d] 4 = nvl b ∨ farD (-1) [a, b, c, d] 4 = nvl c ∨ farD (-1) [a, b, c, d] 4 = nvl d) := by
  have h : farD (-1) [a, b, c, d] 4 = f2 (-1) (farD (-1) [a, b, c] 3) (nvl d) := rfl
  rw [h]
  obtain ⟨h1, h2, h3, h4⟩ := far3_low a b c
  obtain ⟨h5, h6, h7⟩ := f2_low (farD (-1) [a, b, c] 3) (nvl d)
  refine ⟨by grind, by grind, by grind, h6, ?_⟩
  rcases h7 with h7 | h7
  · rw [h7]
    rcases h4 with h4 | h4 | h4
    · exact .inl h4
    · exact .inr (.inl h4)
    · exact .inr (.inr (.inl h4))
  · exact .inr (.inr (.inr h7))
theorem far4_high (a b c d : NV) : (nvl a).toRat ≤ (farD 1 [a, b, c, d] 4).toRat ∧ (nvl b).toRat ≤ (farD 1 [a, b, c, d] 4).toRat ∧ (nvl c).toRat ≤ (farD 1 [a, b, c, d] 4).toRat ∧ (nvl d).toRat ≤ (farD 1 [a, b, c, d] 4).toRat ∧ (farD 1 [a, b, c, d] 4 = nvl a ∨ farD 1 [a, b, c, d] 4 = nvl b ∨ farD 1 [a, b, c, d] 4 = nvl c ∨ farD 1 [a, b, c, d] 4 = nvl d) := by
  have h : farD 1 [a, b, c, d] 4 = f2 1 (farD 1 [a, b, c] 3) (nvl d) := rfl
  rw [h]
  obtain ⟨h1, h2, h3, h4⟩ := far3_high a b c
  obtain ⟨h5, h6, h7⟩ := f2_high (farD 1 [a, b, c] 3) (nvl d)
  refine ⟨by grind, by grind, by grind, h6, ?_⟩
  rcases h7 with h7 | h7
  · rw [h7]
    rcases h4 with h4 | h4 | h4
    · exact .inl h4
    · exact .inr (.inl h4)
    · exact .inr (.inr (.inl h4))
  · exact .inr (.inr (.inr h7))
theorem far2_low (a b : NV) : (farD (-1) [a, b] 2).toRat ≤ (nvl a).toRat ∧ (farD (-1) [a, b] 2).toRat ≤ (nvl b).toRat := by
  have h : farD (-1) [a, b] 2 = f2 (-1) (nvl a) (nvl b) := rfl
  rw [h]
  exact ⟨(f2_low _ _).1, (f2_low _ _).2.1⟩
theorem far2_high (a b : NV) : (nvl a).toRat ≤ (farD 1 [a, b] 2).toRat ∧ (nvl b).toRat ≤ (farD 1 [a, b] 2).toRat := by
  have h : farD 1 [a, b] 2 = f2 1 (nvl a) (nvl b) := rfl
  rw [h]
  exact ⟨(f2_high _ _).1, (f2_high _ _).2.1⟩
end Go.Proofs.YthggjlkeadjhcaaGreatDoor
