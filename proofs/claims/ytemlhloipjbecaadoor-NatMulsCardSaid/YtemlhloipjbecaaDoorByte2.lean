/- Plain facts on numbers as strings of bytes: order, length, noughts below. No program stands in this text. -/
import Derived.Test.YtemlhloipjbecaaDoorByte
import Derived.Lib.Bytealg
import Derived.Lib.BitFns
import Derived.Lib.ItoaNum
import Derived.Lib.Small
import Derived.Lib.TrimByte
namespace Go.Proofs.YtemlhloipjbecaaDoor

/-- A number's one form, as a string's bytes. -/
def fb (n : Nat) : ByteArray := ⟨(formL n).toArray⟩
/-- The number of a string's bytes. -/
def num (s : ByteArray) : Nat := numL s.data.toList
theorem fb_toList (n : Nat) : (fb n).data.toList = formL n := rfl
theorem num_fb (n : Nat) : num (fb n) = n := by unfold num; rw [fb_toList, numL_formL]
theorem fb_inj {m n : Nat} (h : fb m = fb n) : m = n := by rw [← num_fb m, h, num_fb]
theorem fb_size (n : Nat) : (fb n).size = (formL n).length := rfl
theorem num_lt (s : ByteArray) : num s < 256 ^ s.size := by
  have h := numL_lt s.data.toList
  have e : s.data.toList.length = s.size := rfl
  rw [e] at h
  exact h

theorem pow256_le {l : List UInt8} (hz : NZ l) (hl : l ≠ []) : 256 ^ (l.length - 1) ≤ numL l := by
  cases l with
  | nil => exact absurd rfl hl
  | cons b l =>
    rw [numL_cons, List.length_cons, Nat.add_sub_cancel]
    have hb : 1 ≤ b.toNat := by
      have : b ≠ 0 := hz b rfl
      rcases Nat.eq_zero_or_pos b.toNat with h | h
      · exact absurd (UInt8.toNat_inj.1 (by simpa using h)) this
      · exact h
    have := Nat.mul_le_mul_right (256 ^ l.length) hb
    omega
theorem length_formL_le {n k : Nat} (h : n < 256 ^ k) : (formL n).length ≤ k := by
  rcases Nat.lt_or_ge k (formL n).length with hlt | hge
  · exfalso
    have h1 := pow256_le (NZ_formL n) (by intro e; rw [e] at hlt; simp at hlt)
    rw [numL_formL] at h1
    have : 256 ^ k ≤ 256 ^ ((formL n).length - 1) := Nat.pow_le_pow_right (by omega) (by omega)
    omega
  · exact hge
theorem fb_size_le {n k : Nat} (h : n < 256 ^ k) : (fb n).size ≤ k := length_formL_le h
theorem fb_num_size (s : ByteArray) : (fb (num s)).size ≤ s.size := fb_size_le (num_lt s)
theorem lt_of_length {x y : Nat} (h : (formL x).length < (formL y).length) : x < y := by
  have h1 := numL_lt (formL x)
  rw [numL_formL] at h1
  have h2 := pow256_le (NZ_formL y) (by intro e; rw [e] at h; simp at h)
  rw [numL_formL] at h2
  have : 256 ^ (formL x).length ≤ 256 ^ ((formL y).length - 1) := Nat.pow_le_pow_right (by omega) (by omega)
  omega

/-- -1, 0 or 1. -/
def cmpN (x y : Nat) : Int := if x < y then -1 else if y < x then 1 else 0
theorem compareBytes_num : ∀ (l m : List UInt8), l.length = m.length → Lib.compareBytes l m = cmpN (numL l) (numL m)
  | [], [], _ => rfl
  | a :: l, b :: m, h => by
    have hl : l.length = m.length := by simpa using h
    have h1 := numL_lt l
    have h2 := numL_lt m
    rw [Lib.compareBytes, numL_cons, numL_cons, hl, compareBytes_num l m hl]
    rw [hl] at h1
    have ha : a < b ↔ a.toNat < b.toNat := UInt8.lt_iff_toNat_lt
    have hb : b < a ↔ b.toNat < a.toNat := UInt8.lt_iff_toNat_lt
    generalize 256 ^ m.length = P at *
    by_cases c1 : a < b
    · rw [if_pos c1]
      have : (a.toNat + 1) * P ≤ b.toNat * P := Nat.mul_le_mul_right _ (ha.1 c1)
      rw [Nat.add_mul] at this
      unfold cmpN
      rw [if_pos (by omega)]
    · rw [if_neg c1]
      by_cases c2 : b < a
      · rw [if_pos c2]
        have : (b.toNat + 1) * P ≤ a.toNat * P := Nat.mul_le_mul_right _ (hb.1 c2)
        rw [Nat.add_mul] at this
        unfold cmpN
        rw [if_neg (by omega), if_pos (by omega)]
      · rw [if_neg c2]
        have e : a.toNat = b.toNat := by
          have := mt ha.2 c1
          have := mt hb.2 c2
          omega
        rw [e]
        unfold cmpN
        by_cases c3 : numL l < numL m
        · rw [if_pos c3, if_pos (by omega)]
        · by_cases c4 : numL m < numL l
          · rw [if_neg c3, if_pos c4, if_neg (by omega), if_pos (by omega)]
          · rw [if_neg c3, if_neg c4, if_neg (by omega), if_neg (by omega)]
theorem compareInt_len {x y : Nat} (h : (formL x).length ≠ (formL y).length) : Lib.compareInt ((formL x).length : Int) ((formL y).length : Int) = cmpN x y := by
  unfold Lib.compareInt cmpN
  rcases Nat.lt_or_gt_of_ne h with h | h
  · rw [if_pos (by omega), if_pos (lt_of_length h)]
  · have := lt_of_length h
    rw [if_neg (by omega), if_pos (by omega), if_neg (by omega), if_pos this]

/-- How many bits a number has. -/
def bl (n : Nat) : Nat := if n = 0 then 0 else n.log2 + 1
theorem bl_zero : bl 0 = 0 := rfl
theorem bl_of {n k : Nat} (h1 : 2 ^ k ≤ n) (h2 : n < 2 ^ (k + 1)) : bl n = k + 1 := by
  have h0 : n ≠ 0 := by have := Nat.two_pow_pos k; omega
  unfold bl
  rw [if_neg h0]
  have a := (Nat.log2_lt h0).2 h2
  have b := (Nat.le_log2 h0).2 h1
  omega
theorem bl_bounds {n : Nat} (h : 0 < n) : 1 ≤ bl n ∧ 2 ^ (bl n - 1) ≤ n ∧ n < 2 ^ bl n := by
  unfold bl
  rw [if_neg (by omega)]
  exact ⟨by omega, Nat.log2_self_le (by omega), Nat.lt_log2_self⟩
theorem bitLen_bl {x : Nat} (h : x < 2 ^ 64) : Lib.bitLen x = bl x := by
  rcases Nat.eq_zero_or_pos x with rfl | h0
  · rfl
  · obtain ⟨a, b, c⟩ := Lib.bitLenAux_bounds 64 x h (by omega)
    have e : Lib.bitLen x = Lib.bitLenAux 64 x := rfl
    rw [← e] at a b c
    obtain ⟨k, hk⟩ : ∃ k, Lib.bitLen x = k + 1 := ⟨Lib.bitLen x - 1, by omega⟩
    rw [hk] at b c ⊢
    exact (bl_of (by simpa using b) c).symm
/-- A number's bits, out of its first byte and how many others there are. -/
theorem bl_cons {b : UInt8} {l : List UInt8} (hb : b ≠ 0) : bl (numL (b :: l)) = bl b.toNat + 8 * l.length := by
  have h0 : 0 < b.toNat := by
    rcases Nat.eq_zero_or_pos b.toNat with h | h
    · exact absurd (UInt8.toNat_inj.1 (by simpa using h)) hb
    · exact h
  obtain ⟨h1, h2, h3⟩ := bl_bounds h0
  have h4 := numL_lt l
  have e : 256 ^ l.length = 2 ^ (8 * l.length) := by rw [Nat.pow_mul]
  rw [numL_cons]
  rw [e] at h4 ⊢
  obtain ⟨k, hk⟩ : ∃ k, bl b.toNat = k + 1 := ⟨bl b.toNat - 1, by omega⟩
  rw [hk] at h2 h3 ⊢
  simp only [Nat.add_sub_cancel] at h2
  rw [show k + 1 + 8 * l.length = (k + 8 * l.length) + 1 by omega]
  refine bl_of ?_ ?_
  · rw [Nat.pow_add]
    have := Nat.mul_le_mul_right (2 ^ (8 * l.length)) h2
    omega
  · rw [show k + 8 * l.length + 1 = (k + 1) + 8 * l.length by omega, Nat.pow_add]
    have := Nat.mul_le_mul_right (2 ^ (8 * l.length)) (Nat.succ_le_of_lt h3)
    rw [Nat.succ_mul] at this
    omega

/-- How many bits 0 stand below the lowest 1. -/
def tzF : Nat → Nat → Nat
  | 0, _ => 0
  | f + 1, n => if n = 0 ∨ n % 2 = 1 then 0 else 1 + tzF f (n / 2)
def tz (n : Nat) : Nat := tzF n n
theorem tzF_of : ∀ (z m f : Nat), 2 ^ z * (2 * m + 1) ≤ f → tzF f (2 ^ z * (2 * m + 1)) = z
  | 0, m, f, h => by
    cases f with
    | zero => omega
    | succ f => rw [tzF, if_pos (by omega)]
  | z + 1, m, f, h => by
    have e : 2 ^ (z + 1) * (2 * m + 1) = 2 * (2 ^ z * (2 * m + 1)) := by rw [Nat.pow_succ]; simp only [Nat.mul_comm, Nat.mul_left_comm]
    have hp : 0 < 2 ^ z * (2 * m + 1) := Nat.mul_pos (Nat.two_pow_pos _) (by omega)
    rw [e] at h ⊢
    cases f with
    | zero => omega
    | succ f =>
      rw [tzF, if_neg (by omega), show 2 * (2 ^ z * (2 * m + 1)) / 2 = 2 ^ z * (2 * m + 1) by omega, tzF_of z m f (by omega)]
      omega
theorem tz_of (z m : Nat) : tz (2 ^ z * (2 * m + 1)) = z := tzF_of z m _ (Nat.le_refl _)
theorem tz_zero : tz 0 = 0 := rfl
theorem tz_ex {n : Nat} (h : 0 < n) : ∃ z m, n = 2 ^ z * (2 * m + 1) := by
  induction n using Nat.strongRecOn with
  | ind n ih =>
    by_cases h2 : n % 2 = 1
    · exact ⟨0, n / 2, by omega⟩
    · obtain ⟨z, m, e⟩ := ih (n / 2) (by omega) (by omega)
      refine ⟨z + 1, m, ?_⟩
      have : n = 2 * (n / 2) := by omega
      rw [this, e, Nat.pow_succ]
      simp only [Nat.mul_comm, Nat.mul_left_comm]
theorem tz_mul_pow {n : Nat} (h : 0 < n) (k : Nat) : tz (n * 2 ^ k) = tz n + k := by
  obtain ⟨z, m, rfl⟩ := tz_ex h
  rw [tz_of, Nat.mul_right_comm, ← Nat.pow_add, tz_of]
theorem trailingZeros8_eq : ∀ n : Fin 256, n.val ≠ 0 → Lib.trailingZeros8 n.val = tz n.val := by decide +kernel
/-- The last byte that is no 0, and how many stand behind it. -/
theorem tz_bytes (l : List UInt8) (b : UInt8) (k : Nat) (hb : b ≠ 0) : tz (numL (l ++ [b] ++ List.replicate k 0)) = tz b.toNat + 8 * k := by
  have h0 : 0 < b.toNat := by
    rcases Nat.eq_zero_or_pos b.toNat with h | h
    · exact absurd (UInt8.toNat_inj.1 (by simpa using h)) hb
    · exact h
  rw [numL_append, numL_snoc, List.length_replicate]
  have e1 : numL (List.replicate k 0) = 0 := by have := numL_zeros k []; simpa [numL_nil] using this
  rw [e1, Nat.add_zero, show 256 ^ k = 2 ^ (8 * k) by rw [Nat.pow_mul], tz_mul_pow (by omega)]
  congr 1
  obtain ⟨z, m, e⟩ := tz_ex h0
  have hz : z < 8 := by
    rcases Nat.lt_or_ge z 8 with h | h
    · exact h
    · have := b.toNat_lt
      have h2 : 2 ^ 8 * 1 ≤ 2 ^ z * (2 * m + 1) := Nat.mul_le_mul (Nat.pow_le_pow_right (by omega) h) (by omega)
      omega
  rw [e, tz_of]
  have e2 : (256 : Nat) = 2 ^ z * (2 * 2 ^ (7 - z)) := by
    rw [Nat.mul_left_comm, ← Nat.pow_add, show z + (7 - z) = 7 by omega]
  rw [e2, Nat.mul_left_comm, ← Nat.mul_add, show numL l * (2 * 2 ^ (7 - z)) + (2 * m + 1) = 2 * (numL l * 2 ^ (7 - z) + m) + 1 by rw [Nat.mul_left_comm]; omega, tz_of]
/-- The first byte of a number that is not 0, and its bits. -/
theorem fb_first {n : Nat} (h : n ≠ 0) : 0 < (fb n).size ∧ ∀ hp : 0 < (fb n).size, bl n = bl ((fb n)[0]).toNat + 8 * ((fb n).size - 1) := by
  cases hl : formL n with
  | nil => exact absurd (by have := numL_formL n; rw [hl] at this; exact this.symm) h
  | cons b l =>
    have hs : (fb n).size = l.length + 1 := by rw [fb_size, hl]; rfl
    refine ⟨by omega, fun hp => ?_⟩
    have hb : (fb n)[0] = b := by
      have : (fb n)[0] = (formL n)[0]'(by rw [hl]; simp) := rfl
      rw [this]
      simp [hl]
    have hz : b ≠ 0 := NZ_formL n b (by rw [hl]; rfl)
    have e := numL_formL n
    rw [hl] at e
    rw [hb, hs, ← e, bl_cons hz]
    simp
/-- The bytes 0 at the end. -/
theorem dropWhile_split (l : List UInt8) : l = List.replicate (l.length - (l.dropWhile (· == 0)).length) 0 ++ l.dropWhile (· == 0) := by
  induction l with
  | nil => rfl
  | cons b l ih =>
    by_cases hb : b = 0
    · subst hb
      rw [List.dropWhile_cons_of_pos (by simp)]
      have hle : (l.dropWhile (· == 0)).length ≤ l.length := (List.dropWhile_sublist _).length_le
      rw [List.length_cons, show l.length + 1 - (l.dropWhile (· == 0)).length = (l.length - (l.dropWhile (· == 0)).length) + 1 by omega, List.replicate_succ, List.cons_append, ← ih]
    · rw [List.dropWhile_cons_of_neg (by simpa using hb)]
      simp
theorem trimRight_split (l : List UInt8) : l = Lib.trimRightB l 0 ++ List.replicate (l.length - (Lib.trimRightB l 0).length) 0 := by
  unfold Lib.trimRightB
  have h := dropWhile_split l.reverse
  have h2 := congrArg List.reverse h
  rw [List.reverse_reverse, List.reverse_append, List.reverse_replicate, List.length_reverse] at h2
  rw [List.length_reverse]
  exact h2
theorem trimRight_last (l : List UInt8) : Lib.trimRightB l 0 = [] ∨ ∃ m b, Lib.trimRightB l 0 = m ++ [b] ∧ b ≠ 0 := by
  unfold Lib.trimRightB
  have hz := NZ_dropWhile l.reverse
  cases hl : l.reverse.dropWhile (· == 0) with
  | nil => exact .inl rfl
  | cons b m => exact .inr ⟨m.reverse, b, by simp, hz b (by rw [hl]; rfl)⟩
theorem zeros_split (l : List UInt8) : (Lib.trimRightB l 0 = [] ∧ tz (numL l) = 0) ∨ ∃ m b, Lib.trimRightB l 0 = m ++ [b] ∧ b ≠ 0 ∧ tz (numL l) = tz b.toNat + 8 * (l.length - (m.length + 1)) := by
  have h := trimRight_split l
  rcases trimRight_last l with e | ⟨m, b, e, hb⟩
  · refine .inl ⟨e, ?_⟩
    rw [e, List.nil_append] at h
    have : numL l = 0 := by rw [h]; have := numL_zeros (l.length - ([] : List UInt8).length) []; simpa [numL_nil] using this
    rw [this]; rfl
  · refine .inr ⟨m, b, e, hb, ?_⟩
    rw [e] at h
    have h2 : (m ++ [b]).length = m.length + 1 := by simp
    rw [h2] at h
    have h3 := tz_bytes m b (l.length - (m.length + 1)) hb
    rw [← h] at h3
    exact h3
end Go.Proofs.YtemlhloipjbecaaDoor
