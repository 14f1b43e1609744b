/- Whole numbers, and the values that stand for them; no function is walked in this text. -/
import Derived.Test.YtfgolecbchhokaaGreatDoorG3
namespace Go.Proofs.YtfgolecbchhokaaGreatDoor
open Go.RowKit Go.Shelf

/-- The whole number that a sign and a text stand for. -/
def wv (n : Bool) (s : ByteArray) : Int := if n then -(num s : Int) else num s
/-- A sign and a text, as a value. -/
def wi (n : Bool) (s : ByteArray) : Value := .agg #[.bool n, .string s]
/-- The one form of a whole number, as a value. -/
def wf (z : Int) : Value := wi (decide (z < 0)) (fb z.natAbs)
theorem wv_false (s : ByteArray) : wv false s = num s := rfl
theorem wv_true (s : ByteArray) : wv true s = -(num s : Int) := rfl
theorem wv_abs (n : Bool) (s : ByteArray) : (wv n s).natAbs = num s := by cases n <;> simp [wv]
theorem wv_not (n : Bool) (s : ByteArray) : wv (!n) s = -wv n s := by cases n <;> simp [wv]
/-- A sign before a size in its one form. -/
theorem wf_sign (n : Bool) (m : Nat) : wf (if n then -(m : Int) else m) = wi (n && decide (0 < m)) (fb m) := by
  cases n
  · show wi (decide ((m : Int) < 0)) (fb (m : Int).natAbs) = wi false (fb m)
    rw [decide_eq_false (by omega)]; rfl
  · show wi (decide (-(m : Int) < 0)) (fb (-(m : Int)).natAbs) = wi (true && decide (0 < m)) (fb m)
    rw [Int.natAbs_neg, Bool.true_and]
    congr 1
    simp
theorem wf_nat (m : Nat) : wf m = wi false (fb m) := by
  have := wf_sign false m
  simpa using this
theorem wf_zero : wf 0 = wi false ⟨#[]⟩ := rfl
/-- A number's one form, by names. -/
theorem nmw {z : Int} {k : Nat} (h : z.natAbs < 256 ^ k) : ∃ n s, wf z = wi n s ∧ wv n s = z ∧ s.size ≤ k :=
  ⟨decide (z < 0), fb z.natAbs, rfl, by
    unfold wv
    rw [num_fb]
    by_cases hz : z < 0
    · simp [hz]; omega
    · simp [hz]; omega, fb_size_le h⟩
theorem wi_inj {m n : Bool} {s t : ByteArray} (h : wi m s = wi n t) : m = n ∧ s = t := by
  unfold wi at h
  simpa using h
theorem wf_inj {y z : Int} (h : wf y = wf z) : y = z := by
  obtain ⟨h1, h2⟩ := wi_inj h
  have h3 := fb_inj h2
  simp only [decide_eq_decide] at h1
  omega
/-- As a sign. -/
def sg (z : Int) : Int := if z = 0 then 0 else if z < 0 then -1 else 1
theorem bl_pos {n : Nat} : bl n = 0 ↔ n = 0 := by
  constructor
  · intro h
    rcases Nat.eq_zero_or_pos n with h0 | h0
    · exact h0
    · have := (bl_bounds h0).1; omega
  · intro h; rw [h]; rfl
theorem ediv_of {a b q r : Int} (hb : 0 < b) (h : b * q + r = a) (h0 : 0 ≤ r) (h1 : r < b) : a / b = q ∧ a % b = r :=
  (Int.ediv_emod_unique hb).2 ⟨by rw [Int.add_comm]; exact h, h0, h1⟩
theorem ediv_neg_nat (A B : Nat) (hB : 0 < B) : (A % B = 0 → (-(A : Int)) / B = -((A / B : Nat) : Int) ∧ (-(A : Int)) % B = 0) ∧
    (A % B ≠ 0 → (-(A : Int)) / B = -((A / B + 1 : Nat) : Int) ∧ (-(A : Int)) % B = ((B - A % B : Nat) : Int)) := by
  have e : B * (A / B) + A % B = A := Nat.div_add_mod A B
  have hr : A % B < B := Nat.mod_lt A hB
  have ei : (B : Int) * ((A / B : Nat) : Int) + ((A % B : Nat) : Int) = A := by
    rw [← Int.natCast_mul, ← Int.natCast_add, e]
  generalize A / B = Q at *
  generalize A % B = R at *
  constructor
  · intro h
    refine ediv_of (by omega) ?_ (Int.le_refl _) (by omega)
    rw [Int.mul_neg]
    omega
  · intro h
    refine ediv_of (by omega) ?_ (by omega) (by omega)
    rw [Int.mul_neg, Int.natCast_add, Int.mul_add]
    omega
/-- The floor of a number below a power of two, in size. -/
theorem ediv_small {z : Int} {k : Nat} (h : z.natAbs < 2 ^ k) : z / ((2 ^ k : Nat) : Int) = if z < 0 then -1 else 0 := by
  have hp : 0 < 2 ^ k := Nat.two_pow_pos k
  generalize 2 ^ k = P at *
  by_cases hz : z < 0
  · rw [if_pos hz]
    exact (ediv_of (b := (P : Int)) (q := -1) (r := z + P) (by omega) (by omega) (by omega) (by omega)).1
  · rw [if_neg hz]
    exact (ediv_of (b := (P : Int)) (q := 0) (r := z) (by omega) (by omega) (by omega) (by omega)).1
/-- A size with a sign. -/
def sI (n : Bool) (m : Nat) : Int := if n then -(m : Int) else m
theorem sI_div_plain (m n : Bool) (A B : Nat) (hB : 0 < B) (h : m = true → A % B = 0) : sI m A / sI n B = sI (m != n) (A / B) ∧ sI m A % sI n B = ((A % B : Nat) : Int) := by
  have hp := (ediv_neg_nat A B hB).1
  cases m <;> cases n
  · simp [sI]
  · simp [sI]
  · obtain ⟨h1, h2⟩ := hp (h rfl)
    simp only [sI, if_true, Bool.false_eq_true, if_false, Bool.bne_false]
    rw [h1, h2, h rfl]; exact ⟨rfl, rfl⟩
  · obtain ⟨h1, h2⟩ := hp (h rfl)
    simp only [sI, if_true, Bool.false_eq_true, if_false, bne_self_eq_false]
    rw [Int.ediv_neg, Int.emod_neg, h1, h2, h rfl, Int.neg_neg]; exact ⟨rfl, rfl⟩
theorem sI_div_next (n : Bool) (A B : Nat) (hB : 0 < B) (h : A % B ≠ 0) : sI true A / sI n B = sI (true != n) (A / B + 1) ∧ sI true A % sI n B = ((B - A % B : Nat) : Int) := by
  obtain ⟨h1, h2⟩ := (ediv_neg_nat A B hB).2 h
  cases n
  · simp only [sI, if_true, Bool.false_eq_true, if_false, Bool.bne_false]
    rw [h1, h2]; exact ⟨rfl, rfl⟩
  · simp only [sI, if_true, Bool.false_eq_true, if_false, bne_self_eq_false]
    rw [Int.ediv_neg, Int.emod_neg, h1, h2, Int.neg_neg]; exact ⟨rfl, rfl⟩
/-- A number times a power of two; what is below 1 is left off, downward. -/
def shiftI (z n : Int) : Int := if 0 ≤ n then z * ((2 ^ n.toNat : Nat) : Int) else z / ((2 ^ (-n).toNat : Nat) : Int)
theorem sI_shr (m : Bool) (A k : Nat) (h : m = true → A % 2 ^ k = 0) : sI m A / ((2 ^ k : Nat) : Int) = sI m (A / 2 ^ k) := by
  have := (sI_div_plain m false A (2 ^ k) (Nat.two_pow_pos k) h).1
  simpa [sI] using this
theorem sI_shr_next (A k : Nat) (h : A % 2 ^ k ≠ 0) : sI true A / ((2 ^ k : Nat) : Int) = sI true (A / 2 ^ k + 1) := by
  have := (sI_div_next false A (2 ^ k) (Nat.two_pow_pos k) h).1
  simpa [sI] using this
theorem odd_mod {z j k : Nat} : (2 ^ z * (2 * j + 1)) % 2 ^ k = 0 ↔ k ≤ z := by
  constructor
  · intro h
    rcases Nat.lt_or_ge z k with hlt | hge
    · exfalso
      have h1 : 2 ^ (z + 1) ∣ 2 ^ z * (2 * j + 1) := Nat.dvd_trans (Nat.pow_dvd_pow 2 hlt) (Nat.dvd_of_mod_eq_zero h)
      rw [Nat.pow_succ] at h1
      have h2 : 2 ∣ 2 * j + 1 := Nat.dvd_of_mul_dvd_mul_left (Nat.two_pow_pos z) h1
      omega
    · exact hge
  · intro h
    exact Nat.mod_eq_zero_of_dvd (Nat.dvd_trans (Nat.pow_dvd_pow 2 h) (Nat.dvd_mul_right _ _))
/-- powers by a number's bits -/
theorem pow_bits (x n j : Nat) : x ^ (n / 2 ^ j) = (x ^ (n / 2 ^ (j + 1)) * x ^ (n / 2 ^ (j + 1))) * (if n / 2 ^ j % 2 = 1 then x else 1) := by
  have e : n / 2 ^ (j + 1) = n / 2 ^ j / 2 := by rw [Nat.pow_succ, Nat.div_div_eq_div_mul]
  rw [e]
  generalize n / 2 ^ j = p
  rw [← Nat.pow_add]
  have hp : p = p / 2 + p / 2 + p % 2 := by omega
  by_cases h : p % 2 = 1
  · rw [if_pos h, ← Nat.pow_succ]
    congr 1; omega
  · rw [if_neg h, Nat.mul_one]
    congr 1; omega

theorem wv_sI (n : Bool) (s : ByteArray) : wv n s = sI n (num s) := rfl
theorem sI_not (n : Bool) (m : Nat) : sI (!n) m = -sI n m := by cases n <;> simp [sI]
theorem sI_mul (m n : Bool) (A B : Nat) : sI m A * sI n B = sI (m != n) (A * B) := by
  cases m <;> cases n <;> simp [sI, Int.neg_mul, Int.mul_neg]
theorem sI_fb (n : Bool) (m : Nat) : wv n (fb m) = sI n m := by unfold wv sI; rw [num_fb]
theorem tz_lt_iff {A k : Nat} (h : 0 < A) : tz A < k ↔ A % 2 ^ k ≠ 0 := by
  obtain ⟨z, j, e⟩ := tz_ex h
  have ht : tz A = z := by rw [e, tz_of]
  rw [ht, e, Ne, odd_mod]
  omega
end Go.Proofs.YtfgolecbchhokaaGreatDoor
