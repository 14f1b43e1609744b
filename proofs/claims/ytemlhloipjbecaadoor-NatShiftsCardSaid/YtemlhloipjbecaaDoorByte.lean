/- Plain facts on natural numbers as bytes, the highest first: no program stands in this text. -/
import Derived.Test.YtemlhloipjbecaaDoorNum
namespace Go.Proofs.YtemlhloipjbecaaDoor

/-- The number of some bytes, the highest first. -/
def numL (l : List UInt8) : Nat := l.foldl (fun a b => a * 256 + b.toNat) 0
theorem numL_nil : numL [] = 0 := rfl
theorem numL_snoc (l : List UInt8) (b : UInt8) : numL (l ++ [b]) = numL l * 256 + b.toNat := by simp [numL]
theorem foldl_num (l : List UInt8) : ∀ a, l.foldl (fun a b => a * 256 + b.toNat) a = a * 256 ^ l.length + numL l := by
  induction l with
  | nil => intro a; simp [numL]
  | cons b l ih =>
    intro a
    simp only [numL, List.foldl_cons, List.length_cons, Nat.pow_succ]
    rw [ih, ih (0 * 256 + b.toNat)]
    simp only [Nat.add_mul, Nat.zero_mul, Nat.zero_add, Nat.mul_assoc, Nat.mul_comm 256]
    omega
theorem numL_append (l m : List UInt8) : numL (l ++ m) = numL l * 256 ^ m.length + numL m := by
  rw [numL, List.foldl_append, foldl_num]; rfl
theorem numL_cons (b : UInt8) (l : List UInt8) : numL (b :: l) = b.toNat * 256 ^ l.length + numL l := by
  have := numL_append [b] l
  simpa [numL] using this
theorem numL_lt (l : List UInt8) : numL l < 256 ^ l.length := by
  induction l with
  | nil => simp [numL]
  | cons b l ih =>
    rw [numL_cons, List.length_cons, Nat.pow_succ]
    have h := b.toNat_lt
    have : (b.toNat + 1) * 256 ^ l.length ≤ 256 * 256 ^ l.length := Nat.mul_le_mul_right _ h
    rw [Nat.add_mul, Nat.mul_comm 256] at this
    omega
theorem numL_zeros (k : Nat) (l : List UInt8) : numL (List.replicate k 0 ++ l) = numL l := by
  induction k with
  | zero => simp
  | succ k ih => rw [List.replicate_succ, List.cons_append, numL_cons, ih]; simp

/-- No byte 0 ahead. -/
def NZ (l : List UInt8) : Prop := ∀ b, l.head? = some b → b ≠ 0
theorem NZ.nil : NZ [] := fun b h => by cases h
theorem NZ.of_snoc {l : List UInt8} {b : UInt8} (h : NZ (l ++ [b])) : NZ l := by
  cases l with
  | nil => exact NZ.nil
  | cons a l => intro x hx; exact h x (by simpa using hx)
theorem NZ.snoc {l : List UInt8} {b : UInt8} (h : NZ l) (hb : l = [] → b ≠ 0) : NZ (l ++ [b]) := by
  cases l with
  | nil => intro x hx; simp at hx; subst hx; exact hb rfl
  | cons a l => intro x hx; exact h x (by simpa using hx)

def formF : Nat → Nat → List UInt8
  | 0, _ => []
  | f + 1, n => if n = 0 then [] else formF f (n / 256) ++ [UInt8.ofNat n]
/-- The one form of a number. -/
def formL (n : Nat) : List UInt8 := formF n n

theorem numL_zero_NZ : ∀ {l : List UInt8}, NZ l → numL l = 0 → l = []
  | [], _, _ => rfl
  | b :: l, h, hn => by
    exfalso
    have hb : b ≠ 0 := h b rfl
    rw [numL_cons] at hn
    have h0 : b.toNat = 0 := by
      rcases Nat.eq_zero_or_pos b.toNat with h | h
      · exact h
      · have : 1 * 1 ≤ b.toNat * 256 ^ l.length := Nat.mul_le_mul h (Nat.pow_pos (by omega))
        omega
    exact hb (UInt8.toNat_inj.1 (by simpa using h0))
theorem formF_rev (r : List UInt8) : ∀ (f n : Nat), n ≤ f → NZ r.reverse → numL r.reverse = n → formF f n = r.reverse := by
  induction r with
  | nil => intro f n _ _ h; simp only [List.reverse_nil, numL_nil] at h; subst h; cases f <;> simp [formF]
  | cons b l ih =>
    intro f n hf hz hn
    rw [List.reverse_cons] at hz hn ⊢
    have hnz : numL (l.reverse ++ [b]) ≠ 0 := fun h1 => by
      have := numL_zero_NZ hz h1
      simp at this
    rw [numL_snoc] at hn hnz
    have hb := b.toNat_lt
    have hn0 : n ≠ 0 := by omega
    cases f with
    | zero => omega
    | succ f =>
      rw [formF, if_neg hn0, ih f (n / 256) (by omega) hz.of_snoc (by omega)]
      congr 2
      apply UInt8.toNat_inj.1
      simp
      omega
theorem formF_of (l : List UInt8) (f n : Nat) (hf : n ≤ f) (hz : NZ l) (hn : numL l = n) : formF f n = l := by
  have := formF_rev l.reverse f n hf (by rwa [List.reverse_reverse]) (by rwa [List.reverse_reverse])
  rwa [List.reverse_reverse] at this
theorem formL_of {l : List UInt8} {n : Nat} (hz : NZ l) (hn : numL l = n) : formL n = l := formF_of l n n (Nat.le_refl _) hz hn
theorem formF_num : ∀ (f n : Nat), n ≤ f → numL (formF f n) = n ∧ NZ (formF f n)
  | 0, n, h => by
    have : n = 0 := by omega
    subst this
    exact ⟨rfl, NZ.nil⟩
  | f + 1, n, h => by
    by_cases h0 : n = 0
    · subst h0; simp [formF, numL_nil, NZ.nil]
    · obtain ⟨h1, h2⟩ := formF_num f (n / 256) (by omega)
      rw [formF, if_neg h0]
      refine ⟨?_, h2.snoc ?_⟩
      · rw [numL_snoc, h1]; simp; omega
      · intro he hb
        rw [he, numL_nil] at h1
        have : (UInt8.ofNat n).toNat = 0 := by rw [hb]; rfl
        simp at this
        omega
theorem numL_formL (n : Nat) : numL (formL n) = n := (formF_num n n (Nat.le_refl _)).1
theorem NZ_formL (n : Nat) : NZ (formL n) := (formF_num n n (Nat.le_refl _)).2
theorem formL_inj {m n : Nat} (h : formL m = formL n) : m = n := by rw [← numL_formL m, h, numL_formL]
theorem formL_zero : formL 0 = [] := rfl
theorem formL_numL_of_NZ {l : List UInt8} (h : NZ l) : formL (numL l) = l := formL_of h rfl
/-- The bytes from the first one that is no 0 on. -/
theorem NZ_dropWhile (l : List UInt8) : NZ (l.dropWhile (· == 0)) := by
  intro b hb
  have := List.head?_dropWhile_not (· == (0 : UInt8)) l
  rw [hb] at this
  simpa using this
theorem numL_dropWhile (l : List UInt8) : numL (l.dropWhile (· == 0)) = numL l := by
  induction l with
  | nil => rfl
  | cons b l ih =>
    by_cases hb : b = 0
    · subst hb
      rw [List.dropWhile_cons_of_pos (by simp), ih, numL_cons]; simp
    · rw [List.dropWhile_cons_of_neg (by simpa using hb)]
theorem dropWhile_formL (l : List UInt8) : l.dropWhile (· == 0) = formL (numL l) := (formL_of (NZ_dropWhile l) (numL_dropWhile l)).symm

/-- The eight bytes of a digit. -/
def eightL (n : Nat) : List UInt8 := [UInt8.ofNat (n / 72057594037927936), UInt8.ofNat (n / 281474976710656), UInt8.ofNat (n / 1099511627776), UInt8.ofNat (n / 4294967296), UInt8.ofNat (n / 16777216), UInt8.ofNat (n / 65536), UInt8.ofNat (n / 256), UInt8.ofNat n]
theorem numL_eightL {n : Nat} (h : n < B64) : numL (eightL n) = n := by
  unfold B64 at h
  simp only [numL, eightL, List.foldl_cons, List.foldl_nil, UInt8.toNat_ofNat']
  omega
/-- How many bytes 0 stand ahead of a digit, L its bits. -/
theorem eightL_drop {n L : Nat} (hn : n < B64) (h1 : n = 0 → L = 0) (h2 : 0 < n → 1 ≤ L ∧ 2 ^ (L - 1) ≤ n ∧ n < 2 ^ L) (hL : L ≤ 64) :
    (eightL n).drop ((64 - L) / 8) = formL n := by
  symm
  have h0 : (eightL n).take ((64 - L) / 8) = List.replicate ((64 - L) / 8) 0 ∧ NZ ((eightL n).drop ((64 - L) / 8)) := by
    by_cases hz : n = 0
    · subst hz
      rw [h1 rfl]
      exact ⟨by decide, NZ.nil⟩
    · obtain ⟨b1, b2, b3⟩ := h2 (by omega)
      have key : ∀ k, (64 - L) / 8 = k → k ≤ 7 → n < 2 ^ (64 - 8 * k) ∧ 2 ^ (56 - 8 * k) ≤ n := fun k hk hk7 => by
        constructor
        · exact Nat.lt_of_lt_of_le b3 (Nat.pow_le_pow_right (by omega) (by omega))
        · exact Nat.le_trans (Nat.pow_le_pow_right (by omega) (by omega)) b2
      have hk : (64 - L) / 8 ≤ 7 := by omega
      generalize (64 - L) / 8 = k at *
      obtain ⟨k1, k2⟩ := key k rfl hk
      have hk' : k = 0 ∨ k = 1 ∨ k = 2 ∨ k = 3 ∨ k = 4 ∨ k = 5 ∨ k = 6 ∨ k = 7 := by omega
      have z : ∀ m : Nat, m % 256 = 0 → UInt8.ofNat m = 0 := fun m hm => UInt8.toNat_inj.1 (by simp [hm])
      have nz : ∀ m : Nat, m % 256 ≠ 0 → UInt8.ofNat m ≠ 0 := fun m hm h => hm (by have := congrArg UInt8.toNat h; simpa using this)
      rcases hk' with rfl | rfl | rfl | rfl | rfl | rfl | rfl | rfl
      all_goals
        simp only [eightL, List.drop_succ_cons, List.drop_zero, List.take_succ_cons, List.take_zero, List.replicate_succ, List.replicate_zero, Nat.reduceMul, Nat.reduceSub, Nat.reducePow] at k1 k2 ⊢
        refine ⟨?_, ?_⟩
        · first
            | rfl
            | (simp only [List.cons.injEq, and_true]; (repeat (first | exact z _ (by omega) | refine ⟨z _ (by omega), ?_⟩)))
        · intro b hb
          simp only [List.head?_cons, Option.some.injEq] at hb
          subst hb
          exact nz _ (by omega)
  refine formL_of h0.2 ?_
  have e := numL_eightL hn
  rw [← List.take_append_drop ((64 - L) / 8) (eightL n), h0.1, numL_zeros] at e
  exact e
end Go.Proofs.YtemlhloipjbecaaDoor
