/- Plain facts on rows of bits: no program stands in this text. -/
import Derived.Test.YtemlhloipjbecaaDoorShr
namespace Go.Proofs.YtemlhloipjbecaaDoor

/-- What bits are worth, the lowest first. -/
def val2 : List Nat → Nat
  | [] => 0
  | b :: bs => b + 2 * val2 bs
/-- Bits are below 2. -/
def Bit (bs : List Nat) : Prop := ∀ b ∈ bs, b < 2
theorem Bit.nil : Bit [] := fun _ h => by cases h
theorem Bit.append {xs ys : List Nat} (hx : Bit xs) (hy : Bit ys) : Bit (xs ++ ys) := by
  intro d hd
  rcases List.mem_append.1 hd with h | h
  · exact hx d h
  · exact hy d h
theorem Bit.one {b : Nat} (h : b < 2) : Bit [b] := by intro d hd; simp at hd; omega
theorem Bit.take {xs : List Nat} (hx : Bit xs) (n : Nat) : Bit (xs.take n) := fun d hd => hx d (List.mem_of_mem_take hd)
theorem Bit.drop {xs : List Nat} (hx : Bit xs) (n : Nat) : Bit (xs.drop n) := fun d hd => hx d (List.mem_of_mem_drop hd)
theorem Bit.get {xs : List Nat} (hx : Bit xs) {i : Nat} (h : i < xs.length) : xs[i] < 2 := hx _ (List.getElem_mem h)
theorem Bit.getD {xs : List Nat} (hx : Bit xs) (i : Nat) : xs.getD i 0 < 2 := by
  rcases Nat.lt_or_ge i xs.length with h | h
  · simp [h]; exact hx.get h
  · simp [h]
theorem val2_append (xs ys : List Nat) : val2 (xs ++ ys) = val2 xs + 2 ^ xs.length * val2 ys := by
  induction xs with
  | nil => simp [val2]
  | cons x xs ih =>
    rw [List.cons_append, val2, val2, ih, List.length_cons, Nat.pow_succ, Nat.mul_add, Nat.mul_comm (2 ^ xs.length) 2, Nat.mul_assoc]
    omega
theorem val2_single (b : Nat) : val2 [b] = b := by simp [val2]
theorem val2_snoc (xs : List Nat) (d : Nat) : val2 (xs ++ [d]) = val2 xs + 2 ^ xs.length * d := by rw [val2_append, val2_single]
theorem val2_lt {bs : List Nat} (h : Bit bs) : val2 bs < 2 ^ bs.length := by
  induction bs with
  | nil => simp [val2]
  | cons b bs ih =>
    have h1 := ih fun x hx => h x (List.mem_cons_of_mem _ hx)
    have h2 := h b (List.mem_cons_self ..)
    rw [val2, List.length_cons, Nat.pow_succ]
    omega
theorem val2_split (bs : List Nat) (i : Nat) (h : i ≤ bs.length) : val2 bs = val2 (bs.take i) + 2 ^ i * val2 (bs.drop i) := by
  have := val2_append (bs.take i) (bs.drop i)
  rw [List.take_append_drop, List.length_take, Nat.min_eq_left h] at this
  exact this
theorem val2_take_succ (bs : List Nat) (i : Nat) : val2 (bs.take (i + 1)) = val2 (bs.take i) + 2 ^ i * bs.getD i 0 := by
  rcases Nat.lt_or_ge i bs.length with h | h
  · rw [List.take_succ_eq_append_getElem h, val2_snoc, List.length_take, Nat.min_eq_left (Nat.le_of_lt h)]
    simp [h]
  · rw [List.take_of_length_le (by omega), List.take_of_length_le h]
    simp [h]
theorem val2_drop (bs : List Nat) (i : Nat) : val2 (bs.drop i) = bs.getD i 0 + 2 * val2 (bs.drop (i + 1)) := by
  rcases Nat.lt_or_ge i bs.length with h | h
  · rw [List.drop_eq_getElem_cons h, val2]
    simp [h]
  · rw [List.drop_eq_nil_of_le h, List.drop_eq_nil_of_le (by omega)]
    simp [val2, h]
theorem val2_take_lt {bs : List Nat} (h : Bit bs) (i : Nat) : val2 (bs.take i) < 2 ^ i := by
  have h1 := val2_lt (h.take i)
  have h2 : 2 ^ (bs.take i).length ≤ 2 ^ i := Nat.pow_le_pow_right (by omega) (by rw [List.length_take]; omega)
  omega
theorem val2_parts (bs : List Nat) (i : Nat) : val2 bs = val2 (bs.take i) + 2 ^ i * val2 (bs.drop i) := by
  rcases Nat.lt_or_ge i bs.length with h | h
  · exact val2_split bs i (Nat.le_of_lt h)
  · rw [List.take_of_length_le h, List.drop_eq_nil_of_le h]; simp [val2]
theorem val2_replicate (n : Nat) : val2 (List.replicate n 0) = 0 := by
  induction n with
  | zero => rfl
  | succ n ih => rw [List.replicate_succ, val2, ih]
/-- No 0 at the top. -/
def TopB (bs : List Nat) : Prop := bs = [] ∨ ∃ l d, bs = l ++ [d] ∧ d ≠ 0
theorem TopB.length {bs : List Nat} (h : TopB bs) (hb : Bit bs) : bs.length = bl (val2 bs) := by
  rcases h with rfl | ⟨l, d, rfl, hd⟩
  · rfl
  · have h1 := val2_lt hb
    have h2 : 2 ^ l.length * 1 ≤ val2 (l ++ [d]) := by
      rw [val2_snoc]
      have : 2 ^ l.length * 1 ≤ 2 ^ l.length * d := Nat.mul_le_mul_left _ (by omega)
      omega
    rw [List.length_append, List.length_singleton] at h1 ⊢
    exact (bl_of (by omega) h1).symm

/-- A number in m bytes, the highest first. -/
def wid (m n : Nat) : List Nat := (List.range m).map fun p => n / 256 ^ (m - 1 - p) % 256
theorem length_wid (m n : Nat) : (wid m n).length = m := by simp [wid]
theorem wid_get (m n p : Nat) (h : p < (wid m n).length) : (wid m n)[p] = n / 256 ^ (m - 1 - p) % 256 := by simp [wid]
theorem wid_zero (m : Nat) : wid m 0 = List.replicate m 0 := by
  apply List.ext_getElem
  · simp [wid]
  · intro i h1 h2
    rw [wid_get]
    simp
theorem wid_step {m n i b : Nat} (hn : n < 2 ^ i) (hb : b < 2) (hm : i / 8 < m) :
    (wid m n)[m - 1 - i / 8]'(by rw [length_wid]; omega) + b * 2 ^ (i % 8) < 256 ∧ (wid m n).set (m - 1 - i / 8) ((wid m n)[m - 1 - i / 8]'(by rw [length_wid]; omega) + b * 2 ^ (i % 8)) = wid m (n + 2 ^ i * b) := by
  have hi : 2 ^ i = 256 ^ (i / 8) * 2 ^ (i % 8) := by
    rw [pow256, ← Nat.pow_add]; congr 1; omega
  have hq : m - 1 - (m - 1 - i / 8) = i / 8 := by omega
  have h0 : n / 256 ^ (i / 8) < 2 ^ (i % 8) := by
    rw [Nat.div_lt_iff_lt_mul (Nat.pow_pos (by omega)), Nat.mul_comm, ← hi]; exact hn
  have h8 : 2 ^ (i % 8) * 2 ≤ 256 := by
    have h7 : i % 8 ≤ 7 := by omega
    have : 2 ^ (i % 8) ≤ 2 ^ 7 := Nat.pow_le_pow_right (by omega) h7
    omega
  have hb2 : b * 2 ^ (i % 8) ≤ 1 * 2 ^ (i % 8) := Nat.mul_le_mul_right _ (by omega)
  have hd : n / 256 ^ (i / 8) % 256 = n / 256 ^ (i / 8) := Nat.mod_eq_of_lt (by omega)
  refine ⟨by rw [wid_get, hq, hd]; omega, ?_⟩
  apply List.ext_getElem
  · simp [length_wid]
  · intro p h1 h2
    rw [length_wid] at h2
    have hset := List.getElem_set (l := wid m n) (i := m - 1 - i / 8) (j := p) (a := (wid m n)[m - 1 - i / 8]'(by rw [length_wid]; omega) + b * 2 ^ (i % 8)) h1
    rw [hset, wid_get m (n + 2 ^ i * b)]
    by_cases hp : m - 1 - i / 8 = p
    · have e1 : (n + 2 ^ i * b) / 256 ^ (i / 8) = n / 256 ^ (i / 8) + 2 ^ (i % 8) * b := by rw [hi, Nat.mul_assoc, Nat.add_mul_div_left _ _ (Nat.pow_pos (by omega))]
      have e2 := Nat.mul_comm b (2 ^ (i % 8))
      have e3 : (n / 256 ^ (i / 8) + 2 ^ (i % 8) * b) % 256 = n / 256 ^ (i / 8) + 2 ^ (i % 8) * b := Nat.mod_eq_of_lt (by omega)
      rw [if_pos hp, wid_get, hq, ← hp, hq, hd, e1, e3, e2]
    · rw [if_neg hp, wid_get]
      generalize hr : m - 1 - p = r
      rcases Nat.lt_or_ge r (i / 8) with hlt | hge
      · have e : 2 ^ i * b = 256 ^ r * (256 * (2 ^ (i - 8 * (r + 1)) * b)) := by
          rw [pow256, ← Nat.mul_assoc, ← Nat.mul_assoc, show (256 : Nat) = 2 ^ 8 from rfl, ← Nat.pow_add, ← Nat.pow_add]
          congr 2
          omega
        rw [e, Nat.add_mul_div_left _ _ (Nat.pow_pos (by omega)), Nat.add_mul_mod_self_left]
      · have hgt : i / 8 < r := by omega
        have a1 : n + 2 ^ i * b < 2 ^ (i + 1) := by
          have : 2 ^ i * b ≤ 2 ^ i * 1 := Nat.mul_le_mul_left _ (by omega)
          rw [Nat.pow_succ]; omega
        have a2 : 2 ^ (i + 1) ≤ 256 ^ r := by rw [pow256]; exact Nat.pow_le_pow_right (by omega) (by omega)
        rw [Nat.div_eq_of_lt (by omega), Nat.div_eq_of_lt (by omega)]
theorem numL_wid (m n : Nat) : numL ((wid m n).map UInt8.ofNat) = n % 256 ^ m := by
  induction m generalizing n with
  | zero => simp [wid, numL, Nat.mod_one]
  | succ m ih =>
    have e : wid (m + 1) n = wid m (n / 256) ++ [n % 256] := by
      apply List.ext_getElem
      · simp [length_wid]
      · intro p h1 h2
        rw [length_wid] at h1
        rw [wid_get, List.getElem_append]
        split
        · rename_i hp
          rw [length_wid] at hp
          rw [wid_get, Nat.div_div_eq_div_mul, ← Nat.pow_succ']
          congr 3
          omega
        · rename_i hp
          rw [length_wid] at hp
          have : m + 1 - 1 - p = 0 := by omega
          rw [this]
          simp
    rw [e, List.map_append, List.map_singleton, numL_snoc, ih, Nat.pow_succ', Nat.mod_mul]
    have : (UInt8.ofNat (n % 256)).toNat = n % 256 := by simp
    rw [this]
    omega
/-- All bytes that a number has, and no more. -/
theorem wid_form (n : Nat) : (wid ((bl n + 7) / 8) n).map UInt8.ofNat = formL n := by
  rcases Nat.eq_zero_or_pos n with h0 | h0
  · subst h0; rfl
  · obtain ⟨b1, b2, b3⟩ := bl_bounds h0
    refine (formL_of ?_ ?_).symm
    · intro b hb
      have hm : 0 < (bl n + 7) / 8 := by omega
      have hne : 0 < ((wid ((bl n + 7) / 8) n).map UInt8.ofNat).length := by rw [List.length_map, length_wid]; exact hm
      rw [List.head?_eq_getElem?, List.getElem?_eq_getElem hne] at hb
      have hb' := Option.some.inj hb
      rw [List.getElem_map, wid_get, Nat.sub_zero] at hb'
      intro hz
      rw [hz] at hb'
      have h1 := congrArg UInt8.toNat hb'
      have h2 : n / 256 ^ ((bl n + 7) / 8 - 1) < 256 := by
        rw [Nat.div_lt_iff_lt_mul (Nat.pow_pos (by omega)), Nat.mul_comm, ← Nat.pow_succ, pow256]
        exact Nat.lt_of_lt_of_le b3 (Nat.pow_le_pow_right (by omega) (by omega))
      have h3 : 0 < n / 256 ^ ((bl n + 7) / 8 - 1) := by
        refine Nat.div_pos ?_ (Nat.pow_pos (by omega))
        rw [pow256]
        exact Nat.le_trans (Nat.pow_le_pow_right (by omega) (by omega)) b2
      simp at h1
      omega
    · rw [numL_wid, Nat.mod_eq_of_lt]
      rw [pow256]
      exact Nat.lt_of_lt_of_le b3 (Nat.pow_le_pow_right (by omega) (by omega))
end Go.Proofs.YtemlhloipjbecaaDoor
