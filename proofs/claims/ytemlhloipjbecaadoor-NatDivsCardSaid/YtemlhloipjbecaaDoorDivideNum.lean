/- Plain facts on a quotient digit by digit: no program stands in this text. -/
import Derived.Test.YtemlhloipjbecaaDoorDigitNum
namespace Go.Proofs.YtemlhloipjbecaaDoor

/-- Behind the digits from k on: what is left is X, the digits that are known stand in Q. -/
def DJ (A Y k : Nat) (X Q : List Nat) : Prop := val X + B64 ^ k * val (Q.drop k) * Y = A ∧ val (X.drop k) < Y

theorem dj_window {A Y k n : Nat} {X Q : List Nat} (h : DJ A Y (k + 1) X Q) (hX : Dig X) (hl : k + n + 1 ≤ X.length) (hY : Y < B64 ^ n) :
    val (X.drop (k + n + 1)) = 0 ∧ val ((X.drop k).take (n + 1)) < Y * B64 := by
  obtain ⟨_, h2⟩ := h
  have e1 : X.drop (k + 1) = (X.drop (k + 1)).take n ++ X.drop (k + n + 1) := by
    conv => lhs; rw [← List.take_append_drop n (X.drop (k + 1))]
    rw [List.drop_drop, show k + 1 + n = k + n + 1 by omega]
  have hz : val (X.drop (k + n + 1)) = 0 := by
    rw [e1, val_append, List.length_take, List.length_drop, Nat.min_eq_left (by omega)] at h2
    rcases Nat.eq_zero_or_pos (val (X.drop (k + n + 1))) with h | h
    · exact h
    · have : B64 ^ n * 1 ≤ B64 ^ n * val (X.drop (k + n + 1)) := Nat.mul_le_mul_left _ h
      omega
  refine ⟨hz, ?_⟩
  have hk : k < X.length := by omega
  rw [List.drop_eq_getElem_cons hk, List.take_succ_cons]
  have h3 : val ((X.drop (k + 1)).take n) < Y := by
    rw [e1, val_append, hz] at h2
    omega
  simp only [val]
  have h4 : X[k] < B64 := hX.get hk
  have h5 : (val ((X.drop (k + 1)).take n) + 1) * B64 ≤ Y * B64 := Nat.mul_le_mul_right _ h3
  rw [Nat.add_mul, Nat.mul_comm] at h5
  omega

theorem dj_step {A Y k n : Nat} {X Q es : List Nat} (h : DJ A Y (k + 1) X Q) (hX : Dig X) (hl : k + n + 1 ≤ X.length) (hY : Y < B64 ^ n) (hY0 : 0 < Y) (hQ : k < Q.length)
    (hel : es.length = n + 1) (he : val es = val ((X.drop k).take (n + 1)) % Y) :
    DJ A Y k (X.take k ++ es ++ X.drop (k + n + 1)) (Q.set k (val ((X.drop k).take (n + 1)) / Y)) := by
  obtain ⟨hz, hw⟩ := dj_window h hX hl hY
  obtain ⟨h1, h2⟩ := h
  obtain ⟨V, hV⟩ : ∃ V, V = val ((X.drop k).take (n + 1)) := ⟨_, rfl⟩
  rw [← hV] at he hw ⊢
  have eX : val X = val (X.take k) + B64 ^ k * V := by
    rw [val_split X k (by omega), hV]
    congr 2
    conv => lhs; rw [← List.take_append_drop (n + 1) (X.drop k)]
    rw [List.drop_drop, val_append, show k + (n + 1) = k + n + 1 by omega, hz]
    omega
  have eQ : val ((Q.set k (V / Y)).drop k) = V / Y + B64 * val (Q.drop (k + 1)) := by
    rw [List.drop_eq_getElem_cons (by simpa using hQ)]
    simp only [val, List.getElem_set_self]
    congr 3
    rw [List.drop_set_of_lt (by omega)]
  have hdm := Nat.div_add_mod V Y
  constructor
  · rw [eQ, List.append_assoc, val_append, val_append, hz, Nat.mul_zero, Nat.add_zero, List.length_take, Nat.min_eq_left (by omega), he]
    rw [eX, Nat.pow_succ] at h1
    rw [← h1]
    have e2 : B64 ^ k * V = B64 ^ k * (V / Y * Y) + B64 ^ k * (V % Y) := by rw [← Nat.mul_add, Nat.mul_comm (V / Y), hdm]
    rw [e2, Nat.mul_add, Nat.add_mul, Nat.mul_assoc (B64 ^ k) B64, Nat.mul_assoc (B64 ^ k) (V / Y)]
    omega
  · have hlen : (X.take k).length = k := by simp; omega
    have : (X.take k ++ es ++ X.drop (k + n + 1)).drop k = es ++ X.drop (k + n + 1) := by
      rw [List.append_assoc, List.drop_append_of_le_length (by omega), List.drop_of_length_le (by omega), List.nil_append]
    rw [this, val_append, hz, he]
    have := Nat.mod_lt V hY0
    omega

theorem dj_start {A Y M n s : Nat} {X Q : List Nat} (hXA : val X = A) (hXl : X.length = M + n) (hQ : Q.length = M) (hA : A < B64 ^ (M + n - 1) * 2 ^ s) (hY : B64 ^ (n - 1) * 2 ^ s ≤ Y) (hn : 1 ≤ n) :
    DJ A Y M X Q := by
  refine ⟨by rw [List.drop_of_length_le (by omega)]; simp [val, hXA], ?_⟩
  refine Nat.lt_of_lt_of_le ?_ hY
  have h1 := val_split X M (by omega)
  rw [hXA] at h1
  have e : B64 ^ (M + n - 1) = B64 ^ M * B64 ^ (n - 1) := by rw [← Nat.pow_add]; congr 1; omega
  rw [e, Nat.mul_assoc] at hA
  rcases Nat.lt_or_ge (val (X.drop M)) (B64 ^ (n - 1) * 2 ^ s) with h | h
  · exact h
  · have : B64 ^ M * (B64 ^ (n - 1) * 2 ^ s) ≤ B64 ^ M * val (X.drop M) := Nat.mul_le_mul_left _ h
    omega

theorem dj_done {A Y : Nat} {X Q : List Nat} (h : DJ A Y 0 X Q) : val Q = A / Y ∧ val X = A % Y := by
  obtain ⟨h1, h2⟩ := h
  simp only [Nat.pow_zero, Nat.one_mul, List.drop_zero] at h1 h2
  have := (Nat.div_mod_unique (b := Y) (a := A) (c := val X) (d := val Q) (by omega)).2 ⟨by rw [Nat.mul_comm]; exact h1, h2⟩
  exact ⟨this.1.symm, this.2.symm⟩

/-- A number whose highest digit has its highest bit at place 64 - s, s bits up: no digit more is wanted. -/
theorem norm_ups {ys : List Nat} {n s : Nat} (hl : ys.length = n) (hn : 1 ≤ n) (hs : s < 64) (h1 : ys.getD (n - 1) 0 * 2 ^ s < B64) (h2 : 9223372036854775808 ≤ ys.getD (n - 1) 0 * 2 ^ s) :
    val ((ups s 0 ys).take n) = val ys * 2 ^ s ∧ 9223372036854775808 ≤ ((ups s 0 ys).take n).getD (n - 1) 0 := by
  have hul : (ups s 0 ys).length = n + 1 := by rw [length_ups, hl]
  have hlast : (ups s 0 ys)[n]'(by omega) = 0 := by
    rw [ups_get, if_neg (by omega)]
    have : ys.getD n 0 = 0 := by simp [hl]
    rw [this, Nat.zero_mul, Nat.zero_mod, Nat.zero_add]
    refine Nat.div_eq_of_lt ?_
    rcases Nat.lt_or_ge (ys.getD (n - 1) 0) (2 ^ (64 - s)) with h | h
    · exact h
    · exfalso
      have : 2 ^ (64 - s) * 2 ^ s ≤ ys.getD (n - 1) 0 * 2 ^ s := Nat.mul_le_mul_right _ h
      rw [Nat.mul_comm, B64_split (by omega)] at this
      omega
  constructor
  · have h := val_split (ups s 0 ys) n (by omega)
    rw [val_ups hs, List.drop_eq_getElem_cons (by omega), hlast, List.drop_of_length_le (by omega)] at h
    simp only [val] at h
    omega
  · have e : ((ups s 0 ys).take n).getD (n - 1) 0 = (ups s 0 ys)[n - 1]'(by omega) := by
      simp [hul, show n - 1 < n by omega]
    rw [e, ups_get, Nat.mod_eq_of_lt h1]
    omega
end Go.Proofs.YtemlhloipjbecaaDoor
