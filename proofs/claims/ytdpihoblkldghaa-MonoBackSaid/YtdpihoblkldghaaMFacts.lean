/- Plain facts on all products within some degrees, and on the order of strings: no function is walked in this text. -/
import Derived.Test.YtdpihoblkldghaaMBase
namespace Go.Proofs.Ytdpihoblkldghaa
open Go.RowKit Go.Lib

/-- The k-th product within the degrees, the last variable first. -/
def nthR : List Nat → Nat → List Nat
  | [], _ => []
  | d :: ds, k => (k % (d + 1)) :: nthR ds (k / (d + 1))
/-- The k-th product within the degrees. -/
def nthT (ds : List Nat) (k : Nat) : List Nat := (nthR ds.reverse k).reverse
/-- How many there are. -/
def prodT : List Nat → Nat
  | [] => 1
  | d :: ds => (d + 1) * prodT ds
/-- The next one, the last variable first. -/
def stepR : List Nat → List Nat → List Nat
  | d :: ds, x :: xs => if x < d then (x + 1) :: xs else 0 :: stepR ds xs
  | _, _ => []
theorem nthR_length : ∀ (ds : List Nat) (k : Nat), (nthR ds k).length = ds.length
  | [], _ => rfl
  | d :: ds, k => by simp [nthR, nthR_length ds]
theorem nthT_length (ds : List Nat) (k : Nat) : (nthT ds k).length = ds.length := by simp [nthT, nthR_length]
theorem stepR_nthR : ∀ (ds : List Nat) (k : Nat), stepR ds (nthR ds k) = nthR ds (k + 1)
  | [], _ => rfl
  | d :: ds, k => by
    have hlt : k % (d + 1) < d + 1 := Nat.mod_lt k (Nat.succ_pos d)
    by_cases h : k % (d + 1) < d
    · have h1 : (k + 1) % (d + 1) = k % (d + 1) + 1 := by
        conv => lhs; rw [← Nat.div_add_mod k (d + 1), Nat.add_assoc, Nat.mul_add_mod]
        exact Nat.mod_eq_of_lt (by omega)
      have h2 : (k + 1) / (d + 1) = k / (d + 1) := by
        have e1 := Nat.div_add_mod k (d + 1)
        refine Nat.div_eq_of_lt_le ?_ ?_
        · rw [Nat.mul_comm]; omega
        · rw [Nat.add_mul, Nat.mul_comm]; omega
      simp only [nthR, stepR, if_pos h, h1, h2]
    · have h0 : k % (d + 1) = d := by omega
      have e1 := Nat.div_add_mod k (d + 1)
      have e2 : k + 1 = (d + 1) * (k / (d + 1) + 1) := by rw [Nat.mul_add]; omega
      have h1 : (k + 1) % (d + 1) = 0 := by rw [e2]; exact Nat.mul_mod_right _ _
      have h2 : (k + 1) / (d + 1) = k / (d + 1) + 1 := by
        conv => lhs; rw [e2]
        exact Nat.mul_div_cancel_left _ (Nat.succ_pos d)
      simp only [nthR, stepR, if_neg h, h1, h2, stepR_nthR ds]
theorem nthR_le : ∀ (ds : List Nat) (k i : Nat) (h : i < (nthR ds k).length), (nthR ds k)[i] ≤ ds[i]'(by rw [nthR_length] at h; exact h)
  | [], _, _, h => by simp [nthR] at h
  | d :: ds, k, 0, _ => by
    have hlt : k % (d + 1) < d + 1 := Nat.mod_lt k (Nat.succ_pos d)
    simp [nthR]; omega
  | d :: ds, k, i + 1, h => by
    have := nthR_le ds (k / (d + 1)) i (by simp [nthR] at h; exact h)
    simpa [nthR] using this
theorem nthR_zero : ∀ ds : List Nat, nthR ds 0 = List.replicate ds.length 0
  | [] => rfl
  | d :: ds => by simp [nthR, nthR_zero ds, List.replicate_succ]
theorem nthT_zero (ds : List Nat) : nthT ds 0 = List.replicate ds.length 0 := by simp [nthT, nthR_zero]
theorem nthT_snoc (ds : List Nat) (d j : Nat) : nthT (ds ++ [d]) j = nthT ds (j / (d + 1)) ++ [j % (d + 1)] := by simp [nthT, nthR]
theorem prodT_snoc (ds : List Nat) (d : Nat) : prodT (ds ++ [d]) = prodT ds * (d + 1) := by
  induction ds with
  | nil => simp [prodT]
  | cons x ds ih => simp only [List.cons_append, prodT, ih, Nat.mul_assoc]
theorem prodT_pos : ∀ ds : List Nat, 0 < prodT ds
  | [] => Nat.one_pos
  | d :: ds => Nat.mul_pos (Nat.succ_pos d) (prodT_pos ds)
theorem prodT_append (ds es : List Nat) : prodT (ds ++ es) = prodT ds * prodT es := by
  induction ds with
  | nil => simp [prodT]
  | cons x ds ih => simp only [List.cons_append, prodT, ih, Nat.mul_assoc]
theorem prodT_take_le (ds : List Nat) (k : Nat) : prodT (ds.take k) ≤ prodT ds := by
  conv => rhs; rw [← List.take_append_drop k ds, prodT_append]
  exact Nat.le_mul_of_pos_right _ (prodT_pos _)
theorem nthT_le (ds : List Nat) (k i : Nat) (h : i < ds.length) : (nthT ds k)[i]'(by rw [nthT_length]; exact h) ≤ ds[i] := by
  have h2 : ds.length - 1 - i < (nthR ds.reverse k).length := by rw [nthR_length, List.length_reverse]; omega
  have := nthR_le ds.reverse k (ds.length - 1 - i) h2
  simp only [nthT, List.getElem_reverse, nthR_length, List.length_reverse]
  rw [List.getElem_reverse] at this
  simpa [show ds.length - 1 - (ds.length - 1 - i) = i by omega] using this

/-- As a string. -/
def strT (l : List Nat) : ByteArray := ⟨(l.map UInt8.ofNat).toArray⟩
/-- All products within the degrees; none, if there are too many, or a degree may not be. -/
def allL (ns : List Int) : List ByteArray := if okE ns && decide (prodT (ns.map Int.toNat) ≤ 65536) then (List.range (prodT (ns.map Int.toNat))).map fun k => strT (nthT (ns.map Int.toNat) k) else []

/-! The loop that makes the next one. -/
theorem take_rev {l : List Nat} {k : Nat} (h : k < l.length) : (l.take (k + 1)).reverse = l[k] :: (l.take k).reverse := by
  rw [List.take_succ_eq_append_getElem h, List.reverse_append]; rfl
/-- Between the rounds of step: all but the first k are 0. -/
def StepI (ds xs : List Nat) (k : Nat) : Prop := stepR ds.reverse xs.reverse = List.replicate (xs.length - k) 0 ++ stepR (ds.take k).reverse (xs.take k).reverse
theorem StepI.start {ds xs : List Nat} (h : ds.length = xs.length) : StepI ds xs xs.length := by
  unfold StepI
  rw [Nat.sub_self, List.take_of_length_le (by omega), List.take_of_length_le (by omega)]
  rfl
theorem StepI.less {ds xs : List Nat} {k : Nat} (h : StepI ds xs (k + 1)) (hd : k < ds.length) (hx : k < xs.length) (hl : xs[k] < ds[k]) :
    (stepR ds.reverse xs.reverse).reverse = xs.take k ++ (xs[k] + 1) :: List.replicate (xs.length - (k + 1)) 0 := by
  unfold StepI at h
  rw [h, take_rev hd, take_rev hx, stepR, if_pos hl]
  simp
theorem StepI.more {ds xs : List Nat} {k : Nat} (h : StepI ds xs (k + 1)) (hd : k < ds.length) (hx : k < xs.length) (hl : ¬ xs[k] < ds[k]) : StepI ds xs k := by
  unfold StepI at h ⊢
  rw [h, take_rev hd, take_rev hx, stepR, if_neg hl, show xs.length - k = (xs.length - (k + 1)) + 1 by omega, List.replicate_succ']
  simp
theorem StepI.all {ds xs : List Nat} (h : StepI ds xs 0) : (stepR ds.reverse xs.reverse).reverse = List.replicate xs.length 0 := by
  unfold StepI at h
  rw [h]
  simp [stepR]
theorem step_nth (ds : List Nat) (k : Nat) : (stepR ds.reverse (nthT ds k).reverse).reverse = nthT ds (k + 1) := by
  unfold nthT
  rw [List.reverse_reverse, stepR_nthR]

/-! Order. -/
def addL : List UInt8 → List UInt8 → List UInt8
  | a :: x, b :: y => UInt8.ofNat (a.toNat + b.toNat) :: addL x y
  | _, _ => []
theorem u8_lt {a b : UInt8} : a < b ↔ a.toNat < b.toNat := Iff.rfl
theorem ofNat_toNat' {n : Nat} (h : n < 256) : (UInt8.ofNat n).toNat = n := by rw [UInt8.toNat_ofNat']; exact Nat.mod_eq_of_lt h
theorem u8_beq (a b : UInt8) : (a == b) = decide (a.toNat = b.toNat) := by
  rw [Bool.eq_iff_iff, beq_iff_eq, decide_eq_true_eq]
  exact UInt8.toNat_inj.symm
/-- What is added on both sides changes no order. -/
theorem less_add : ∀ (a b c : List UInt8), a.length = c.length → b.length = c.length → okM a = true → okM b = true → okM c = true → Op.bytesLess (addL a c) (addL b c) = Op.bytesLess a b
  | [], [], [], _, _, _, _, _ => rfl
  | [], _ :: _, [], _, h, _, _, _ => by simp at h
  | _ :: _, _, [], h, _, _, _, _ => by simp at h
  | [], _, _ :: _, h, _, _, _, _ => by simp at h
  | _ :: _, [], _ :: _, _, h, _, _, _ => by simp at h
  | x :: a, y :: b, z :: c, h1, h2, ha, hb, hc => by
    simp only [okM, List.all_cons, Bool.and_eq_true, decide_eq_true_eq] at ha hb hc
    have ih := less_add a b c (by simpa using h1) (by simpa using h2) ha.2 hb.2 hc.2
    simp only [addL, Op.bytesLess, ih]
    have e1 : (UInt8.ofNat (x.toNat + z.toNat)).toNat = x.toNat + z.toNat := ofNat_toNat' (by omega)
    have e2 : (UInt8.ofNat (y.toNat + z.toNat)).toNat = y.toNat + z.toNat := ofNat_toNat' (by omega)
    rw [u8_beq, u8_beq, e1, e2]
    have e3 : decide (UInt8.ofNat (x.toNat + z.toNat) < UInt8.ofNat (y.toNat + z.toNat)) = decide (x < y) := by
      rw [decide_eq_decide, u8_lt, u8_lt, e1, e2]; omega
    have e4 : decide (x.toNat + z.toNat = y.toNat + z.toNat) = decide (x.toNat = y.toNat) := by rw [decide_eq_decide]; omega
    rw [e3, e4]
theorem less_snoc : ∀ (a b : List UInt8) (x y : UInt8), a.length = b.length → Op.bytesLess (a ++ [x]) (b ++ [y]) = (Op.bytesLess a b || (a == b && decide (x < y)))
  | [], [], x, y, _ => by simp [Op.bytesLess]
  | u :: a, v :: b, x, y, h => by
    have ih := less_snoc a b x y (by simpa using h)
    simp only [List.cons_append, Op.bytesLess, ih, List.cons_beq_cons]
    cases decide (u < v) <;> cases (u == v) <;> simp
theorem nthT_bytes (ds : List Nat) (k : Nat) (h : ∀ d ∈ ds, d ≤ 127) : ∀ x ∈ nthT ds k, x < 256 := by
  intro x hx
  obtain ⟨i, hi, rfl⟩ := List.getElem_of_mem hx
  rw [nthT_length] at hi
  have := nthT_le ds k i hi
  have := h _ (List.getElem_mem hi)
  omega
end Go.Proofs.Ytdpihoblkldghaa
