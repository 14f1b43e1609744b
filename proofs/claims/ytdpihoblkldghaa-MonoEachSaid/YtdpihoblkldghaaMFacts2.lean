/- Plain facts: all products within some degrees rise, and each is there; no function is walked in this text. -/
import Derived.Test.YtdpihoblkldghaaM11
namespace Go.Proofs.Ytdpihoblkldghaa
open Go.RowKit Go.Lib

theorem prodT_reverse (ds : List Nat) : prodT ds.reverse = prodT ds := by
  induction ds with
  | nil => rfl
  | cons d ds ih => rw [List.reverse_cons, prodT_snoc, ih, prodT, Nat.mul_comm]
/-- Each that may be is there. -/
theorem nthR_all : ∀ (ds xs : List Nat), xs.length = ds.length → (∀ i (h1 : i < xs.length) (h2 : i < ds.length), xs[i] ≤ ds[i]) → ∃ k, k < prodT ds ∧ nthR ds k = xs
  | [], [], _, _ => ⟨0, Nat.one_pos, rfl⟩
  | [], _ :: _, h, _ => by simp at h
  | _ :: _, [], h, _ => by simp at h
  | d :: ds, x :: xs, hl, h => by
    have hx : x ≤ d := h 0 (by simp) (by simp)
    obtain ⟨k, hk, he⟩ := nthR_all ds xs (by simpa using hl) (fun i h1 h2 => by
      have := h (i + 1) (by simpa using h1) (by simpa using h2)
      simpa using this)
    refine ⟨(d + 1) * k + x, ?_, ?_⟩
    · show _ < (d + 1) * prodT ds
      have : (d + 1) * (k + 1) ≤ (d + 1) * prodT ds := Nat.mul_le_mul_left _ hk
      rw [Nat.mul_add] at this
      omega
    · have h1 : ((d + 1) * k + x) % (d + 1) = x := by rw [Nat.mul_add_mod, Nat.mod_eq_of_lt (by omega)]
      have h2 : ((d + 1) * k + x) / (d + 1) = k := by rw [Nat.mul_add_div (by omega), Nat.div_eq_of_lt (by omega), Nat.add_zero]
      simp only [nthR, h1, h2, he]
theorem nthT_all (ds xs : List Nat) (hl : xs.length = ds.length) (h : ∀ i (h1 : i < xs.length) (h2 : i < ds.length), xs[i] ≤ ds[i]) : ∃ k, k < prodT ds ∧ nthT ds k = xs := by
  obtain ⟨k, hk, he⟩ := nthR_all ds.reverse xs.reverse (by simpa using hl) (fun i h1 h2 => by
    rw [List.getElem_reverse, List.getElem_reverse]
    simp only [hl]
    exact h _ _ _)
  refine ⟨k, by rwa [prodT_reverse] at hk, ?_⟩
  unfold nthT
  rw [he, List.reverse_reverse]
theorem less_self : ∀ a : List UInt8, Op.bytesLess a a = false
  | [] => rfl
  | x :: a => by
    have h : decide (x < x) = false := decide_eq_false (by rw [u8_lt]; omega)
    simp [Op.bytesLess, less_self a]
/-- They rise. -/
theorem nth_rise : ∀ (rs : List Nat) (k : Nat), (∀ d ∈ rs, d ≤ 127) → k + 1 < prodT rs.reverse → Op.bytesLess ((nthT rs.reverse k).map UInt8.ofNat) ((nthT rs.reverse (k + 1)).map UInt8.ofNat) = true
  | [], k, _, h => by simp [prodT] at h
  | d :: rs, k, hd, h => by
    rw [List.reverse_cons] at h ⊢
    rw [prodT_snoc] at h
    rw [nthT_snoc, nthT_snoc, List.map_append, List.map_append]
    show Op.bytesLess (_ ++ [_]) (_ ++ [_]) = true
    rw [less_snoc _ _ _ _ (by simp [nthT_length])]
    have hd1 : d ≤ 127 := hd d (by simp)
    have hlt : k % (d + 1) < d + 1 := Nat.mod_lt k (Nat.succ_pos d)
    by_cases hc : k % (d + 1) < d
    · have h1 : (k + 1) % (d + 1) = k % (d + 1) + 1 := by
        conv => lhs; rw [← Nat.div_add_mod k (d + 1), Nat.add_assoc, Nat.mul_add_mod]
        exact Nat.mod_eq_of_lt (by omega)
      have h2 : (k + 1) / (d + 1) = k / (d + 1) := by
        have e1 := Nat.div_add_mod k (d + 1)
        refine Nat.div_eq_of_lt_le ?_ ?_
        · rw [Nat.mul_comm]; omega
        · rw [Nat.add_mul, Nat.mul_comm]; omega
      rw [h1, h2, less_self, Bool.false_or]
      have h3 : UInt8.ofNat (k % (d + 1)) < UInt8.ofNat (k % (d + 1) + 1) := by
        rw [u8_lt, ofNat_toNat' (by omega), ofNat_toNat' (by omega)]; omega
      show (_ == _ && decide (UInt8.ofNat (k % (d + 1)) < UInt8.ofNat (k % (d + 1) + 1))) = true
      rw [decide_eq_true h3, Bool.and_true, beq_self_eq_true]
    · have e1 := Nat.div_add_mod k (d + 1)
      have e2 : k + 1 = (d + 1) * (k / (d + 1) + 1) := by rw [Nat.mul_add]; omega
      have h2 : (k + 1) / (d + 1) = k / (d + 1) + 1 := by
        conv => lhs; rw [e2]
        exact Nat.mul_div_cancel_left _ (Nat.succ_pos d)
      have h3 : k / (d + 1) + 1 < prodT rs.reverse := by
        rw [e2, Nat.mul_comm] at h
        exact Nat.lt_of_mul_lt_mul_right h
      rw [h2, nth_rise rs (k / (d + 1)) (fun x hx => hd x (List.mem_cons_of_mem _ hx)) h3]
      rfl
theorem nthT_rise (ds : List Nat) (k : Nat) (hd : ∀ d ∈ ds, d ≤ 127) (h : k + 1 < prodT ds) : Op.bytesLess (strT (nthT ds k)).toList (strT (nthT ds (k + 1))).toList = true := by
  have := nth_rise ds.reverse k (fun d h => hd d (List.mem_reverse.1 h)) (by rwa [List.reverse_reverse])
  rw [List.reverse_reverse] at this
  rw [Lib.toList_data, Lib.toList_data]
  exact this
/-- Is it one of as many variables, each exponent within? -/
def inT (ds : List Nat) (m : ByteArray) (k : Nat) : Prop := m.size = ds.length ∧ ∀ i (h1 : i < m.data.toList.length) (h2 : i < ds.length), i < k → (m.data.toList[i]).toNat ≤ ds[i]
theorem in_found (ds : List Nat) (m : ByteArray) (hd : ∀ d ∈ ds, d ≤ 127) : inT ds m ds.length ↔ ∃ k, k < prodT ds ∧ strT (nthT ds k) = m := by
  constructor
  · rintro ⟨h1, h2⟩
    have hl : m.data.toList.length = ds.length := h1
    obtain ⟨k, hk, he⟩ := nthT_all ds (m.data.toList.map UInt8.toNat) (by simpa using hl) (fun i g1 g2 => by
      rw [List.getElem_map]
      exact h2 i (by simpa using g1) g2 g2)
    refine ⟨k, hk, ?_⟩
    rw [he]
    refine ba_ext ?_
    show (m.data.toList.map UInt8.toNat).map UInt8.ofNat = m.data.toList
    rw [List.map_map]
    conv => rhs; rw [← List.map_id m.data.toList]
    exact List.map_congr_left fun x _ => UInt8.ofNat_toNat
  · rintro ⟨k, hk, rfl⟩
    refine ⟨by rw [strT_size, nthT_length], fun i g1 g2 _ => ?_⟩
    have e : (strT (nthT ds k)).data.toList = (nthT ds k).map UInt8.ofNat := rfl
    have hb := nthT_bytes ds k hd
    have hlt : i < (nthT ds k).length := by rw [nthT_length]; exact g2
    have : ((strT (nthT ds k)).data.toList[i]) = UInt8.ofNat ((nthT ds k)[i]) := by
      simp only [e, List.getElem_map]
    rw [this, ofNat_toNat' (hb _ (List.getElem_mem hlt))]
    exact nthT_le ds k i g2
end Go.Proofs.Ytdpihoblkldghaa
