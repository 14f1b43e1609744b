/- Plain facts on eight bytes read as a digit: no program stands in this text. -/
import Derived.Test.YtemlhloipjbecaaDoorByte2
import Derived.Laws.BitsAllLaws
namespace Go.Proofs.YtemlhloipjbecaaDoor

theorem split8 (t : ByteArray) (h : 8 ≤ t.size) : ∃ (c0 c1 c2 c3 c4 c5 c6 c7 : UInt8) (v : ByteArray), t.extract (t.size - 8) t.size = ⟨#[c0, c1, c2, c3, c4, c5, c6, c7]⟩ ∧ t.extract 0 (t.size - 8) = v ∧
    t.data.toList = v.data.toList ++ [c0, c1, c2, c3, c4, c5, c6, c7] ∧ v.size = t.size - 8 := by
  obtain ⟨l, hl⟩ : ∃ l, l = t.data.toList := ⟨_, rfl⟩
  have hlen : l.length = t.size := by rw [hl]; rfl
  have hd : (l.drop (l.length - 8)).length = 8 := by rw [List.length_drop]; omega
  match hm : l.drop (l.length - 8), hd with
  | [c0, c1, c2, c3, c4, c5, c6, c7], _ =>
    refine ⟨c0, c1, c2, c3, c4, c5, c6, c7, _, ?_, rfl, ?_, ?_⟩
    · apply ByteArray.ext
      apply Array.ext'
      rw [ByteArray.data_extract]
      simp only [Array.toList_extract]
      rw [← hl]
      have e : l.extract (t.size - 8) t.size = l.drop (l.length - 8) := by
        rw [List.extract_eq_take_drop, ← hlen, List.take_of_length_le (by rw [List.length_drop]; omega)]
      rw [e, hm]
    · rw [← hl]
      have e : (t.extract 0 (t.size - 8)).data.toList = l.take (l.length - 8) := by
        rw [ByteArray.data_extract, Array.toList_extract, ← hl, List.extract_eq_take_drop, ← hlen]; simp
      rw [e, ← hm, List.take_append_drop]
    · rw [ByteArray.size_extract]; omega

/-- Eight bytes as a digit. -/
def dig8 (c0 c1 c2 c3 c4 c5 c6 c7 : UInt8) : Nat := numL [c0, c1, c2, c3, c4, c5, c6, c7]
theorem dig8_eq (c0 c1 c2 c3 c4 c5 c6 c7 : UInt8) : dig8 c0 c1 c2 c3 c4 c5 c6 c7 = c0.toNat * 72057594037927936 + c1.toNat * 281474976710656 + c2.toNat * 1099511627776 + c3.toNat * 4294967296 + c4.toNat * 16777216 + c5.toNat * 65536 + c6.toNat * 256 + c7.toNat := by
  simp only [dig8, numL, List.foldl_cons, List.foldl_nil]
  omega
theorem dig8_lt (c0 c1 c2 c3 c4 c5 c6 c7 : UInt8) : dig8 c0 c1 c2 c3 c4 c5 c6 c7 < B64 := by
  have h : numL [c0, c1, c2, c3, c4, c5, c6, c7] < 256 ^ 8 := numL_lt [c0, c1, c2, c3, c4, c5, c6, c7]
  rw [show (256 : Nat) ^ 8 = B64 from rfl] at h
  exact h
/-- One byte more, above the others. -/
theorem or_byte (a k : Nat) (c : UInt8) (ha : a < 2 ^ k) (hk : k ≤ 56) : bits .or .u64 (a : Int) (IntKind.u64.wrap ((c.toNat : Int) * 2 ^ k)) = ((a + c.toNat * 2 ^ k : Nat) : Int) := by
  have hc := c.toNat_lt
  have hp : 2 ^ k ≤ 2 ^ 56 := Nat.pow_le_pow_right (by omega) hk
  have h1 : c.toNat * 2 ^ k ≤ 255 * 2 ^ k := Nat.mul_le_mul_right _ (by omega)
  have h2 : c.toNat * 2 ^ k < 18446744073709551616 := by
    have : 255 * 2 ^ k ≤ 255 * 2 ^ 56 := Nat.mul_le_mul_left _ hp
    omega
  have e : IntKind.u64.wrap ((c.toNat : Int) * 2 ^ k) = ((c.toNat * 2 ^ k : Nat) : Int) := by
    have e1 : ((c.toNat : Int) * 2 ^ k) = ((c.toNat * 2 ^ k : Nat) : Int) := by simp
    rw [e1, IntKind.wrap_u64]; omega
  rw [e, u64_or_nat _ _ (by omega) h2, Nat.or_comm, or_add _ _ _ ha, Nat.add_comm]
theorem wrap_byte (c : UInt8) : IntKind.u64.wrap (c.toNat : Int) = (c.toNat : Int) := by
  have := c.toNat_lt
  rw [IntKind.wrap_u64]; omega
theorem or_eight (c0 c1 c2 c3 c4 c5 c6 c7 : UInt8) : ∃ A1 A2 A3 A4 A5 A6 : Nat,
    bits .or .u64 (c7.toNat : Int) (IntKind.u64.wrap ((c6.toNat : Int) * 256)) = (A1 : Int) ∧
    bits .or .u64 (A1 : Int) (IntKind.u64.wrap ((c5.toNat : Int) * 65536)) = (A2 : Int) ∧
    bits .or .u64 (A2 : Int) (IntKind.u64.wrap ((c4.toNat : Int) * 16777216)) = (A3 : Int) ∧
    bits .or .u64 (A3 : Int) (IntKind.u64.wrap ((c3.toNat : Int) * 4294967296)) = (A4 : Int) ∧
    bits .or .u64 (A4 : Int) (IntKind.u64.wrap ((c2.toNat : Int) * 1099511627776)) = (A5 : Int) ∧
    bits .or .u64 (A5 : Int) (IntKind.u64.wrap ((c1.toNat : Int) * 281474976710656)) = (A6 : Int) ∧
    bits .or .u64 (A6 : Int) (IntKind.u64.wrap ((c0.toNat : Int) * 72057594037927936)) = ((dig8 c0 c1 c2 c3 c4 c5 c6 c7 : Nat) : Int) := by
  have h7 := c7.toNat_lt
  have h6 := c6.toNat_lt
  have h5 := c5.toNat_lt
  have h4 := c4.toNat_lt
  have h3 := c3.toNat_lt
  have h2 := c2.toNat_lt
  have h1 := c1.toNat_lt
  refine ⟨_, _, _, _, _, _, or_byte c7.toNat 8 c6 (by omega) (by omega), or_byte _ 16 c5 ?_ (by omega), or_byte _ 24 c4 ?_ (by omega), or_byte _ 32 c3 ?_ (by omega), or_byte _ 40 c2 ?_ (by omega), or_byte _ 48 c1 ?_ (by omega), ?_⟩
  · omega
  · omega
  · omega
  · omega
  · omega
  · refine (or_byte _ 56 c0 ?_ (by omega)).trans ?_
    · omega
    · rw [dig8_eq]; congr 1; omega
/-- One byte more, below the others. -/
theorem or_low (a : Nat) (c : UInt8) (ha : a < 72057594037927936) : bits .or .u64 (IntKind.u64.wrap ((a : Int) * 256)) (c.toNat : Int) = ((a * 256 + c.toNat : Nat) : Int) := by
  have hc := c.toNat_lt
  have e : IntKind.u64.wrap ((a : Int) * 256) = ((a * 256 : Nat) : Int) := by
    rw [IntKind.wrap_u64]; omega
  rw [e, u64_or_nat _ _ (by omega) (by omega)]
  have := or_add a c.toNat 8 (by omega)
  rw [show (2 : Nat) ^ 8 = 256 from rfl] at this
  rw [this]
theorem numL_take_succ (l : List UInt8) (k : Nat) (h : k < l.length) : numL (l.take (k + 1)) = numL (l.take k) * 256 + l[k].toNat := by
  rw [List.take_succ_eq_append_getElem h, numL_snoc]
theorem numL_take_lt (l : List UInt8) (k : Nat) (h : k < 8) (hl : l.length < 8) (hk : k < l.length) : numL (l.take k) < 72057594037927936 := by
  have h1 := numL_lt (l.take k)
  have h2 : (l.take k).length ≤ 6 := by rw [List.length_take]; omega
  have h3 : 256 ^ (l.take k).length ≤ 256 ^ 6 := Nat.pow_le_pow_right (by omega) h2
  omega
theorem num8 (t v : ByteArray) (c0 c1 c2 c3 c4 c5 c6 c7 : UInt8) (h : t.data.toList = v.data.toList ++ [c0, c1, c2, c3, c4, c5, c6, c7]) : num t = num v * B64 + dig8 c0 c1 c2 c3 c4 c5 c6 c7 := by
  unfold num dig8
  rw [h, numL_append]
  show _ * 256 ^ 8 + _ = _
  rw [show (256 : Nat) ^ 8 = B64 from rfl]
theorem NZ_append {l m : List UInt8} (h : NZ (l ++ m)) : NZ l := by
  intro b hb
  refine h b ?_
  cases l with
  | nil => cases hb
  | cons x l => exact hb
theorem dig8_pos {l : List UInt8} {c0 c1 c2 c3 c4 c5 c6 c7 : UInt8} (h : NZ (l ++ [c0, c1, c2, c3, c4, c5, c6, c7])) (hl : l = []) : dig8 c0 c1 c2 c3 c4 c5 c6 c7 ≠ 0 := by
  subst hl
  intro e
  have := numL_zero_NZ h e
  cases this
theorem toList_isEmpty (t : ByteArray) : t.toList.isEmpty = decide (t.size = 0) := by
  rw [Lib.toList_data, Bool.eq_iff_iff]
  simp
  constructor
  · intro h; exact ByteArray.ext h
  · intro h; rw [h]; rfl
end Go.Proofs.YtemlhloipjbecaaDoor
