/- The document's answer's Zeros and Shr, walked. -/
import Derived.Test.YtemlhloipjbecaaDoorRef9
namespace Go.Proofs.YtemlhloipjbecaaDoor
open Go.RowKit Go.Shelf

theorem tz_found {bs : List Nat} {k : Nat} (h0 : val2 (bs.take k) = 0) (h1 : bs.getD k 0 = 1) : tz (val2 bs) = k := by
  have h := val2_parts bs k
  rw [h0, Nat.zero_add, val2_drop, h1, Nat.add_comm 1] at h
  rw [h, tz_of]

set_option maxRecDepth 100000 in
set_option maxHeartbeats 400000 in
theorem ref_zeros (w : World) (s : ByteArray) (hs : s.size ≤ 1000000) : Calls Tryd.prog 21 #[.string s] w (Ret (.int .i64 (tz (num s))) w) := by
  go_enter Tryd.func21, Tryd.ntmps21
  go_wp2_with fail
  refine (bits_of_any _ s hs).mono ?_
  rintro e w1 ⟨ad, c, es, rfl, hbw, hbit, _, hv, hle, hb⟩
  have HV := Lib.hid hv; clear hv
  obtain ⟨N, hN⟩ : ∃ N, N = es.length := ⟨_, rfl⟩
  have HN := Lib.hid hN
  have hNm : N ≤ 8000000 := by omega
  rw [← hN]
  clear hN hle
  go_wp2
  go_loopw [4] (fun i wr => ∃ k : Nat, k ≤ N ∧ i = .int .i64 k ∧ val2 (es.take k) = 0 ∧ w1 = wr) (fun i _ => N - intN i)
  case atStart => exact ⟨0, Nat.zero_le _, rfl, rfl, rfl⟩
  case round =>
    obtain ⟨k, hk, rfl, hz, rfl⟩ := hrel
    have HZ := Lib.hid hz; clear hz
    by_cases hlt : k < N
    · have hke : k < es.length := by rw [← HN.out]; exact hlt
      obtain ⟨bb, off, rfl, hbl, hcx⟩ := hbw.cell k hke
      obtain ⟨b, hbb⟩ : ∃ b, b = es[k] := ⟨_, rfl⟩
      have hb2 : b < 2 := by rw [hbb]; exact hbit.get hke
      have hg : es.getD k 0 = b := by rw [hbb]; simp [hke]
      rw [← hbb] at hcx
      unfold bv at hcx
      have HG := Lib.hid hg; clear hg hbb
      by_cases h1 : b = 1
      · subst h1
        have ht : tz (num s) = k := by rw [← HV.out]; exact tz_found HZ.out HG.out
        have HT := Lib.hid ht; clear ht
        go_wp2
        go_ret
        exact ⟨by rw [HT.out]; rfl, hb⟩
      · obtain rfl : b = 0 := by omega
        have hz2 : val2 (es.take (k + 1)) = 0 := by rw [val2_take_succ, HZ.out, HG.out]; simp
        have HZ2 := Lib.hid hz2; clear hz2
        go_wp2
        go_roundw
        case rel => exact ⟨k + 1, by omega, by simp, HZ2.out, trivial⟩
        case measure => simp [intN]; omega
    · have hz0 : num s = 0 := by
        have h := HZ.out
        rw [List.take_of_length_le (by rw [← HN.out]; omega), HV.out] at h
        exact h
      have HT := Lib.hid hz0; clear hz0
      go_wp2
      go_ret
      exact ⟨by rw [HT.out]; rfl, hb⟩

set_option maxRecDepth 100000 in
set_option maxHeartbeats 400000 in
theorem ref_shr (w : World) (s : ByteArray) (n : Int) (hs : s.size ≤ 1000000) (hn : n ≤ 9223372036854775807) : Calls Tryd.prog 35 #[.string s, .int .i64 n] w (Ret (.string (fb (shrN (num s) n))) w) := by
  go_enter Tryd.func35, Tryd.ntmps35
  go_wp2_with fail
  refine (bits_of_any _ s hs).mono ?_
  rintro e w2 ⟨ad, c, xs, rfl, hxw, hbx, htop, hvx, hlx, hb⟩
  have hcut : ∀ m : Nat, xs.length ≤ m → num s / 2 ^ m = 0 := by
    intro m hm
    rw [← hvx]
    exact Nat.div_eq_of_lt (Nat.lt_of_lt_of_le (val2_lt hbx) (Nat.pow_le_pow_right (by omega) hm))
  have hdr : ∀ m : Nat, m < xs.length → val2 (xs.drop m) = num s / 2 ^ m := by
    intro m hm
    have h := val2_parts xs m
    rw [← hvx, h, Nat.add_mul_div_left _ _ (Nat.two_pow_pos _), Nat.div_eq_of_lt (val2_take_lt hbx m), Nat.zero_add]
  have HC := Lib.hid (And.intro hcut hdr); clear hcut hdr hvx
  have hle := hxw.le
  by_cases hn0 : n < 0
  · have HS : Hid (shrN (num s) n = num s / 2 ^ 0) := by unfold shrN; rw [if_pos hn0, Nat.pow_zero, Nat.div_one]; exact rfl
    have hd : decide (n < 0) = true := by simpa using hn0
    clear hn0
    by_cases hx0 : xs = []
    · subst hx0
      have HZ := Lib.hid (HC.out.1 0 (Nat.le_refl _))
      go_wp2
      go_ret
      exact ⟨by rw [HS.out, HZ.out]; rfl, hb⟩
    · have hpos : 0 < xs.length := List.length_pos_iff.2 hx0
      have hz : decide ((xs.length : Int) ≤ 0) = false := by simp; exact hx0
      obtain ⟨bb, off, rfl, hbl, _⟩ := hxw.cell 0 hpos
      have hd0 := hxw.drop hbl 0 (by omega)
      rw [Nat.add_zero, Nat.sub_zero] at hd0
      have HZ := Lib.hid (HC.out.2 0 hpos)
      go_wp2_with fail
      refine (textr_any _ _ c xs.length (xs.drop 0) hd0 (by simp) (hbx.drop 0) (by omega)).mono ?_
      rintro e w4 ⟨rfl, hb4⟩
      go_wp2
      go_ret
      exact ⟨by rw [HS.out, ← HZ.out]; rfl, below_trans hb hb4⟩
  · obtain ⟨m, rfl⟩ : ∃ m : Nat, n = m := ⟨n.toNat, by omega⟩
    have HS : Hid (shrN (num s) (m : Int) = num s / 2 ^ m) := by unfold shrN; rw [if_neg hn0]; exact rfl
    by_cases hbig : xs.length ≤ m
    · have HZ := Lib.hid (HC.out.1 m hbig)
      go_wp2
      go_ret
      exact ⟨by rw [HS.out, HZ.out]; rfl, hb⟩
    · have hlt : m < xs.length := by omega
      obtain ⟨bb, off, rfl, hbl, _⟩ := hxw.cell 0 (by omega)
      have hd0 := hxw.drop hbl m (by omega)
      have HZ := Lib.hid (HC.out.2 m hlt)
      have hmle : m ≤ xs.length := by omega
      go_wp2_with fail
      refine (textr_any _ _ (c - m) (xs.length - m) (xs.drop m) hd0 (by simp) (hbx.drop m) (by omega)).mono ?_
      rintro e w4 ⟨rfl, hb4⟩
      go_wp2
      go_ret
      exact ⟨by rw [HS.out, ← HZ.out]; rfl, below_trans hb hb4⟩
end Go.Proofs.YtemlhloipjbecaaDoor
