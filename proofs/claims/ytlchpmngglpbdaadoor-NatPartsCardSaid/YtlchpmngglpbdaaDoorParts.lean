/- The law of quotient and rest: it answers true for all. -/
import Derived.Test.YtlchpmngglpbdaaDoorRing
namespace Go.Proofs.YtlchpmngglpbdaaDoor
open Go.RowKit Go.Shelf

theorem lt_mul_add {x y z m n : Nat} (hx : x < 256 ^ m) (hy : y < 256 ^ n) (hz : z < x) : x * y + z < 256 ^ (m + n) := by
  have h1 : x * y + z < x * (y + 1) := by rw [Nat.mul_succ]; omega
  have h2 : x * (y + 1) ≤ x * 256 ^ n := Nat.mul_le_mul_left _ hy
  have h3 : x * 256 ^ n ≤ 256 ^ m * 256 ^ n := Nat.mul_le_mul_right _ (Nat.le_of_lt hx)
  rw [Nat.pow_add]
  omega
theorem fb_zero : fb 0 = ⟨#[]⟩ := rfl
theorem num_none : num ⟨#[]⟩ = 0 := by kernel_rfl

set_option maxRecDepth 100000 in
set_option maxHeartbeats 4000000 in
theorem parts_any (w : World) (a b c : ByteArray) : Calls Tryd.prog 10 #[.string a, .string b, .string c] w (Ret (.bool true) w) := by
  have hb := Below.refl w.heap.size w
  go_enter Tryd.func10, Tryd.ntmps10
  by_cases ha3 : 300 < a.size
  · go_wp2_with fail
    refine (awake_any _).mono ?_
    rintro e W ⟨rfl, hq⟩
    replace hb := below_next hb hq; clear hq
    go_wp2
    go_ret
    exact ⟨rfl, hb⟩
  by_cases hb3 : 300 < b.size
  · go_wp2_with fail
    refine (awake_any _).mono ?_
    rintro e W ⟨rfl, hq⟩
    replace hb := below_next hb hq; clear hq
    go_wp2
    go_ret
    exact ⟨rfl, hb⟩
  by_cases hc3 : 300 < c.size
  · go_wp2_with fail
    refine (awake_any _).mono ?_
    rintro e W ⟨rfl, hq⟩
    replace hb := below_next hb hq; clear hq
    go_wp2
    go_ret
    exact ⟨rfl, hb⟩
  · by_cases h0 : num b = 0
    · have q1 : divV (num a) (num b) = .tuple #[.string ⟨#[]⟩, .string ⟨#[]⟩, .bool false] := by unfold divV; rw [if_pos h0, fb_zero]
      have q2 : cmpN (num b) (num ⟨#[]⟩) = 0 := by rw [h0, num_none]; rfl
      have HQ := Lib.hid (And.intro q1 q2); clear q1 q2 h0
      go_wp2_with fail
      refine (use_div _ a b _ (by omega) (by omega) HQ.out.1).mono ?_
      rintro e W ⟨rfl, hq⟩
      replace hb := below_next hb hq; clear hq
      go_wp2_with fail
      refine (use_cmp _ b _ 0 HQ.out.2).mono ?_
      rintro e W ⟨rfl, hq⟩
      replace hb := below_next hb hq; clear hq
      go_wp2_with fail
      refine (awake_any _).mono ?_
      rintro e W ⟨rfl, hq⟩
      replace hb := below_next hb hq; clear hq
      go_wp2
      go_ret
      exact ⟨rfl, hb⟩
    · have hA := lt_size (k := 300) (s := a) (by omega)
      have hB := lt_size (k := 300) (s := b) (by omega)
      have hC := lt_size (k := 300) (s := c) (by omega)
      have hpos : 0 < num b := Nat.pos_of_ne_zero h0
      have hr := Nat.mod_lt (num a) hpos
      obtain ⟨Q, eQ, nQ, sQ⟩ := nm (Nat.lt_of_le_of_lt (Nat.div_le_self (num a) (num b)) hA)
      obtain ⟨R, eR, nR, sR⟩ := nm (Nat.lt_trans hr hB)
      obtain ⟨E, eE, nE, sE⟩ := nm (Nat.lt_of_le_of_lt (Nat.mul_div_le (num a) (num b)) hA)
      obtain ⟨T, eT, nT, sT⟩ := nm hA
      obtain ⟨G, eG, nG, sG⟩ := nm (lt_mul hB hC)
      obtain ⟨H, eH, nH, sH⟩ := nm (lt_mul_add hB hC hr)
      obtain ⟨C, eC, nC, sC⟩ := nm hC
      have q1 : divV (num a) (num b) = .tuple #[.string Q, .string R, .bool true] := by unfold divV; rw [if_neg h0, eQ, eR]
      have q2 : cmpN (num b) (num ⟨#[]⟩) = 1 := by unfold cmpN; rw [num_none, if_neg (by omega), if_pos hpos]
      have q3 : fb (num b * num Q) = E := by rw [nQ, eE]
      have q4 : fb (num E + num R) = T := by rw [nE, nR, Nat.div_add_mod, eT]
      have q5 : cmpN (num R) (num b) = -1 := by unfold cmpN; rw [nR, if_pos hr]
      have q6 : fb (num G + num R) = H := by rw [nG, nR, eH]
      have q7 : divV (num H) (num b) = .tuple #[.string C, .string R, .bool true] := by
        unfold divV
        rw [if_neg h0, nH, Nat.mul_add_div hpos, Nat.div_eq_of_lt hr, Nat.add_zero, eC, Nat.mul_add_mod, Nat.mod_mod, eR]
      clear hA hB hC nQ nR nE nT nG nH nC hr hpos h0
      have HQ := Lib.hid (And.intro q1 (And.intro q2 (And.intro q3 (And.intro q4 (And.intro q5 (And.intro q6 q7))))))
      have HE := Lib.hid (And.intro eT (And.intro eG eC))
      clear q1 q2 q3 q4 q5 q6 q7 eQ eR eE eT eG eH eC
      go_wp2_with fail
      refine (use_div _ a b _ (by omega) (by omega) HQ.out.1).mono ?_
      rintro e W ⟨rfl, hq⟩
      replace hb := below_next hb hq; clear hq
      go_wp2_with fail
      refine (use_cmp _ b _ 1 HQ.out.2.1).mono ?_
      rintro e W ⟨rfl, hq⟩
      replace hb := below_next hb hq; clear hq
      go_wp2_with fail
      refine (use_mul _ b Q E (by omega) (by omega) HQ.out.2.2.1).mono ?_
      rintro e W ⟨rfl, hq⟩
      replace hb := below_next hb hq; clear hq
      go_wp2_with fail
      refine (use_add _ E R T (by omega) (by omega) HQ.out.2.2.2.1).mono ?_
      rintro e W ⟨rfl, hq⟩
      replace hb := below_next hb hq; clear hq
      go_wp2_with fail
      refine (use_trim _ a T (by omega) HE.out.1).mono ?_
      rintro e W ⟨rfl, hq⟩
      replace hb := below_next hb hq; clear hq
      go_wp2_with fail
      refine (use_cmp _ R b (-1) HQ.out.2.2.2.2.1).mono ?_
      rintro e W ⟨rfl, hq⟩
      replace hb := below_next hb hq; clear hq
      go_wp2_with fail
      refine (use_mul _ b c G (by omega) (by omega) HE.out.2.1).mono ?_
      rintro e W ⟨rfl, hq⟩
      replace hb := below_next hb hq; clear hq
      go_wp2_with fail
      refine (use_add _ G R H (by omega) (by omega) HQ.out.2.2.2.2.2.1).mono ?_
      rintro e W ⟨rfl, hq⟩
      replace hb := below_next hb hq; clear hq
      go_wp2_with fail
      refine (use_div _ H b _ (by omega) (by omega) HQ.out.2.2.2.2.2.2).mono ?_
      rintro e W ⟨rfl, hq⟩
      replace hb := below_next hb hq; clear hq
      go_wp2_with fail
      refine (use_trim _ c C (by omega) HE.out.2.2).mono ?_
      rintro e W ⟨rfl, hq⟩
      replace hb := below_next hb hq; clear hq
      go_wp2_with fail
      refine (awake_any _).mono ?_
      rintro e W ⟨rfl, hq⟩
      replace hb := below_next hb hq; clear hq
      go_wp2
      go_ret
      exact ⟨rfl, hb⟩
end Go.Proofs.YtlchpmngglpbdaaDoor
