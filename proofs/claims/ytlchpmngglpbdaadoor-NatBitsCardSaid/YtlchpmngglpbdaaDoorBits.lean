/- The law of bits: it answers true for all. -/
import Derived.Test.YtlchpmngglpbdaaDoorParts
import Derived.Laws.BitsLemmas
namespace Go.Proofs.YtlchpmngglpbdaaDoor
open Go.RowKit Go.Shelf

theorem and2047 (n : Int) : ∃ k : Nat, k ≤ 2047 ∧ bits .and .i64 n 2047 = (k : Int) := by
  have h2047 : (BitVec.ofInt 64 2047).toNat = 2 ^ 11 - 1 := by decide
  have key : (BitVec.ofInt 64 n &&& BitVec.ofInt 64 2047).toNat = (n % ((2 ^ 64 : Nat) : Int)).toNat % 2 ^ 11 := by
    rw [BitVec.toNat_and, BitVec.toNat_ofInt, h2047, Nat.and_two_pow_sub_one_eq_mod]
  refine ⟨(n % ((2 ^ 64 : Nat) : Int)).toNat % 2 ^ 11, by omega, ?_⟩
  show IntKind.i64.wrap ((BitVec.ofInt 64 n &&& BitVec.ofInt 64 2047).toNat : Nat) = _
  rw [key, IntKind.wrap_i64]
  omega
theorem bl_mul {a b : Nat} (ha : 0 < a) (hb : 0 < b) : bl (a * b) = bl a + bl b ∨ bl (a * b) = bl a + bl b - 1 := by
  obtain ⟨a1, a2, a3⟩ := bl_bounds ha
  obtain ⟨b1, b2, b3⟩ := bl_bounds hb
  have lo : 2 ^ (bl a - 1 + (bl b - 1)) ≤ a * b := by rw [Nat.pow_add]; exact Nat.mul_le_mul a2 b2
  have hi : a * b < 2 ^ (bl a + bl b) := by rw [Nat.pow_add]; exact Nat.mul_lt_mul'' a3 b3
  by_cases h : a * b < 2 ^ (bl a - 1 + (bl b - 1) + 1)
  · right; rw [bl_of lo h]; omega
  · left
    have e : bl a - 1 + (bl b - 1) + 1 + 1 = bl a + bl b := by omega
    rw [bl_of (k := bl a - 1 + (bl b - 1) + 1) (by omega) (by rw [e]; exact hi), e]
theorem bl_shl {a : Nat} (ha : 0 < a) (k : Nat) : bl (a * 2 ^ k) = bl a + k := by
  obtain ⟨a1, a2, a3⟩ := bl_bounds ha
  have lo : 2 ^ (bl a - 1 + k) ≤ a * 2 ^ k := by rw [Nat.pow_add]; exact Nat.mul_le_mul_right _ a2
  have hi : a * 2 ^ k < 2 ^ (bl a - 1 + k + 1) := by
    rw [show bl a - 1 + k + 1 = bl a + k by omega, Nat.pow_add]
    exact Nat.mul_lt_mul_of_pos_right a3 (Nat.two_pow_pos _)
  rw [bl_of lo hi]; omega
theorem bl_gt {a b : Nat} (h : bl b < bl a) : b < a := by
  have ha : 0 < a := by
    rcases Nat.eq_zero_or_pos a with h0 | h0
    · rw [h0, bl_zero] at h; omega
    · exact h0
  obtain ⟨a1, a2, _⟩ := bl_bounds ha
  rcases Nat.eq_zero_or_pos b with h0 | h0
  · omega
  · obtain ⟨_, _, b3⟩ := bl_bounds h0
    have : 2 ^ bl b ≤ 2 ^ (bl a - 1) := Nat.pow_le_pow_right (by omega) (by omega)
    omega
theorem bl_le {a m : Nat} (h : a < 2 ^ m) : bl a ≤ m := by
  rcases Nat.eq_zero_or_pos a with h0 | h0
  · rw [h0, bl_zero]; omega
  · obtain ⟨a1, a2, _⟩ := bl_bounds h0
    have := (Nat.pow_lt_pow_iff_right (by omega : 1 < 2)).1 (Nat.lt_of_le_of_lt a2 h)
    omega
theorem tz_lt {a : Nat} (h : 0 < a) : tz a < bl a := by
  obtain ⟨_, _, a3⟩ := bl_bounds h
  obtain ⟨z, m, e⟩ := tz_ex h
  have h1 : tz a = z := by rw [e, tz_of]
  have h2 : 2 ^ z ≤ a := by rw [e]; exact Nat.le_mul_of_pos_right _ (by omega)
  rw [h1]
  exact (Nat.pow_lt_pow_iff_right (by omega : 1 < 2)).1 (Nat.lt_of_le_of_lt h2 a3)
theorem shl_nat (a k : Nat) : shlN a (k : Int) = a * 2 ^ k := by unfold shlN; rw [if_neg (by omega)]; rfl
theorem shr_nat (a k : Nat) : shrN a (k : Int) = a / 2 ^ k := by unfold shrN; rw [if_neg (by omega)]; rfl
theorem bl_size {s : ByteArray} {k : Nat} (h : s.size ≤ k) : bl (num s) ≤ 8 * k := bl_le (by rw [Nat.pow_mul]; exact lt_size h)
theorem pow_lt_256 {k m : Nat} (h : k < 8 * m) : 2 ^ k < 256 ^ m := by rw [pow256]; exact Nat.pow_lt_pow_right (by omega) h
theorem num_one : num ⟨#[1]⟩ = 1 := by kernel_rfl

set_option maxRecDepth 100000 in
set_option maxHeartbeats 8000000 in
theorem bits_any (w : World) (a b : ByteArray) (n : Int) : Calls Tryd.prog 11 #[.string a, .string b, .int .i64 n] w (Ret (.bool true) w) := by
  have hb := Below.refl w.heap.size w
  go_enter Tryd.func11, Tryd.ntmps11
  by_cases ha3 : 300 < a.size
  · go_wp2_with fail
    refine (awake_any _).mono ?_
    rintro e W ⟨rfl, hq⟩
    replace hb := below_next hb hq; clear hq
    go_wp2
    go_ret
    exact ⟨rfl, hb⟩
  by_cases hb3 : 300 < b.size
  · go_wp2_with fail
    refine (awake_any _).mono ?_
    rintro e W ⟨rfl, hq⟩
    replace hb := below_next hb hq; clear hq
    go_wp2
    go_ret
    exact ⟨rfl, hb⟩
  · obtain ⟨k, hk, hkn⟩ := and2047 n
    have hA := lt_size (k := 300) (s := a) (by omega)
    have hB := lt_size (k := 300) (s := b) (by omega)
    have hkp := pow_lt_256 (k := k) (m := 256) (by omega)
    obtain ⟨x, hx⟩ : ∃ x : Nat, bl (num a) = x := ⟨_, rfl⟩
    obtain ⟨y, hy⟩ : ∃ y : Nat, bl (num b) = y := ⟨_, rfl⟩
    obtain ⟨z, hz⟩ : ∃ z : Nat, tz (num a) = z := ⟨_, rfl⟩
    have hx3 : x ≤ 2400 := by rw [← hx]; exact bl_size (k := 300) (by omega)
    have hy3 : y ≤ 2400 := by rw [← hy]; exact bl_size (k := 300) (by omega)
    obtain ⟨U, eU, nU, sU⟩ := nm (lt_mul hA hkp)
    obtain ⟨T, eT, nT, sT⟩ := nm hA
    obtain ⟨V, eV, nV, sV⟩ := nm hkp
    have q1 : ((bl (num a) : Nat) : Int) = (x : Int) := by rw [hx]
    have q2 : ((bl (num b) : Nat) : Int) = (y : Int) := by rw [hy]
    have q3 : fb (shlN (num a) k) = U := by rw [shl_nat, eU]
    have q4 : fb (shrN (num U) k) = T := by rw [shr_nat, nU, Nat.mul_div_cancel _ (Nat.two_pow_pos _), eT]
    have q5 : fb (shlN (num ⟨#[1]⟩) k) = V := by rw [shl_nat, num_one, Nat.one_mul, eV]
    have q6 : fb (num a * num V) = U := by rw [nV, eU]
    have q7 : ((tz (num a) : Nat) : Int) = (z : Int) := by rw [hz]
    have HQ := Lib.hid (And.intro q1 (And.intro q2 (And.intro q3 (And.intro q4 (And.intro q5 (And.intro q6 (And.intro q7 eT)))))))
    clear q1 q2 q3 q4 q5 q6 q7 eT nT nV eV
    by_cases ha0 : num a = 0
    · have hx0 : x = 0 := by rw [← hx, ha0]; rfl
      have hU0 : U = ⟨#[]⟩ := by rw [← eU, ha0, Nat.zero_mul, fb_zero]
      subst hx0
      subst hU0
      clear hA hB hkp hx hy hz ha0 eU nU
      go_wp2_with fail
      refine (use_len _ a _ (by omega) HQ.out.1).mono ?_
      rintro e W ⟨rfl, hq⟩
      replace hb := below_next hb hq; clear hq
      go_wp2_with fail
      refine (use_len _ b _ (by omega) HQ.out.2.1).mono ?_
      rintro e W ⟨rfl, hq⟩
      replace hb := below_next hb hq; clear hq
      go_wp2_with fail
      refine (use_shl _ a _ k (by omega) (by omega) HQ.out.2.2.1).mono ?_
      rintro e W ⟨rfl, hq⟩
      replace hb := below_next hb hq; clear hq
      go_wp2_with fail
      refine (use_shr _ _ T k (by omega) (by omega) HQ.out.2.2.2.1).mono ?_
      rintro e W ⟨rfl, hq⟩
      replace hb := below_next hb hq; clear hq
      go_wp2_with fail
      refine (use_trim _ a T (by omega) HQ.out.2.2.2.2.2.2.2).mono ?_
      rintro e W ⟨rfl, hq⟩
      replace hb := below_next hb hq; clear hq
      go_wp2_with fail
      refine (use_shl _ ⟨#[1]⟩ V k (by decide) (by omega) HQ.out.2.2.2.2.1).mono ?_
      rintro e W ⟨rfl, hq⟩
      replace hb := below_next hb hq; clear hq
      go_wp2_with fail
      refine (use_mul _ a V _ (by omega) (by omega) HQ.out.2.2.2.2.2.1).mono ?_
      rintro e W ⟨rfl, hq⟩
      replace hb := below_next hb hq; clear hq
      go_wp2_with fail
      refine (awake_any _).mono ?_
      rintro e W ⟨rfl, hq⟩
      replace hb := below_next hb hq; clear hq
      go_wp2
      go_ret
      exact ⟨rfl, hb⟩
    · have hap : 0 < num a := Nat.pos_of_ne_zero ha0
      have hz3 : z < x := by rw [← hz, ← hx]; exact tz_lt hap
      have hx0 : 0 < x := by omega
      have q8 : ((bl (num U) : Nat) : Int) = ((x + k : Nat) : Int) := by rw [nU, bl_shl hap, hx]
      have q9 : ((tz (num U) : Nat) : Int) = ((z + k : Nat) : Int) := by rw [nU, tz_mul_pow hap, hz]
      have HR := Lib.hid (And.intro q8 q9); clear q8 q9
      by_cases hb0 : num b = 0
      · have hy0 : y = 0 := by rw [← hy, hb0]; rfl
        have q10 : cmpN (num a) (num b) = 1 := by unfold cmpN; rw [hb0, if_neg (by omega), if_pos hap]
        have HC := Lib.hid q10; clear q10
        subst hy0
        clear hA hB hkp hx hy hz ha0 eU nU hb0 hap
        go_wp2_with fail
        refine (use_len _ a _ (by omega) HQ.out.1).mono ?_
        rintro e W ⟨rfl, hq⟩
        replace hb := below_next hb hq; clear hq
        go_wp2_with fail
        refine (use_len _ b _ (by omega) HQ.out.2.1).mono ?_
        rintro e W ⟨rfl, hq⟩
        replace hb := below_next hb hq; clear hq
        go_wp2_with fail
        refine (use_shl _ a _ k (by omega) (by omega) HQ.out.2.2.1).mono ?_
        rintro e W ⟨rfl, hq⟩
        replace hb := below_next hb hq; clear hq
        go_wp2_with fail
        refine (use_len _ U _ (by omega) HR.out.1).mono ?_
        rintro e W ⟨rfl, hq⟩
        replace hb := below_next hb hq; clear hq
        go_wp2_with fail
        refine (use_zeros _ U _ (by omega) HR.out.2).mono ?_
        rintro e W ⟨rfl, hq⟩
        replace hb := below_next hb hq; clear hq
        go_wp2_with fail
        refine (use_zeros _ a _ (by omega) HQ.out.2.2.2.2.2.2.1).mono ?_
        rintro e W ⟨rfl, hq⟩
        replace hb := below_next hb hq; clear hq
        go_wp2_with fail
        refine (use_cmp _ a b 1 HC.out).mono ?_
        rintro e W ⟨rfl, hq⟩
        replace hb := below_next hb hq; clear hq
        go_wp2_with fail
        refine (use_shr _ _ T k (by omega) (by omega) HQ.out.2.2.2.1).mono ?_
        rintro e W ⟨rfl, hq⟩
        replace hb := below_next hb hq; clear hq
        go_wp2_with fail
        refine (use_trim _ a T (by omega) HQ.out.2.2.2.2.2.2.2).mono ?_
        rintro e W ⟨rfl, hq⟩
        replace hb := below_next hb hq; clear hq
        go_wp2_with fail
        refine (use_shl _ ⟨#[1]⟩ V k (by decide) (by omega) HQ.out.2.2.2.2.1).mono ?_
        rintro e W ⟨rfl, hq⟩
        replace hb := below_next hb hq; clear hq
        go_wp2_with fail
        refine (use_mul _ a V _ (by omega) (by omega) HQ.out.2.2.2.2.2.1).mono ?_
        rintro e W ⟨rfl, hq⟩
        replace hb := below_next hb hq; clear hq
        go_wp2_with fail
        refine (awake_any _).mono ?_
        rintro e W ⟨rfl, hq⟩
        replace hb := below_next hb hq; clear hq
        go_wp2
        go_ret
        exact ⟨rfl, hb⟩
      · have hbp : 0 < num b := Nat.pos_of_ne_zero hb0
        have hy0 : 0 < y := by rw [← hy]; exact (bl_bounds hbp).1
        obtain ⟨P, eP, nP, sP⟩ := nm (lt_mul hA hB)
        have hbm := bl_mul hap hbp
        rw [hx, hy] at hbm
        have HP := Lib.hid eP; clear eP
        rcases hbm with hbm | hbm
        · have HB : Hid (((bl (num P) : Nat) : Int) = ((x + y : Nat) : Int)) := by rw [nP, hbm]; exact rfl
          by_cases hxy : y < x
          · have q10 : cmpN (num a) (num b) = 1 := by
              have := bl_gt (show bl (num b) < bl (num a) by rw [hx, hy]; exact hxy)
              unfold cmpN; rw [if_neg (by omega), if_pos this]
            have HC := Lib.hid q10; clear q10
            clear hA hB hkp hx hy hz ha0 eU nU hb0 hap hbp hbm nP
            go_wp2_with fail
            refine (use_len _ a _ (by omega) HQ.out.1).mono ?_
            rintro e W ⟨rfl, hq⟩
            replace hb := below_next hb hq; clear hq
            go_wp2_with fail
            refine (use_len _ b _ (by omega) HQ.out.2.1).mono ?_
            rintro e W ⟨rfl, hq⟩
            replace hb := below_next hb hq; clear hq
            go_wp2_with fail
            refine (use_shl _ a _ k (by omega) (by omega) HQ.out.2.2.1).mono ?_
            rintro e W ⟨rfl, hq⟩
            replace hb := below_next hb hq; clear hq
            go_wp2_with fail
            refine (use_mul _ a b P (by omega) (by omega) HP.out).mono ?_
            rintro e W ⟨rfl, hq⟩
            replace hb := below_next hb hq; clear hq
            go_wp2_with fail
            refine (use_len _ P _ (by omega) HB.out).mono ?_
            rintro e W ⟨rfl, hq⟩
            replace hb := below_next hb hq; clear hq
            go_wp2_with fail
            refine (use_len _ U _ (by omega) HR.out.1).mono ?_
            rintro e W ⟨rfl, hq⟩
            replace hb := below_next hb hq; clear hq
            go_wp2_with fail
            refine (use_zeros _ U _ (by omega) HR.out.2).mono ?_
            rintro e W ⟨rfl, hq⟩
            replace hb := below_next hb hq; clear hq
            go_wp2_with fail
            refine (use_zeros _ a _ (by omega) HQ.out.2.2.2.2.2.2.1).mono ?_
            rintro e W ⟨rfl, hq⟩
            replace hb := below_next hb hq; clear hq
            go_wp2_with fail
            refine (use_cmp _ a b 1 HC.out).mono ?_
            rintro e W ⟨rfl, hq⟩
            replace hb := below_next hb hq; clear hq
            go_wp2_with fail
            refine (use_shr _ _ T k (by omega) (by omega) HQ.out.2.2.2.1).mono ?_
            rintro e W ⟨rfl, hq⟩
            replace hb := below_next hb hq; clear hq
            go_wp2_with fail
            refine (use_trim _ a T (by omega) HQ.out.2.2.2.2.2.2.2).mono ?_
            rintro e W ⟨rfl, hq⟩
            replace hb := below_next hb hq; clear hq
            go_wp2_with fail
            refine (use_shl _ ⟨#[1]⟩ V k (by decide) (by omega) HQ.out.2.2.2.2.1).mono ?_
            rintro e W ⟨rfl, hq⟩
            replace hb := below_next hb hq; clear hq
            go_wp2_with fail
            refine (use_mul _ a V _ (by omega) (by omega) HQ.out.2.2.2.2.2.1).mono ?_
            rintro e W ⟨rfl, hq⟩
            replace hb := below_next hb hq; clear hq
            go_wp2_with fail
            refine (awake_any _).mono ?_
            rintro e W ⟨rfl, hq⟩
            replace hb := below_next hb hq; clear hq
            go_wp2
            go_ret
            exact ⟨rfl, hb⟩
          · clear hA hB hkp hx hy hz ha0 eU nU hb0 hap hbp hbm nP
            go_wp2_with fail
            refine (use_len _ a _ (by omega) HQ.out.1).mono ?_
            rintro e W ⟨rfl, hq⟩
            replace hb := below_next hb hq; clear hq
            go_wp2_with fail
            refine (use_len _ b _ (by omega) HQ.out.2.1).mono ?_
            rintro e W ⟨rfl, hq⟩
            replace hb := below_next hb hq; clear hq
            go_wp2_with fail
            refine (use_shl _ a _ k (by omega) (by omega) HQ.out.2.2.1).mono ?_
            rintro e W ⟨rfl, hq⟩
            replace hb := below_next hb hq; clear hq
            go_wp2_with fail
            refine (use_mul _ a b P (by omega) (by omega) HP.out).mono ?_
            rintro e W ⟨rfl, hq⟩
            replace hb := below_next hb hq; clear hq
            go_wp2_with fail
            refine (use_len _ P _ (by omega) HB.out).mono ?_
            rintro e W ⟨rfl, hq⟩
            replace hb := below_next hb hq; clear hq
            go_wp2_with fail
            refine (use_len _ U _ (by omega) HR.out.1).mono ?_
            rintro e W ⟨rfl, hq⟩
            replace hb := below_next hb hq; clear hq
            go_wp2_with fail
            refine (use_zeros _ U _ (by omega) HR.out.2).mono ?_
            rintro e W ⟨rfl, hq⟩
            replace hb := below_next hb hq; clear hq
            go_wp2_with fail
            refine (use_zeros _ a _ (by omega) HQ.out.2.2.2.2.2.2.1).mono ?_
            rintro e W ⟨rfl, hq⟩
            replace hb := below_next hb hq; clear hq
            go_wp2_with fail
            refine (use_shr _ _ T k (by omega) (by omega) HQ.out.2.2.2.1).mono ?_
            rintro e W ⟨rfl, hq⟩
            replace hb := below_next hb hq; clear hq
            go_wp2_with fail
            refine (use_trim _ a T (by omega) HQ.out.2.2.2.2.2.2.2).mono ?_
            rintro e W ⟨rfl, hq⟩
            replace hb := below_next hb hq; clear hq
            go_wp2_with fail
            refine (use_shl _ ⟨#[1]⟩ V k (by decide) (by omega) HQ.out.2.2.2.2.1).mono ?_
            rintro e W ⟨rfl, hq⟩
            replace hb := below_next hb hq; clear hq
            go_wp2_with fail
            refine (use_mul _ a V _ (by omega) (by omega) HQ.out.2.2.2.2.2.1).mono ?_
            rintro e W ⟨rfl, hq⟩
            replace hb := below_next hb hq; clear hq
            go_wp2_with fail
            refine (awake_any _).mono ?_
            rintro e W ⟨rfl, hq⟩
            replace hb := below_next hb hq; clear hq
            go_wp2
            go_ret
            exact ⟨rfl, hb⟩
        · have HB : Hid (((bl (num P) : Nat) : Int) = ((x + y - 1 : Nat) : Int)) := by rw [nP, hbm]; exact rfl
          have cN : ((x + y - 1 : Nat) : Int) = (x : Int) + (y : Int) - 1 := by omega
          rw [cN] at HB
          by_cases hxy : y < x
          · have q10 : cmpN (num a) (num b) = 1 := by
              have := bl_gt (show bl (num b) < bl (num a) by rw [hx, hy]; exact hxy)
              unfold cmpN; rw [if_neg (by omega), if_pos this]
            have HC := Lib.hid q10; clear q10
            clear hA hB hkp hx hy hz ha0 eU nU hb0 hap hbp hbm nP
            go_wp2_with fail
            refine (use_len _ a _ (by omega) HQ.out.1).mono ?_
            rintro e W ⟨rfl, hq⟩
            replace hb := below_next hb hq; clear hq
            go_wp2_with fail
            refine (use_len _ b _ (by omega) HQ.out.2.1).mono ?_
            rintro e W ⟨rfl, hq⟩
            replace hb := below_next hb hq; clear hq
            go_wp2_with fail
            refine (use_shl _ a _ k (by omega) (by omega) HQ.out.2.2.1).mono ?_
            rintro e W ⟨rfl, hq⟩
            replace hb := below_next hb hq; clear hq
            go_wp2_with fail
            refine (use_mul _ a b P (by omega) (by omega) HP.out).mono ?_
            rintro e W ⟨rfl, hq⟩
            replace hb := below_next hb hq; clear hq
            go_wp2_with fail
            refine (use_len _ P _ (by omega) HB.out).mono ?_
            rintro e W ⟨rfl, hq⟩
            replace hb := below_next hb hq; clear hq
            go_wp2_with fail
            refine (use_len _ U _ (by omega) HR.out.1).mono ?_
            rintro e W ⟨rfl, hq⟩
            replace hb := below_next hb hq; clear hq
            go_wp2_with fail
            refine (use_zeros _ U _ (by omega) HR.out.2).mono ?_
            rintro e W ⟨rfl, hq⟩
            replace hb := below_next hb hq; clear hq
            go_wp2_with fail
            refine (use_zeros _ a _ (by omega) HQ.out.2.2.2.2.2.2.1).mono ?_
            rintro e W ⟨rfl, hq⟩
            replace hb := below_next hb hq; clear hq
            go_wp2_with fail
            refine (use_cmp _ a b 1 HC.out).mono ?_
            rintro e W ⟨rfl, hq⟩
            replace hb := below_next hb hq; clear hq
            go_wp2_with fail
            refine (use_shr _ _ T k (by omega) (by omega) HQ.out.2.2.2.1).mono ?_
            rintro e W ⟨rfl, hq⟩
            replace hb := below_next hb hq; clear hq
            go_wp2_with fail
            refine (use_trim _ a T (by omega) HQ.out.2.2.2.2.2.2.2).mono ?_
            rintro e W ⟨rfl, hq⟩
            replace hb := below_next hb hq; clear hq
            go_wp2_with fail
            refine (use_shl _ ⟨#[1]⟩ V k (by decide) (by omega) HQ.out.2.2.2.2.1).mono ?_
            rintro e W ⟨rfl, hq⟩
            replace hb := below_next hb hq; clear hq
            go_wp2_with fail
            refine (use_mul _ a V _ (by omega) (by omega) HQ.out.2.2.2.2.2.1).mono ?_
            rintro e W ⟨rfl, hq⟩
            replace hb := below_next hb hq; clear hq
            go_wp2_with fail
            refine (awake_any _).mono ?_
            rintro e W ⟨rfl, hq⟩
            replace hb := below_next hb hq; clear hq
            go_wp2
            go_ret
            exact ⟨rfl, hb⟩
          · clear hA hB hkp hx hy hz ha0 eU nU hb0 hap hbp hbm nP
            go_wp2_with fail
            refine (use_len _ a _ (by omega) HQ.out.1).mono ?_
            rintro e W ⟨rfl, hq⟩
            replace hb := below_next hb hq; clear hq
            go_wp2_with fail
            refine (use_len _ b _ (by omega) HQ.out.2.1).mono ?_
            rintro e W ⟨rfl, hq⟩
            replace hb := below_next hb hq; clear hq
            go_wp2_with fail
            refine (use_shl _ a _ k (by omega) (by omega) HQ.out.2.2.1).mono ?_
            rintro e W ⟨rfl, hq⟩
            replace hb := below_next hb hq; clear hq
            go_wp2_with fail
            refine (use_mul _ a b P (by omega) (by omega) HP.out).mono ?_
            rintro e W ⟨rfl, hq⟩
            replace hb := below_next hb hq; clear hq
            go_wp2_with fail
            refine (use_len _ P _ (by omega) HB.out).mono ?_
            rintro e W ⟨rfl, hq⟩
            replace hb := below_next hb hq; clear hq
            go_wp2_with fail
            refine (use_len _ U _ (by omega) HR.out.1).mono ?_
            rintro e W ⟨rfl, hq⟩
            replace hb := below_next hb hq; clear hq
            go_wp2_with fail
            refine (use_zeros _ U _ (by omega) HR.out.2).mono ?_
            rintro e W ⟨rfl, hq⟩
            replace hb := below_next hb hq; clear hq
            go_wp2_with fail
            refine (use_zeros _ a _ (by omega) HQ.out.2.2.2.2.2.2.1).mono ?_
            rintro e W ⟨rfl, hq⟩
            replace hb := below_next hb hq; clear hq
            go_wp2_with fail
            refine (use_shr _ _ T k (by omega) (by omega) HQ.out.2.2.2.1).mono ?_
            rintro e W ⟨rfl, hq⟩
            replace hb := below_next hb hq; clear hq
            go_wp2_with fail
            refine (use_trim _ a T (by omega) HQ.out.2.2.2.2.2.2.2).mono ?_
            rintro e W ⟨rfl, hq⟩
            replace hb := below_next hb hq; clear hq
            go_wp2_with fail
            refine (use_shl _ ⟨#[1]⟩ V k (by decide) (by omega) HQ.out.2.2.2.2.1).mono ?_
            rintro e W ⟨rfl, hq⟩
            replace hb := below_next hb hq; clear hq
            go_wp2_with fail
            refine (use_mul _ a V _ (by omega) (by omega) HQ.out.2.2.2.2.2.1).mono ?_
            rintro e W ⟨rfl, hq⟩
            replace hb := below_next hb hq; clear hq
            go_wp2_with fail
            refine (awake_any _).mono ?_
            rintro e W ⟨rfl, hq⟩
            replace hb := below_next hb hq; clear hq
            go_wp2
            go_ret
            exact ⟨rfl, hb⟩
end Go.Proofs.YtlchpmngglpbdaaDoor
