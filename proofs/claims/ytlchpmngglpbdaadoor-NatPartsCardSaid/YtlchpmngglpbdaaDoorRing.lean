/- The law of sums and products: it answers true for all. -/
import Derived.Test.YtlchpmngglpbdaaDoorUse
namespace Go.Proofs.YtlchpmngglpbdaaDoor
open Go.RowKit Go.Shelf

theorem lt_add {x y m : Nat} (hx : x < 256 ^ m) (hy : y < 256 ^ m) : x + y < 256 ^ (m + 1) := by
  rw [Nat.pow_succ]
  generalize 256 ^ m = P at *
  omega
theorem lt_add3 {x y z m : Nat} (hx : x < 256 ^ m) (hy : y < 256 ^ m) (hz : z < 256 ^ m) : x + y + z < 256 ^ (m + 1) := by
  rw [Nat.pow_succ]
  generalize 256 ^ m = P at *
  omega
theorem lt_mul {x y m n : Nat} (hx : x < 256 ^ m) (hy : y < 256 ^ n) : x * y < 256 ^ (m + n) := by
  rw [Nat.pow_add]
  exact Nat.mul_lt_mul'' hx hy
theorem lt_size {s : ByteArray} {k : Nat} (h : s.size ≤ k) : num s < 256 ^ k := Nat.lt_of_lt_of_le (num_lt s) (Nat.pow_le_pow_right (by omega) h)
theorem lt_more {x m n : Nat} (h : x < 256 ^ m) (hn : m ≤ n) : x < 256 ^ n := Nat.lt_of_lt_of_le h (Nat.pow_le_pow_right (by omega) hn)
/-- A number's text, by a name. -/
theorem nm {n k : Nat} (h : n < 256 ^ k) : ∃ S : ByteArray, fb n = S ∧ num S = n ∧ S.size ≤ k := ⟨fb n, rfl, num_fb n, fb_size_le h⟩

set_option maxRecDepth 100000 in
set_option maxHeartbeats 4000000 in
theorem ring_any (w : World) (a b c : ByteArray) : Calls Tryd.prog 9 #[.string a, .string b, .string c] w (Ret (.bool true) w) := by
  have hb := Below.refl w.heap.size w
  go_enter Tryd.func9, Tryd.ntmps9
  by_cases ha3 : 300 < a.size
  · go_wp2_with fail
    refine (awake_any _).mono ?_
    rintro e W ⟨rfl, hq⟩
    replace hb := below_next hb hq; clear hq
    go_wp2
    go_ret
    exact ⟨rfl, hb⟩
  by_cases hb3 : 300 < b.size
  · go_wp2_with fail
    refine (awake_any _).mono ?_
    rintro e W ⟨rfl, hq⟩
    replace hb := below_next hb hq; clear hq
    go_wp2
    go_ret
    exact ⟨rfl, hb⟩
  by_cases hc3 : 300 < c.size
  · go_wp2_with fail
    refine (awake_any _).mono ?_
    rintro e W ⟨rfl, hq⟩
    replace hb := below_next hb hq; clear hq
    go_wp2
    go_ret
    exact ⟨rfl, hb⟩
  · have hA := lt_size (k := 300) (s := a) (by omega)
    have hB := lt_size (k := 300) (s := b) (by omega)
    have hC := lt_size (k := 300) (s := c) (by omega)
    obtain ⟨S, eS, nS, sS⟩ := nm (lt_add hA hB)
    obtain ⟨P, eP, nP, sP⟩ := nm (lt_mul hA hB)
    obtain ⟨T, eT, nT, sT⟩ := nm hA
    obtain ⟨X, eX, nX, sX⟩ := nm (lt_add3 hA hB hC)
    obtain ⟨Y, eY, nY, sY⟩ := nm (lt_add hB hC)
    obtain ⟨Z, eZ, nZ, sZ⟩ := nm (lt_mul (lt_mul hA hB) hC)
    obtain ⟨V, eV, nV, sV⟩ := nm (lt_mul hB hC)
    obtain ⟨U, eU, nU, sU⟩ := nm (lt_mul (lt_add hA hB) hC)
    obtain ⟨D, eD, nD, sD⟩ := nm (lt_mul hA hC)
    have q3 : fb (num S - num b) = T := by rw [nS, ← eT]; congr 1; omega
    have q3' : decide (num b ≤ num S) = true := by rw [nS]; simp
    have q4 : fb (num b + num a) = S := by rw [← eS, Nat.add_comm]
    have q5 : fb (num b * num a) = P := by rw [← eP, Nat.mul_comm]
    have q6 : fb (num S + num c) = X := by rw [nS, eX]
    have q8 : fb (num a + num Y) = X := by rw [nY, ← eX, Nat.add_assoc]
    have q9 : fb (num P * num c) = Z := by rw [nP, eZ]
    have q11 : fb (num a * num V) = Z := by rw [nV, ← eZ, Nat.mul_assoc]
    have q12 : fb (num S * num c) = U := by rw [nS, eU]
    have q15 : fb (num D + num V) = U := by rw [nD, nV, ← eU, Nat.add_mul]
    have q17 : fb (num S) = S := by rw [nS, eS]
    have q18 : fb (num P) = P := by rw [nP, eP]
    have q19 : fb (num a * num ⟨#[1]⟩) = T := by rw [show num ⟨#[1]⟩ = 1 from by kernel_rfl, Nat.mul_one, eT]
    have q21 : fb (num a * num ⟨#[]⟩) = ⟨#[]⟩ := by rw [show num ⟨#[]⟩ = 0 from by kernel_rfl, Nat.mul_zero]; kernel_rfl
    clear hA hB hC nS nP nT nX nY nZ nV nU nD
    have HE := Lib.hid (And.intro eS (And.intro eP (And.intro eT (And.intro eY (And.intro eV eD))))); clear eS eP eT eX eY eZ eV eU eD
    have HQ := Lib.hid (And.intro q3 (And.intro q3' (And.intro q4 (And.intro q5 (And.intro q6 (And.intro q8 (And.intro q9 q11)))))))
    clear q3 q3' q4 q5 q6 q8 q9 q11
    have HR := Lib.hid (And.intro q12 (And.intro q15 (And.intro q17 (And.intro q18 (And.intro q19 q21)))))
    clear q12 q15 q17 q18 q19 q21
    go_wp2_with fail
    refine (use_add _ a b S (by omega) (by omega) HE.out.1).mono ?_
    rintro e W ⟨rfl, hq⟩
    replace hb := below_next hb hq; clear hq
    go_wp2_with fail
    refine (use_mul _ a b P (by omega) (by omega) HE.out.2.1).mono ?_
    rintro e W ⟨rfl, hq⟩
    replace hb := below_next hb hq; clear hq
    go_wp2_with fail
    refine (use_sub _ S b T true (by omega) (by omega) HQ.out.1 HQ.out.2.1).mono ?_
    rintro e W ⟨rfl, hq⟩
    replace hb := below_next hb hq; clear hq
    go_wp2_with fail
    refine (use_add _ b a S (by omega) (by omega) HQ.out.2.2.1).mono ?_
    rintro e W ⟨rfl, hq⟩
    replace hb := below_next hb hq; clear hq
    go_wp2_with fail
    refine (use_mul _ b a P (by omega) (by omega) HQ.out.2.2.2.1).mono ?_
    rintro e W ⟨rfl, hq⟩
    replace hb := below_next hb hq; clear hq
    go_wp2_with fail
    refine (use_add _ S c X (by omega) (by omega) HQ.out.2.2.2.2.1).mono ?_
    rintro e W ⟨rfl, hq⟩
    replace hb := below_next hb hq; clear hq
    go_wp2_with fail
    refine (use_add _ b c Y (by omega) (by omega) HE.out.2.2.2.1).mono ?_
    rintro e W ⟨rfl, hq⟩
    replace hb := below_next hb hq; clear hq
    go_wp2_with fail
    refine (use_add _ a Y X (by omega) (by omega) HQ.out.2.2.2.2.2.1).mono ?_
    rintro e W ⟨rfl, hq⟩
    replace hb := below_next hb hq; clear hq
    go_wp2_with fail
    refine (use_mul _ P c Z (by omega) (by omega) HQ.out.2.2.2.2.2.2.1).mono ?_
    rintro e W ⟨rfl, hq⟩
    replace hb := below_next hb hq; clear hq
    go_wp2_with fail
    refine (use_mul _ b c V (by omega) (by omega) HE.out.2.2.2.2.1).mono ?_
    rintro e W ⟨rfl, hq⟩
    replace hb := below_next hb hq; clear hq
    go_wp2_with fail
    refine (use_mul _ a V Z (by omega) (by omega) HQ.out.2.2.2.2.2.2.2).mono ?_
    rintro e W ⟨rfl, hq⟩
    replace hb := below_next hb hq; clear hq
    go_wp2_with fail
    refine (use_mul _ S c U (by omega) (by omega) HR.out.1).mono ?_
    rintro e W ⟨rfl, hq⟩
    replace hb := below_next hb hq; clear hq
    go_wp2_with fail
    refine (use_mul _ a c D (by omega) (by omega) HE.out.2.2.2.2.2).mono ?_
    rintro e W ⟨rfl, hq⟩
    replace hb := below_next hb hq; clear hq
    go_wp2_with fail
    refine (use_mul _ b c V (by omega) (by omega) HE.out.2.2.2.2.1).mono ?_
    rintro e W ⟨rfl, hq⟩
    replace hb := below_next hb hq; clear hq
    go_wp2_with fail
    refine (use_add _ D V U (by omega) (by omega) HR.out.2.1).mono ?_
    rintro e W ⟨rfl, hq⟩
    replace hb := below_next hb hq; clear hq
    go_wp2_with fail
    refine (use_trim _ a T (by omega) HE.out.2.2.1).mono ?_
    rintro e W ⟨rfl, hq⟩
    replace hb := below_next hb hq; clear hq
    go_wp2_with fail
    refine (use_trim _ S S (by omega) HR.out.2.2.1).mono ?_
    rintro e W ⟨rfl, hq⟩
    replace hb := below_next hb hq; clear hq
    go_wp2_with fail
    refine (use_trim _ P P (by omega) HR.out.2.2.2.1).mono ?_
    rintro e W ⟨rfl, hq⟩
    replace hb := below_next hb hq; clear hq
    go_wp2_with fail
    refine (use_mul _ a ⟨#[1]⟩ T (by omega) (by decide) HR.out.2.2.2.2.1).mono ?_
    rintro e W ⟨rfl, hq⟩
    replace hb := below_next hb hq; clear hq
    go_wp2_with fail
    refine (use_trim _ a T (by omega) HE.out.2.2.1).mono ?_
    rintro e W ⟨rfl, hq⟩
    replace hb := below_next hb hq; clear hq
    go_wp2_with fail
    refine (use_mul _ a ⟨#[]⟩ ⟨#[]⟩ (by omega) (by decide) HR.out.2.2.2.2.2).mono ?_
    rintro e W ⟨rfl, hq⟩
    replace hb := below_next hb hq; clear hq
    go_wp2_with fail
    refine (awake_any _).mono ?_
    rintro e W ⟨rfl, hq⟩
    replace hb := below_next hb hq; clear hq
    go_wp2
    go_ret
    exact ⟨rfl, hb⟩
end Go.Proofs.YtlchpmngglpbdaaDoor
