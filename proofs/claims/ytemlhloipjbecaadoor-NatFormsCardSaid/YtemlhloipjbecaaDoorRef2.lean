/- The document's answer's comparison, walked. -/
import Derived.Test.YtemlhloipjbecaaDoorRef1
namespace Go.Proofs.YtemlhloipjbecaaDoor
open Go.RowKit Go.Shelf

/-- Above i the bits of both are the same. -/
theorem less_at {xs ys : List Nat} (hx : Bit xs) {i : Nat} (he : val2 (xs.drop (i + 1)) = val2 (ys.drop (i + 1))) (h : xs.getD i 0 < ys.getD i 0) : val2 xs < val2 ys := by
  have h1 := val2_parts xs i
  have h2 := val2_parts ys i
  have h3 := val2_take_lt hx i
  rw [val2_drop] at h1 h2
  rw [he] at h1
  have h4 : 2 ^ i * (xs.getD i 0 + 2 * val2 (ys.drop (i + 1))) + 2 ^ i ≤ 2 ^ i * (ys.getD i 0 + 2 * val2 (ys.drop (i + 1))) := by
    have : 2 ^ i * (xs.getD i 0 + 2 * val2 (ys.drop (i + 1)) + 1) ≤ 2 ^ i * (ys.getD i 0 + 2 * val2 (ys.drop (i + 1))) := Nat.mul_le_mul_left _ (by omega)
    rw [Nat.mul_succ] at this
    exact this
  omega
def intC1 : Value → Nat | .int _ n => (n + 1).toNat | _ => 0
theorem max_nat (a b : Nat) : max (a : Int) (b : Int) = ((max a b : Nat) : Int) := by omega

set_option maxRecDepth 100000 in
set_option maxHeartbeats 800000 in
theorem compare_any (w : World) (xd yd : Option Addr) (xc yc xn yn : Nat) (xs ys : List Nat) (hx : Bw w xd xc xs) (hy : Bw w yd yc ys) (hxn : xs.length = xn) (hyn : ys.length = yn) (hbx : Bit xs) (hby : Bit ys) (hmx : xn ≤ 100000000) (hmy : yn ≤ 100000000) :
    Calls Tryd.prog 50 #[.slice xd xn xc, .slice yd yn yc] w fun e w' => e = .returned (.int .i64 (cmpN (val2 xs) (val2 ys))) ∧ w = w' := by
  have hm := max_nat xn yn
  obtain ⟨m, hmm⟩ : ∃ m, m = max xn yn := ⟨_, rfl⟩
  rw [← hmm] at hm
  have hmle : m ≤ 100000000 := by omega
  have hmx2 : xn ≤ m := by omega
  have hmy2 : yn ≤ m := by omega
  clear hmm
  go_enter Tryd.func50, Tryd.ntmps50
  go_wp2
  go_loopw [5] (fun i wr => ∃ k : Nat, k ≤ m ∧ i = .int .i64 ((k : Int) - 1) ∧ val2 (xs.drop k) = val2 (ys.drop k) ∧ w = wr) (fun i _ => intC1 i)
  case atStart => exact ⟨m, Nat.le_refl _, rfl, by rw [List.drop_eq_nil_of_le (by omega), List.drop_eq_nil_of_le (by omega)], rfl⟩
  case round =>
    clear hm
    obtain ⟨k, hk, rfl, hv, rfl⟩ := hrel
    have HV := Lib.hid hv; clear hv
    by_cases hk0 : k = 0
    · subst hk0
      have hc : cmpN (val2 xs) (val2 ys) = 0 := by
        have := HV.out
        rw [List.drop_zero, List.drop_zero] at this
        unfold cmpN; rw [this, if_neg (by omega), if_neg (by omega)]
      have HC := Lib.hid hc; clear hc
      go_wp2
      go_ret
      exact ⟨ret_int (k := .i64) HC.out.symm, rfl⟩
    · obtain ⟨j, rfl⟩ : ∃ j, k = j + 1 := ⟨k - 1, by omega⟩
      have hj : ((j + 1 : Nat) : Int) - 1 = (j : Int) := by omega
      rw [hj]
      clear hj hk0
      have HX := Lib.hid hxn
      have HY := Lib.hid hyn
      obtain ⟨p, hp⟩ : ∃ p, p = xs.getD j 0 := ⟨_, rfl⟩
      obtain ⟨q, hq⟩ : ∃ q, q = ys.getD j 0 := ⟨_, rfl⟩
      have hp2 : p < 2 := by rw [hp]; exact hbx.getD j
      have hq2 : q < 2 := by rw [hq]; exact hby.getD j
      have HPQ := Lib.hid (And.intro hp hq)
      clear hxn hyn hp hq
      go_wp2_with fail
      refine (bit_at hx HX.out (i := (j : Int)) (k := j) rfl).mono ?_
      rintro e w' ⟨rfl, rfl⟩
      rw [← HPQ.out.1]
      unfold bv
      go_wp2_with fail
      refine (bit_at hy HY.out (i := (j : Int)) (k := j) rfl).mono ?_
      rintro e w' ⟨rfl, rfl⟩
      rw [← HPQ.out.2]
      unfold bv
      by_cases hlt : p < q
      · have hc : cmpN (val2 xs) (val2 ys) = -1 := by
          unfold cmpN
          rw [if_pos (less_at hbx HV.out (by rw [← HPQ.out.1, ← HPQ.out.2]; exact hlt))]
        have HC := Lib.hid hc; clear hc
        go_wp2
        go_ret
        exact ⟨ret_int (k := .i64) HC.out.symm, rfl⟩
      · go_wp2_with fail
        refine (bit_at hx HX.out (i := (j : Int)) (k := j) rfl).mono ?_
        rintro e w' ⟨rfl, rfl⟩
        rw [← HPQ.out.1]
        unfold bv
        go_wp2_with fail
        refine (bit_at hy HY.out (i := (j : Int)) (k := j) rfl).mono ?_
        rintro e w' ⟨rfl, rfl⟩
        rw [← HPQ.out.2]
        unfold bv
        by_cases hgt : q < p
        · have hc : cmpN (val2 xs) (val2 ys) = 1 := by
            have := less_at hby HV.out.symm (by rw [← HPQ.out.1, ← HPQ.out.2]; exact hgt)
            unfold cmpN
            rw [if_neg (by omega), if_pos this]
          have HC := Lib.hid hc; clear hc
          go_wp2
          go_ret
          exact ⟨ret_int (k := .i64) HC.out.symm, rfl⟩
        · have hv2 : val2 (xs.drop j) = val2 (ys.drop j) := by
            rw [val2_drop xs, val2_drop ys, HV.out, ← HPQ.out.1, ← HPQ.out.2]; omega
          have HV2 := Lib.hid hv2; clear hv2
          go_wp2
          go_roundw
          case rel => exact ⟨j, by omega, rfl, HV2.out, trivial⟩
          case measure => simp [intC1]
end Go.Proofs.YtemlhloipjbecaaDoor
