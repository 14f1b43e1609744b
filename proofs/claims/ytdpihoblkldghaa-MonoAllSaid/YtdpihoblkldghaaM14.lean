/- The statement MonoAll, walked. -/
import Derived.Test.YtdpihoblkldghaaMCopy
namespace Go.Proofs.Ytdpihoblkldghaa
open Go.RowKit Go.Lib

set_option maxRecDepth 100000 in
set_option maxHeartbeats 3200000 in
theorem all_law (w : World) (ad : Option Addr) (ns : List Int) (n c : Nat) (hl : ns.length = n) (hr : RI w ad ns) (had : ad = none → c = 0) (hnc : n ≤ c) :
    Calls Try.prog 5 #[.slice ad n c] w (Ret (.bool true) w) := by
  have hb0 := Below.refl w.heap.size w
  by_cases h1 : n ≤ 20
  · go_enter Try.func5, Try.ntmps5
    go_wp2
    go_loopw [3, 4] (fun nv iv wr => ∃ N k : Nat, nv = .int .i64 N ∧ iv = .int .i64 k ∧ N ≤ 1000000 ∧ k ≤ n ∧ wr = w) (fun _ iv _ => n - (RowKit.intOf iv).toNat)
    case atStart => exact ⟨1, 0, rfl, rfl, by omega, Nat.zero_le _, rfl⟩
    case round =>
      obtain ⟨N, k, rfl, rfl, hN, hk, rfl⟩ := hrel
      by_cases hkn : k < n
      · obtain ⟨b, off, rfl, hlt, hc⟩ := hr k (by omega)
        obtain ⟨z, hz⟩ : ∃ z, ns[k]'(by omega) = z := ⟨_, rfl⟩
        rw [hz] at hc
        obtain ⟨t, ht⟩ : ∃ t : Nat, min (max z 0) 200 = (t : Int) := ⟨(min (max z 0) 200).toNat, by omega⟩
        have ht2 : t ≤ 200 := by omega
        have hpq : N * (t + 1) ≤ 1000000 * 201 := Nat.mul_le_mul hN (by omega)
        have hcast : (N : Int) * ((t : Int) + 1) = ((N * (t + 1) : Nat) : Int) := by push_cast; rfl
        obtain ⟨P, hP⟩ : ∃ P, N * (t + 1) = P := ⟨_, rfl⟩
        rw [hP] at hcast hpq
        have hw : IntKind.i64.wrap ((N : Int) * ((t : Int) + 1)) = (P : Int) := by rw [hcast, IntKind.wrap_i64]; omega
        obtain ⟨M, hM⟩ : ∃ M : Nat, min (P : Int) 1000000 = (M : Int) := ⟨min P 1000000, by omega⟩
        have hM2 : M ≤ 1000000 := by omega
        clear hP hcast
        by_cases hA : 5000 < P ∧ P ≤ 70000
        · have e1 : decide ((5000 : Int) < (P : Int)) = true := decide_eq_true (by omega)
          have e2 : decide ((P : Int) ≤ 70000) = true := decide_eq_true (by omega)
          go_wp2_with fail
          refine (awake_any _).mono ?_
          rintro e W14 ⟨rfl, hq⟩
          have hb := below_next hb0 hq
          clear hq
          go_wp2
          go_ret
          exact ⟨rfl, hb⟩
        · by_cases hB : 5000 < P
          · have e1 : decide ((5000 : Int) < (P : Int)) = true := decide_eq_true (by omega)
            have e2 : decide ((P : Int) ≤ 70000) = false := decide_eq_false (by omega)
            go_wp2
            go_roundw
            case rel => exact ⟨M, k + 1, rfl, rfl, hM2, by omega, trivial⟩
            case measure => simp [RowKit.intOf]; omega
          · have e1 : decide ((5000 : Int) < (P : Int)) = false := decide_eq_false (by omega)
            go_wp2
            go_roundw
            case rel => exact ⟨M, k + 1, rfl, rfl, hM2, by omega, trivial⟩
            case measure => simp [RowKit.intOf]; omega
      · obtain rfl : n = k := by omega
        obtain ⟨L, hL⟩ : ∃ L, allL ns = L := ⟨_, rfl⟩
        go_wp2_with (first
          | (at_builtin; refine wpList_copy_ints rfl (.tmp 34) (.tmp 35) rfl ad ns n c hl rfl rfl hr had hnc (by omega) ?_))
        intro ad2 c2 W1 hr2 hb1
        replace hr := hr.next hb1
        have hb := below_next hb0 hb1
        clear hb1
        go_wp2_with fail
        refine (all_any _ _ ns n _ hl (by omega) hr2 L hL).mono ?_
        rintro e W2 ⟨a2, d2, rfl, hs2, hq⟩
        replace hb := below_next hb hq
        replace hr := hr.next hq
        replace hr2 := hr2.next hq
        clear hq
        go_wp2_with fail
        refine (rall_any _ _ ns n _ hl (by omega) hr L hL).mono ?_
        rintro e W3 ⟨a3, d3, rfl, hs3, hq⟩
        replace hb := below_next hb hq
        replace hr := hr.next hq
        replace hr2 := hr2.next hq
        replace hs2 := hs2.next hq
        clear hq
        have hLl : L.length ≤ 65536 := by
          rw [← hL]; unfold allL
          split
          · rename_i h
            rw [Bool.and_eq_true, decide_eq_true_eq] at h
            simpa using h.2
          · simp
        go_wp2_with fail
        refine (rsame_same _ _ _ L _ _ _ rfl (by omega) hs2 hs3).mono ?_
        rintro e W4 ⟨rfl, hq⟩
        replace hb := below_next hb hq
        replace hr := hr.next hq
        replace hr2 := hr2.next hq
        clear hq hs2 hs3
        go_wp2_with fail
        refine (rnum_same _ _ _ ns n _ _ hl (by omega) hr2 hr).mono ?_
        rintro e W5 ⟨rfl, hq⟩
        replace hb := below_next hb hq
        clear hq hr hr2
        go_wp2_with fail
        refine (awake_any _).mono ?_
        rintro e W14 ⟨rfl, hq⟩
        replace hb := below_next hb hq
        clear hq
        go_wp2
        go_ret
        exact ⟨rfl, hb⟩
  · go_enter Try.func5, Try.ntmps5
    go_wp2_with fail
    refine (awake_any _).mono ?_
    rintro e W14 ⟨rfl, hq⟩
    have hb := below_next hb0 hq
    clear hq
    go_wp2
    go_ret
    exact ⟨rfl, hb⟩
end Go.Proofs.Ytdpihoblkldghaa
