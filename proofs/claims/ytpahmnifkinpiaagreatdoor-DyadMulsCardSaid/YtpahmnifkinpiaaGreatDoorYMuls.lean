/- DyadMuls: for every input it answers true. -/
import Derived.Test.YtpahmnifkinpiaaGreatDoorYMuls0
import Derived.Test.YtpahmnifkinpiaaGreatDoorYAwake
import Derived.Test.YtpahmnifkinpiaaGreatDoorYFormsL
import Derived.Test.YtpahmnifkinpiaaGreatDoorHL
namespace Go.Proofs.YtpahmnifkinpiaaGreatDoor
open Go.RowKit Go.Shelf

set_option maxRecDepth 100000 in
set_option maxHeartbeats 6400000 in
theorem muls_law (w : World) (ad : Option Addr) (l : List NV) (n c : Nat) (hn : l.length = n) (hc : n ≤ c ∧ (ad = none → c = 0)) (hl : NAt w ad l) (_hm : n ≤ maxLen) (_hw : ∀ x ∈ l, x.2.1.size ≤ maxLen ∧ (Lit.int .i64 x.2.2).wf = true) (k : Int) (hk : (Lit.int .i64 k).wf = true) :
    Calls Tryz.prog 5 #[.slice ad n c, .int .i64 k] w (Ret (.bool true) w) := by
  clear _hw
  have hk' := i64_wf hk
  have hb := Below.refl w.heap.size w
  have HN := Lib.hid hn
  clear hk
  by_cases hn5 : 5 < n
  · have d1 : decide ((5 : Int) < (n : Int)) = true := decide_eq_true (by omega)
    clear hn
    go_enter Tryz.func5, Tryz.ntmps5
    go_wp2_with fail
    refine (yawake_any _).mono ?_
    rintro e1 V ⟨rfl, hq⟩
    replace hb := below_next hb hq
    clear hq
    go_wp2
    go_ret
    exact ⟨rfl, hb⟩
  · have d1 : decide ((5 : Int) < (n : Int)) = false := decide_eq_false (by omega)
    obtain ⟨r, hr⟩ : ∃ r, longD 20 300 l = r := ⟨_, rfl⟩
    have HR := Lib.hid hr
    cases r with
    | true =>
      clear hr hn
      go_enter Tryz.func5, Tryz.ntmps5
      go_wp2_with fail
      refine (longd_any _ 20 300 (by omega) ad l n c HN.out (by omega) hl).mono ?_
      rintro e1 W ⟨rfl, hq⟩
      replace hb := below_next hb hq
      clear hq
      rw [HR.out]
      go_wp2_with fail
      refine (yawake_any _).mono ?_
      rintro e1 V ⟨rfl, hq⟩
      replace hb := below_next hb hq
      clear hq
      go_wp2
      go_ret
      exact ⟨rfl, hb⟩
    | false =>
      have hbd := longd_false hr
      clear hr
      obtain ⟨z1, o1, e1, k1⟩ := df_some (prodD l n)
      have HP := Lib.hid k1
      have HB := Lib.hid (show ∀ x ∈ l, x.2.1.size ≤ 1000 ∧ -1000000 ≤ x.2.2 ∧ x.2.2 ≤ 1000000 from fun x hx => by have := hbd x hx; omega)
      have HX := Lib.hid hbd
      clear hn k1 hbd
      go_enter Tryz.func5, Tryz.ntmps5
      go_wp2_with fail
      refine (longd_any _ 20 300 (by omega) ad l n c HN.out (by omega) hl).mono ?_
      rintro e2 W ⟨rfl, hq⟩
      replace hb := below_next hb hq
      have hl2 := hl.below hq
      clear hq
      rw [HR.out]
      go_wp2_with fail
      refine (ymul_all _ ad l n c HN.out hc.1 (by omega) HB.out hl2 z1 o1 e1 HP.out).mono ?_
      rintro e3 W1 ⟨rfl, hq⟩
      replace hb := below_next hb hq
      replace hl2 := hl2.below hq
      clear hq
      go_wp2_with fail
      refine (rymul_any _ ad l n c HN.out (by omega) HB.out hl2 z1 o1 e1 HP.out).mono ?_
      rintro e4 W2 ⟨rfl, hq⟩
      replace hb := below_next hb hq
      clear hq hl2
      by_cases hn0 : n = 0
      · subst hn0
        go_wp2_with fail
        refine region_segs (n := 28) #[false, false, false, false, false, false, false, false, false, false, false, false, false, false, false, false, false, false, false, false, false, false, false, false, false, false, false, false] (by kernel_rfl) (by kernel_rfl) (by kernel_rfl) ?_
        intro fu hf
        refine lin_seg 28 [0, 1, 2, 3, 4, 5, 6, 7] 7 (fun L ac Wn => ∃ l0 l1 l2 l3 l4 l5 l6 : Bool, L = #[l0, l1, l2, l3, l4, l5, l6, false, false, false, false, false, false, false, false, false, false, false, false, false, false, false, false, false, false, false, false, false] ∧ ac = { tmps := #[.slice ad 0 c, .int .i64 k, undef, undef, .bool false, .slice ad 0 c, .int .i64 0, .bool false, .bool false, .slice ad 0 c, .bool false, .bool false, undef, .slice ad 0 c, .agg #[.bool z1, .string o1, .int .i64 e1], .slice ad 0 c, .agg #[.bool z1, .string o1, .int .i64 e1], .bool false, sel l0 (.slice ad 0 c) (undef), sel l1 (.int .i64 0) (undef), sel l2 (.bool true) (undef), sel l3 (.bool true) (undef), sel l4 (undef) (undef), sel l5 (undef) (undef), sel l6 (.bool true) (undef), undef, undef, undef, undef, undef, undef, undef, undef, undef, undef, undef, undef, undef, undef, undef, undef, undef, undef, undef, undef], defers := [] } ∧ Below (w.heap.size) w Wn) (by kernel_rfl) (by kernel_rfl) (by kernel_rfl) (by kernel_rfl) hf ?_ ?_ ?_ (by kernel_rfl) ?_ (by decide)
        · exact ⟨false, false, false, false, false, false, false, by kernel_rfl, by kernel_rfl, hb.drew⟩
        · rintro L ac Wn ⟨l0, l1, l2, l3, l4, l5, l6, rfl, _⟩
          kernel_rfl
        · refine (seg_all (b := 7) [0, 1, 2, 3, 4, 5, 6] ?_ : ∀ j ∈ [0, 1, 2, 3, 4, 5, 6, 7], j ≠ 7 → _)
          refine lin_cons [] [1, 2, 3, 4, 5, 6] rfl (by kernel_rfl) (by kernel_rfl) ?_ ?_
          · intro L ac Wn hI hi hds hus Kc hK
            obtain ⟨l0, l1, l2, l3, l4, l5, l6, rfl, hI⟩ := hI
            obtain rfl : l0 = false := hi
            obtain ⟨rfl, rfl, rfl, rfl, rfl, rfl, -⟩ : l1 = false ∧ l2 = false ∧ l3 = false ∧ l4 = false ∧ l5 = false ∧ l6 = false ∧ True := hus
            simp only [sel_f] at hI
            obtain ⟨rfl, hb⟩ := hI
            refine lin_yield (.slice ad 0 c) rfl (by go_simp; first | done | with_reducible rfl) ?_
            exact hK.out _ _ ⟨true, false, false, false, false, false, false, by kernel_rfl, by kernel_rfl, hb⟩
          refine lin_cons [0] [2, 3, 4, 5, 6] rfl (by kernel_rfl) (by kernel_rfl) ?_ ?_
          · intro L ac Wn hI hi hds hus Kc hK
            obtain ⟨l0, l1, l2, l3, l4, l5, l6, rfl, hI⟩ := hI
            obtain rfl : l1 = false := hi
            obtain ⟨rfl, -⟩ : l0 = true ∧ True := hds
            obtain ⟨rfl, rfl, rfl, rfl, rfl, -⟩ : l2 = false ∧ l3 = false ∧ l4 = false ∧ l5 = false ∧ l6 = false ∧ True := hus
            simp only [sel_t, sel_f] at hI
            obtain ⟨rfl, hb⟩ := hI
            refine lin_yield (.int .i64 0) rfl (by go_simp; first | done | with_reducible rfl) ?_
            exact hK.out _ _ ⟨true, true, false, false, false, false, false, by kernel_rfl, by kernel_rfl, hb⟩
          refine lin_cons [0, 1] [3, 4, 5, 6] rfl (by kernel_rfl) (by kernel_rfl) ?_ ?_
          · intro L ac Wn hI hi hds hus Kc hK
            obtain ⟨l0, l1, l2, l3, l4, l5, l6, rfl, hI⟩ := hI
            obtain rfl : l2 = false := hi
            obtain ⟨rfl, rfl, -⟩ : l0 = true ∧ l1 = true ∧ True := hds
            obtain ⟨rfl, rfl, rfl, rfl, -⟩ : l3 = false ∧ l4 = false ∧ l5 = false ∧ l6 = false ∧ True := hus
            simp only [sel_t, sel_f] at hI
            obtain ⟨rfl, hb⟩ := hI
            refine lin_yield (.bool true) rfl (by go_simp; first | done | with_reducible rfl) ?_
            exact hK.out _ _ ⟨true, true, true, false, false, false, false, by kernel_rfl, by kernel_rfl, hb⟩
          refine lin_cons [0, 1, 2] [4, 5, 6] rfl (by kernel_rfl) (by kernel_rfl) ?_ ?_
          · intro L ac Wn hI hi hds hus Kc hK
            obtain ⟨l0, l1, l2, l3, l4, l5, l6, rfl, hI⟩ := hI
            obtain rfl : l3 = false := hi
            obtain ⟨rfl, rfl, rfl, -⟩ : l0 = true ∧ l1 = true ∧ l2 = true ∧ True := hds
            obtain ⟨rfl, rfl, rfl, -⟩ : l4 = false ∧ l5 = false ∧ l6 = false ∧ True := hus
            simp only [sel_t, sel_f] at hI
            obtain ⟨rfl, hb⟩ := hI
            refine lin_yield (.bool true) rfl (by go_simp; first | done | with_reducible rfl) ?_
            exact hK.out _ _ ⟨true, true, true, true, false, false, false, by kernel_rfl, by kernel_rfl, hb⟩
          refine lin_cons [0, 1, 2, 3] [5, 6] rfl (by kernel_rfl) (by kernel_rfl) ?_ ?_
          · intro L ac Wn hI hi hds hus Kc hK
            obtain ⟨l0, l1, l2, l3, l4, l5, l6, rfl, hI⟩ := hI
            obtain rfl : l4 = false := hi
            obtain ⟨rfl, rfl, rfl, rfl, -⟩ : l0 = true ∧ l1 = true ∧ l2 = true ∧ l3 = true ∧ True := hds
            obtain ⟨rfl, rfl, -⟩ : l5 = false ∧ l6 = false ∧ True := hus
            simp only [sel_t, sel_f] at hI
            obtain ⟨rfl, hb⟩ := hI
            refine lin_skip rfl ?_
            exact hK.out _ _ ⟨true, true, true, true, true, false, false, by kernel_rfl, by kernel_rfl, hb⟩
          refine lin_cons [0, 1, 2, 3, 4] [6] rfl (by kernel_rfl) (by kernel_rfl) ?_ ?_
          · intro L ac Wn hI hi hds hus Kc hK
            obtain ⟨l0, l1, l2, l3, l4, l5, l6, rfl, hI⟩ := hI
            obtain rfl : l5 = false := hi
            obtain ⟨rfl, rfl, rfl, rfl, rfl, -⟩ : l0 = true ∧ l1 = true ∧ l2 = true ∧ l3 = true ∧ l4 = true ∧ True := hds
            obtain ⟨rfl, -⟩ : l6 = false ∧ True := hus
            simp only [sel_t, sel_f] at hI
            obtain ⟨rfl, hb⟩ := hI
            refine lin_skip rfl ?_
            exact hK.out _ _ ⟨true, true, true, true, true, true, false, by kernel_rfl, by kernel_rfl, hb⟩
          refine lin_cons [0, 1, 2, 3, 4, 5] [] rfl (by kernel_rfl) (by kernel_rfl) ?_ lin_nil
          intro L ac Wn hI hi hds hus Kc hK
          obtain ⟨l0, l1, l2, l3, l4, l5, l6, rfl, hI⟩ := hI
          obtain rfl : l6 = false := hi
          obtain ⟨rfl, rfl, rfl, rfl, rfl, rfl, -⟩ : l0 = true ∧ l1 = true ∧ l2 = true ∧ l3 = true ∧ l4 = true ∧ l5 = true ∧ True := hds
          simp only [sel_t, sel_f] at hI
          obtain ⟨rfl, hb⟩ := hI
          refine lin_yield (.bool true) rfl (by go_simp; first | done | with_reducible rfl) ?_
          exact hK.out _ _ ⟨true, true, true, true, true, true, true, by kernel_rfl, by kernel_rfl, hb⟩
        refine bar_of [0, 1, 2, 3, 4, 5, 6] rfl (by kernel_rfl) ?_
        intro L ac Wn hI hds Kc hK
        obtain ⟨l0, l1, l2, l3, l4, l5, l6, rfl, hI⟩ := hI
        obtain ⟨rfl, rfl, rfl, rfl, rfl, rfl, rfl, -⟩ : l0 = true ∧ l1 = true ∧ l2 = true ∧ l3 = true ∧ l4 = true ∧ l5 = true ∧ l6 = true ∧ True := hds
        simp only [sel_t] at hI
        obtain ⟨rfl, hb⟩ := hI
        refine lin_yield (.bool true) rfl (by go_simp; first | done | with_reducible rfl) ?_
        refine hK.out _ _ (fun fu hf => ?_)
        clear hK Kc
        refine lin_seg 28 [8, 9, 10, 11, 12, 13, 14, 15, 16, 17, 18, 19, 20, 21, 22, 23, 24] 24 (fun L ac Wn => ∃ l8 l9 l10 l11 l12 l13 l14 l15 l16 l17 l18 l19 l20 l21 l22 l23 : Bool, L = #[true, true, true, true, true, true, true, true, l8, l9, l10, l11, l12, l13, l14, l15, l16, l17, l18, l19, l20, l21, l22, l23, false, false, false, false] ∧ ac = { tmps := #[.slice ad 0 c, .int .i64 k, undef, undef, .bool false, .slice ad 0 c, .int .i64 0, .bool false, .bool false, .slice ad 0 c, .bool false, .bool false, undef, .slice ad 0 c, .agg #[.bool z1, .string o1, .int .i64 e1], .slice ad 0 c, .agg #[.bool z1, .string o1, .int .i64 e1], .bool false, .slice ad 0 c, .int .i64 0, .bool true, .bool true, undef, undef, .bool true, .bool true, sel l8 (undef) (undef), sel l9 (undef) (undef), sel l10 (.bool true) (undef), sel l11 (.bool true) (undef), sel l12 (undef) (undef), sel l13 (undef) (undef), sel l14 (undef) (undef), sel l15 (undef) (undef), sel l16 (undef) (undef), sel l17 (undef) (undef), sel l18 (undef) (undef), sel l19 (undef) (undef), sel l20 (undef) (undef), sel l21 (undef) (undef), sel l22 (undef) (undef), sel l23 (.bool true) (undef), undef, undef, undef], defers := [] } ∧ Below (w.heap.size) w Wn) (by kernel_rfl) (by kernel_rfl) (by kernel_rfl) (by kernel_rfl) hf ?_ ?_ ?_ (by kernel_rfl) ?_ (by decide)
        · exact ⟨false, false, false, false, false, false, false, false, false, false, false, false, false, false, false, false, by kernel_rfl, by kernel_rfl, hb⟩
        · rintro L ac Wn ⟨l8, l9, l10, l11, l12, l13, l14, l15, l16, l17, l18, l19, l20, l21, l22, l23, rfl, _⟩
          kernel_rfl
        · refine (seg_all (b := 24) [8, 9, 10, 11, 12, 13, 14, 15, 16, 17, 18, 19, 20, 21, 22, 23] ?_ : ∀ j ∈ [8, 9, 10, 11, 12, 13, 14, 15, 16, 17, 18, 19, 20, 21, 22, 23, 24], j ≠ 24 → _)
          refine lin_cons [] [9, 10, 11, 12, 13, 14, 15, 16, 17, 18, 19, 20, 21, 22, 23] rfl (by kernel_rfl) (by kernel_rfl) ?_ ?_
          · intro L ac Wn hI hi hds hus Kc hK
            obtain ⟨l8, l9, l10, l11, l12, l13, l14, l15, l16, l17, l18, l19, l20, l21, l22, l23, rfl, hI⟩ := hI
            obtain rfl : l8 = false := hi
            obtain ⟨rfl, rfl, rfl, rfl, rfl, rfl, rfl, rfl, rfl, rfl, rfl, rfl, rfl, rfl, rfl, -⟩ : l9 = false ∧ l10 = false ∧ l11 = false ∧ l12 = false ∧ l13 = false ∧ l14 = false ∧ l15 = false ∧ l16 = false ∧ l17 = false ∧ l18 = false ∧ l19 = false ∧ l20 = false ∧ l21 = false ∧ l22 = false ∧ l23 = false ∧ True := hus
            simp only [sel_f] at hI
            obtain ⟨rfl, hb⟩ := hI
            refine lin_skip rfl ?_
            exact hK.out _ _ ⟨true, false, false, false, false, false, false, false, false, false, false, false, false, false, false, false, by kernel_rfl, by kernel_rfl, hb⟩
          refine lin_cons [8] [10, 11, 12, 13, 14, 15, 16, 17, 18, 19, 20, 21, 22, 23] rfl (by kernel_rfl) (by kernel_rfl) ?_ ?_
          · intro L ac Wn hI hi hds hus Kc hK
            obtain ⟨l8, l9, l10, l11, l12, l13, l14, l15, l16, l17, l18, l19, l20, l21, l22, l23, rfl, hI⟩ := hI
            obtain rfl : l9 = false := hi
            obtain ⟨rfl, -⟩ : l8 = true ∧ True := hds
            obtain ⟨rfl, rfl, rfl, rfl, rfl, rfl, rfl, rfl, rfl, rfl, rfl, rfl, rfl, rfl, -⟩ : l10 = false ∧ l11 = false ∧ l12 = false ∧ l13 = false ∧ l14 = false ∧ l15 = false ∧ l16 = false ∧ l17 = false ∧ l18 = false ∧ l19 = false ∧ l20 = false ∧ l21 = false ∧ l22 = false ∧ l23 = false ∧ True := hus
            simp only [sel_t, sel_f] at hI
            obtain ⟨rfl, hb⟩ := hI
            refine lin_skip rfl ?_
            exact hK.out _ _ ⟨true, true, false, false, false, false, false, false, false, false, false, false, false, false, false, false, by kernel_rfl, by kernel_rfl, hb⟩
          refine lin_cons [8, 9] [11, 12, 13, 14, 15, 16, 17, 18, 19, 20, 21, 22, 23] rfl (by kernel_rfl) (by kernel_rfl) ?_ ?_
          · intro L ac Wn hI hi hds hus Kc hK
            obtain ⟨l8, l9, l10, l11, l12, l13, l14, l15, l16, l17, l18, l19, l20, l21, l22, l23, rfl, hI⟩ := hI
            obtain rfl : l10 = false := hi
            obtain ⟨rfl, rfl, -⟩ : l8 = true ∧ l9 = true ∧ True := hds
            obtain ⟨rfl, rfl, rfl, rfl, rfl, rfl, rfl, rfl, rfl, rfl, rfl, rfl, rfl, -⟩ : l11 = false ∧ l12 = false ∧ l13 = false ∧ l14 = false ∧ l15 = false ∧ l16 = false ∧ l17 = false ∧ l18 = false ∧ l19 = false ∧ l20 = false ∧ l21 = false ∧ l22 = false ∧ l23 = false ∧ True := hus
            simp only [sel_t, sel_f] at hI
            obtain ⟨rfl, hb⟩ := hI
            refine lin_yield (.bool true) rfl (by go_simp; first | done | with_reducible rfl) ?_
            exact hK.out _ _ ⟨true, true, true, false, false, false, false, false, false, false, false, false, false, false, false, false, by kernel_rfl, by kernel_rfl, hb⟩
          refine lin_cons [8, 9, 10] [12, 13, 14, 15, 16, 17, 18, 19, 20, 21, 22, 23] rfl (by kernel_rfl) (by kernel_rfl) ?_ ?_
          · intro L ac Wn hI hi hds hus Kc hK
            obtain ⟨l8, l9, l10, l11, l12, l13, l14, l15, l16, l17, l18, l19, l20, l21, l22, l23, rfl, hI⟩ := hI
            obtain rfl : l11 = false := hi
            obtain ⟨rfl, rfl, rfl, -⟩ : l8 = true ∧ l9 = true ∧ l10 = true ∧ True := hds
            obtain ⟨rfl, rfl, rfl, rfl, rfl, rfl, rfl, rfl, rfl, rfl, rfl, rfl, -⟩ : l12 = false ∧ l13 = false ∧ l14 = false ∧ l15 = false ∧ l16 = false ∧ l17 = false ∧ l18 = false ∧ l19 = false ∧ l20 = false ∧ l21 = false ∧ l22 = false ∧ l23 = false ∧ True := hus
            simp only [sel_t, sel_f] at hI
            obtain ⟨rfl, hb⟩ := hI
            refine lin_yield (.bool true) rfl (by go_simp; first | done | with_reducible rfl) ?_
            exact hK.out _ _ ⟨true, true, true, true, false, false, false, false, false, false, false, false, false, false, false, false, by kernel_rfl, by kernel_rfl, hb⟩
          refine lin_cons [8, 9, 10, 11] [13, 14, 16, 21, 22, 23] rfl (by kernel_rfl) (by kernel_rfl) ?_ ?_
          · intro L ac Wn hI hi hds hus Kc hK
            obtain ⟨l8, l9, l10, l11, l12, l13, l14, l15, l16, l17, l18, l19, l20, l21, l22, l23, rfl, hI⟩ := hI
            obtain rfl : l12 = false := hi
            obtain ⟨rfl, rfl, rfl, rfl, -⟩ : l8 = true ∧ l9 = true ∧ l10 = true ∧ l11 = true ∧ True := hds
            obtain ⟨rfl, rfl, rfl, rfl, rfl, rfl, -⟩ : l13 = false ∧ l14 = false ∧ l16 = false ∧ l21 = false ∧ l22 = false ∧ l23 = false ∧ True := hus
            simp only [sel_t, sel_f] at hI
            obtain ⟨rfl, hb⟩ := hI
            refine lin_skip rfl ?_
            exact hK.out _ _ ⟨true, true, true, true, true, false, false, l15, false, l17, l18, l19, l20, false, false, false, by kernel_rfl, by kernel_rfl, hb⟩
          refine lin_cons [8, 9, 10, 11, 12] [14, 16, 21, 22, 23] rfl (by kernel_rfl) (by kernel_rfl) ?_ ?_
          · intro L ac Wn hI hi hds hus Kc hK
            obtain ⟨l8, l9, l10, l11, l12, l13, l14, l15, l16, l17, l18, l19, l20, l21, l22, l23, rfl, hI⟩ := hI
            obtain rfl : l13 = false := hi
            obtain ⟨rfl, rfl, rfl, rfl, rfl, -⟩ : l8 = true ∧ l9 = true ∧ l10 = true ∧ l11 = true ∧ l12 = true ∧ True := hds
            obtain ⟨rfl, rfl, rfl, rfl, rfl, -⟩ : l14 = false ∧ l16 = false ∧ l21 = false ∧ l22 = false ∧ l23 = false ∧ True := hus
            simp only [sel_t, sel_f] at hI
            obtain ⟨rfl, hb⟩ := hI
            refine lin_skip rfl ?_
            exact hK.out _ _ ⟨true, true, true, true, true, true, false, l15, false, l17, l18, l19, l20, false, false, false, by kernel_rfl, by kernel_rfl, hb⟩
          refine lin_cons [8, 9, 10, 11, 12, 13] [16, 21, 22, 23] rfl (by kernel_rfl) (by kernel_rfl) ?_ ?_
          · intro L ac Wn hI hi hds hus Kc hK
            obtain ⟨l8, l9, l10, l11, l12, l13, l14, l15, l16, l17, l18, l19, l20, l21, l22, l23, rfl, hI⟩ := hI
            obtain rfl : l14 = false := hi
            obtain ⟨rfl, rfl, rfl, rfl, rfl, rfl, -⟩ : l8 = true ∧ l9 = true ∧ l10 = true ∧ l11 = true ∧ l12 = true ∧ l13 = true ∧ True := hds
            obtain ⟨rfl, rfl, rfl, rfl, -⟩ : l16 = false ∧ l21 = false ∧ l22 = false ∧ l23 = false ∧ True := hus
            simp only [sel_t, sel_f] at hI
            obtain ⟨rfl, hb⟩ := hI
            refine lin_skip rfl ?_
            exact hK.out _ _ ⟨true, true, true, true, true, true, true, l15, false, l17, l18, l19, l20, false, false, false, by kernel_rfl, by kernel_rfl, hb⟩
          refine lin_cons [8, 9, 10, 11] [16, 21, 22, 23] rfl (by kernel_rfl) (by kernel_rfl) ?_ ?_
          · intro L ac Wn hI hi hds hus Kc hK
            obtain ⟨l8, l9, l10, l11, l12, l13, l14, l15, l16, l17, l18, l19, l20, l21, l22, l23, rfl, hI⟩ := hI
            obtain rfl : l15 = false := hi
            obtain ⟨rfl, rfl, rfl, rfl, -⟩ : l8 = true ∧ l9 = true ∧ l10 = true ∧ l11 = true ∧ True := hds
            obtain ⟨rfl, rfl, rfl, rfl, -⟩ : l16 = false ∧ l21 = false ∧ l22 = false ∧ l23 = false ∧ True := hus
            simp only [sel_t, sel_f] at hI
            obtain ⟨rfl, hb⟩ := hI
            refine lin_skip rfl ?_
            exact hK.out _ _ ⟨true, true, true, true, l12, l13, l14, true, false, l17, l18, l19, l20, false, false, false, by kernel_rfl, by kernel_rfl, hb⟩
          refine lin_cons [8, 9, 10, 11, 12, 13, 14, 15] [21, 22, 23] rfl (by kernel_rfl) (by kernel_rfl) ?_ ?_
          · intro L ac Wn hI hi hds hus Kc hK
            obtain ⟨l8, l9, l10, l11, l12, l13, l14, l15, l16, l17, l18, l19, l20, l21, l22, l23, rfl, hI⟩ := hI
            obtain rfl : l16 = false := hi
            obtain ⟨rfl, rfl, rfl, rfl, rfl, rfl, rfl, rfl, -⟩ : l8 = true ∧ l9 = true ∧ l10 = true ∧ l11 = true ∧ l12 = true ∧ l13 = true ∧ l14 = true ∧ l15 = true ∧ True := hds
            obtain ⟨rfl, rfl, rfl, -⟩ : l21 = false ∧ l22 = false ∧ l23 = false ∧ True := hus
            simp only [sel_t, sel_f] at hI
            obtain ⟨rfl, hb⟩ := hI
            refine lin_skip rfl ?_
            exact hK.out _ _ ⟨true, true, true, true, true, true, true, true, true, l17, l18, l19, l20, false, false, false, by kernel_rfl, by kernel_rfl, hb⟩
          refine lin_cons [8, 9, 10, 11] [18, 19, 21, 22, 23] rfl (by kernel_rfl) (by kernel_rfl) ?_ ?_
          · intro L ac Wn hI hi hds hus Kc hK
            obtain ⟨l8, l9, l10, l11, l12, l13, l14, l15, l16, l17, l18, l19, l20, l21, l22, l23, rfl, hI⟩ := hI
            obtain rfl : l17 = false := hi
            obtain ⟨rfl, rfl, rfl, rfl, -⟩ : l8 = true ∧ l9 = true ∧ l10 = true ∧ l11 = true ∧ True := hds
            obtain ⟨rfl, rfl, rfl, rfl, rfl, -⟩ : l18 = false ∧ l19 = false ∧ l21 = false ∧ l22 = false ∧ l23 = false ∧ True := hus
            simp only [sel_t, sel_f] at hI
            obtain ⟨rfl, hb⟩ := hI
            refine lin_skip rfl ?_
            exact hK.out _ _ ⟨true, true, true, true, l12, l13, l14, l15, l16, true, false, false, l20, false, false, false, by kernel_rfl, by kernel_rfl, hb⟩
          refine lin_cons [8, 9, 10, 11, 17] [19, 21, 22, 23] rfl (by kernel_rfl) (by kernel_rfl) ?_ ?_
          · intro L ac Wn hI hi hds hus Kc hK
            obtain ⟨l8, l9, l10, l11, l12, l13, l14, l15, l16, l17, l18, l19, l20, l21, l22, l23, rfl, hI⟩ := hI
            obtain rfl : l18 = false := hi
            obtain ⟨rfl, rfl, rfl, rfl, rfl, -⟩ : l8 = true ∧ l9 = true ∧ l10 = true ∧ l11 = true ∧ l17 = true ∧ True := hds
            obtain ⟨rfl, rfl, rfl, rfl, -⟩ : l19 = false ∧ l21 = false ∧ l22 = false ∧ l23 = false ∧ True := hus
            simp only [sel_t, sel_f] at hI
            obtain ⟨rfl, hb⟩ := hI
            refine lin_skip rfl ?_
            exact hK.out _ _ ⟨true, true, true, true, l12, l13, l14, l15, l16, true, true, false, l20, false, false, false, by kernel_rfl, by kernel_rfl, hb⟩
          refine lin_cons [8, 9, 10, 11, 17, 18] [21, 22, 23] rfl (by kernel_rfl) (by kernel_rfl) ?_ ?_
          · intro L ac Wn hI hi hds hus Kc hK
            obtain ⟨l8, l9, l10, l11, l12, l13, l14, l15, l16, l17, l18, l19, l20, l21, l22, l23, rfl, hI⟩ := hI
            obtain rfl : l19 = false := hi
            obtain ⟨rfl, rfl, rfl, rfl, rfl, rfl, -⟩ : l8 = true ∧ l9 = true ∧ l10 = true ∧ l11 = true ∧ l17 = true ∧ l18 = true ∧ True := hds
            obtain ⟨rfl, rfl, rfl, -⟩ : l21 = false ∧ l22 = false ∧ l23 = false ∧ True := hus
            simp only [sel_t, sel_f] at hI
            obtain ⟨rfl, hb⟩ := hI
            refine lin_skip rfl ?_
            exact hK.out _ _ ⟨true, true, true, true, l12, l13, l14, l15, l16, true, true, true, l20, false, false, false, by kernel_rfl, by kernel_rfl, hb⟩
          refine lin_cons [8, 9, 10, 11] [21, 22, 23] rfl (by kernel_rfl) (by kernel_rfl) ?_ ?_
          · intro L ac Wn hI hi hds hus Kc hK
            obtain ⟨l8, l9, l10, l11, l12, l13, l14, l15, l16, l17, l18, l19, l20, l21, l22, l23, rfl, hI⟩ := hI
            obtain rfl : l20 = false := hi
            obtain ⟨rfl, rfl, rfl, rfl, -⟩ : l8 = true ∧ l9 = true ∧ l10 = true ∧ l11 = true ∧ True := hds
            obtain ⟨rfl, rfl, rfl, -⟩ : l21 = false ∧ l22 = false ∧ l23 = false ∧ True := hus
            simp only [sel_t, sel_f] at hI
            obtain ⟨rfl, hb⟩ := hI
            refine lin_skip rfl ?_
            exact hK.out _ _ ⟨true, true, true, true, l12, l13, l14, l15, l16, l17, l18, l19, true, false, false, false, by kernel_rfl, by kernel_rfl, hb⟩
          refine lin_cons [8, 9, 10, 11, 12, 13, 14, 15, 16, 17, 18, 19, 20] [22, 23] rfl (by kernel_rfl) (by kernel_rfl) ?_ ?_
          · intro L ac Wn hI hi hds hus Kc hK
            obtain ⟨l8, l9, l10, l11, l12, l13, l14, l15, l16, l17, l18, l19, l20, l21, l22, l23, rfl, hI⟩ := hI
            obtain rfl : l21 = false := hi
            obtain ⟨rfl, rfl, rfl, rfl, rfl, rfl, rfl, rfl, rfl, rfl, rfl, rfl, rfl, -⟩ : l8 = true ∧ l9 = true ∧ l10 = true ∧ l11 = true ∧ l12 = true ∧ l13 = true ∧ l14 = true ∧ l15 = true ∧ l16 = true ∧ l17 = true ∧ l18 = true ∧ l19 = true ∧ l20 = true ∧ True := hds
            obtain ⟨rfl, rfl, -⟩ : l22 = false ∧ l23 = false ∧ True := hus
            simp only [sel_t, sel_f] at hI
            obtain ⟨rfl, hb⟩ := hI
            refine lin_skip rfl ?_
            exact hK.out _ _ ⟨true, true, true, true, true, true, true, true, true, true, true, true, true, true, false, false, by kernel_rfl, by kernel_rfl, hb⟩
          refine lin_cons [8, 9, 10, 11, 12, 13, 14, 15, 16, 17, 18, 19, 20, 21] [23] rfl (by kernel_rfl) (by kernel_rfl) ?_ ?_
          · intro L ac Wn hI hi hds hus Kc hK
            obtain ⟨l8, l9, l10, l11, l12, l13, l14, l15, l16, l17, l18, l19, l20, l21, l22, l23, rfl, hI⟩ := hI
            obtain rfl : l22 = false := hi
            obtain ⟨rfl, rfl, rfl, rfl, rfl, rfl, rfl, rfl, rfl, rfl, rfl, rfl, rfl, rfl, -⟩ : l8 = true ∧ l9 = true ∧ l10 = true ∧ l11 = true ∧ l12 = true ∧ l13 = true ∧ l14 = true ∧ l15 = true ∧ l16 = true ∧ l17 = true ∧ l18 = true ∧ l19 = true ∧ l20 = true ∧ l21 = true ∧ True := hds
            obtain ⟨rfl, -⟩ : l23 = false ∧ True := hus
            simp only [sel_t, sel_f] at hI
            obtain ⟨rfl, hb⟩ := hI
            refine lin_skip rfl ?_
            exact hK.out _ _ ⟨true, true, true, true, true, true, true, true, true, true, true, true, true, true, true, false, by kernel_rfl, by kernel_rfl, hb⟩
          refine lin_cons [8, 9, 10, 11, 12, 13, 14, 15, 16, 17, 18, 19, 20, 21, 22] [] rfl (by kernel_rfl) (by kernel_rfl) ?_ lin_nil
          intro L ac Wn hI hi hds hus Kc hK
          obtain ⟨l8, l9, l10, l11, l12, l13, l14, l15, l16, l17, l18, l19, l20, l21, l22, l23, rfl, hI⟩ := hI
          obtain rfl : l23 = false := hi
          obtain ⟨rfl, rfl, rfl, rfl, rfl, rfl, rfl, rfl, rfl, rfl, rfl, rfl, rfl, rfl, rfl, -⟩ : l8 = true ∧ l9 = true ∧ l10 = true ∧ l11 = true ∧ l12 = true ∧ l13 = true ∧ l14 = true ∧ l15 = true ∧ l16 = true ∧ l17 = true ∧ l18 = true ∧ l19 = true ∧ l20 = true ∧ l21 = true ∧ l22 = true ∧ True := hds
          simp only [sel_t, sel_f] at hI
          obtain ⟨rfl, hb⟩ := hI
          refine lin_yield (.bool true) rfl (by go_simp; first | done | with_reducible rfl) ?_
          exact hK.out _ _ ⟨true, true, true, true, true, true, true, true, true, true, true, true, true, true, true, true, by kernel_rfl, by kernel_rfl, hb⟩
        refine bar_of [8, 9, 10, 11, 12, 13, 14, 15, 16, 17, 18, 19, 20, 21, 22, 23] rfl (by kernel_rfl) ?_
        intro L ac Wn hI hds Kc hK
        obtain ⟨l8, l9, l10, l11, l12, l13, l14, l15, l16, l17, l18, l19, l20, l21, l22, l23, rfl, hI⟩ := hI
        obtain ⟨rfl, rfl, rfl, rfl, rfl, rfl, rfl, rfl, rfl, rfl, rfl, rfl, rfl, rfl, rfl, rfl, -⟩ : l8 = true ∧ l9 = true ∧ l10 = true ∧ l11 = true ∧ l12 = true ∧ l13 = true ∧ l14 = true ∧ l15 = true ∧ l16 = true ∧ l17 = true ∧ l18 = true ∧ l19 = true ∧ l20 = true ∧ l21 = true ∧ l22 = true ∧ l23 = true ∧ True := hds
        simp only [sel_t] at hI
        obtain ⟨rfl, hb⟩ := hI
        refine lin_yield (.bool true) rfl (by go_simp; first | done | with_reducible rfl) ?_
        refine hK.out _ _ (fun fu hf => ?_)
        clear hK Kc
        refine lin_seg 28 [25, 26, 27] 27 (fun L ac Wn => ∃ l25 l26 : Bool, L = #[true, true, true, true, true, true, true, true, true, true, true, true, true, true, true, true, true, true, true, true, true, true, true, true, true, l25, l26, false] ∧ ac = { tmps := #[.slice ad 0 c, .int .i64 k, undef, undef, .bool false, .slice ad 0 c, .int .i64 0, .bool false, .bool false, .slice ad 0 c, .bool false, .bool false, undef, .slice ad 0 c, .agg #[.bool z1, .string o1, .int .i64 e1], .slice ad 0 c, .agg #[.bool z1, .string o1, .int .i64 e1], .bool false, .slice ad 0 c, .int .i64 0, .bool true, .bool true, undef, undef, .bool true, .bool true, undef, undef, .bool true, .bool true, undef, undef, undef, undef, undef, undef, undef, undef, undef, undef, undef, .bool true, .bool true, sel l25 (.bool true) (undef), sel l26 (.bool true) (undef)], defers := [] } ∧ Below (w.heap.size) w Wn) (by kernel_rfl) (by kernel_rfl) (by kernel_rfl) (by kernel_rfl) hf ?_ ?_ ?_ (by kernel_rfl) ?_ (by decide)
        · exact ⟨false, false, by kernel_rfl, by kernel_rfl, hb⟩
        · rintro L ac Wn ⟨l25, l26, rfl, _⟩
          kernel_rfl
        · refine (seg_all (b := 27) [25, 26] ?_ : ∀ j ∈ [25, 26, 27], j ≠ 27 → _)
          refine lin_cons [] [26] rfl (by kernel_rfl) (by kernel_rfl) ?_ ?_
          · intro L ac Wn hI hi hds hus Kc hK
            obtain ⟨l25, l26, rfl, hI⟩ := hI
            obtain rfl : l25 = false := hi
            obtain ⟨rfl, -⟩ : l26 = false ∧ True := hus
            simp only [sel_f] at hI
            obtain ⟨rfl, hb⟩ := hI
            go_simp
            go_fit (yawake_any _)
            rintro e V ⟨rfl, hq⟩
            exact hK.out _ _ ⟨true, false, by kernel_rfl, by kernel_rfl, (below_next hb hq)⟩
          refine lin_cons [25] [] rfl (by kernel_rfl) (by kernel_rfl) ?_ lin_nil
          intro L ac Wn hI hi hds hus Kc hK
          obtain ⟨l25, l26, rfl, hI⟩ := hI
          obtain rfl : l26 = false := hi
          obtain ⟨rfl, -⟩ : l25 = true ∧ True := hds
          simp only [sel_t, sel_f] at hI
          obtain ⟨rfl, hb⟩ := hI
          refine lin_yield (.bool true) rfl (by go_simp; first | done | with_reducible rfl) ?_
          exact hK.out _ _ ⟨true, true, by kernel_rfl, by kernel_rfl, hb⟩
        refine bar_of [25, 26] rfl (by kernel_rfl) ?_
        intro L ac Wn hI hds Kc hK
        obtain ⟨l25, l26, rfl, hI⟩ := hI
        obtain ⟨rfl, rfl, -⟩ : l25 = true ∧ l26 = true ∧ True := hds
        simp only [sel_t] at hI
        obtain ⟨rfl, hb⟩ := hI
        refine lin_yield (.bool true) rfl (by go_simp; first | done | with_reducible rfl) ?_
        refine hK.out _ _ (fun fu hf => wpAnyH_done (by kernel_rfl) ?_ _)
        clear hK Kc hf
        go_wp2
        go_ret
        exact ⟨rfl, hb⟩
      · have hn0b : ((n : Int) == 0) = false := by rw [beq_eq_false_iff_ne]; omega
        have h0l : 0 < l.length := by rw [HN.out]; omega
        obtain ⟨lb, lo, rfl, hlb, hc1, hc2, hc3⟩ := hl 0 h0l
        obtain ⟨m1, s1, e5, hx⟩ : ∃ m s e, l[0] = (m, s, e) := ⟨_, _, _, rfl⟩
        have hs1 := HX.out l[0] (List.getElem_mem h0l)
        rw [hx] at hc1 hc2 hc3 hs1
        rw [Nat.zero_mul, Nat.add_zero] at hc1 hc2 hc3
        simp only at hc1 hc2 hc3 hs1
        have hnpos : (0 : Int) < (n : Int) := by omega
        clear hx
        by_cases h10 : 10 < k
        · have d2 : decide ((10 : Int) < k) = true := decide_eq_true h10
          go_wp2_with fail
          refine region_segs (n := 28) #[false, false, false, false, false, false, false, false, false, false, false, false, false, false, false, false, false, false, false, false, false, false, false, false, false, false, false, false] (by kernel_rfl) (by kernel_rfl) (by kernel_rfl) ?_
          intro fu hf
          refine lin_seg 28 [0, 1, 2, 3, 4, 5, 6, 7] 7 (fun L ac Wn => ∃ l0 l1 l2 l3 l4 l5 l6 : Bool, L = #[l0, l1, l2, l3, l4, l5, l6, false, false, false, false, false, false, false, false, false, false, false, false, false, false, false, false, false, false, false, false, false] ∧ ac = { tmps := #[.slice (some { block := lb, off := lo }) n c, .int .i64 k, undef, undef, .bool false, .slice (some { block := lb, off := lo }) n c, .int .i64 (n : Int), .bool false, .bool false, .slice (some { block := lb, off := lo }) n c, .bool false, .bool false, undef, .slice (some { block := lb, off := lo }) n c, .agg #[.bool z1, .string o1, .int .i64 e1], .slice (some { block := lb, off := lo }) n c, .agg #[.bool z1, .string o1, .int .i64 e1], .bool false, sel l0 (.slice (some { block := lb, off := lo }) n c) (undef), sel l1 (.int .i64 (n : Int)) (undef), sel l2 (.bool false) (undef), sel l3 (.bool false) (undef), sel l4 (.int .i64 k) (undef), sel l5 (.bool true) (undef), sel l6 (.bool true) (undef), undef, undef, undef, undef, undef, undef, undef, undef, undef, undef, undef, undef, undef, undef, undef, undef, undef, undef, undef, undef], defers := [] } ∧ Below (w.heap.size) w Wn) (by kernel_rfl) (by kernel_rfl) (by kernel_rfl) (by kernel_rfl) hf ?_ ?_ ?_ (by kernel_rfl) ?_ (by decide)
          · exact ⟨false, false, false, false, false, false, false, by kernel_rfl, by kernel_rfl, hb.drew⟩
          · rintro L ac Wn ⟨l0, l1, l2, l3, l4, l5, l6, rfl, _⟩
            kernel_rfl
          · refine (seg_all (b := 7) [0, 1, 2, 3, 4, 5, 6] ?_ : ∀ j ∈ [0, 1, 2, 3, 4, 5, 6, 7], j ≠ 7 → _)
            refine lin_cons [] [1, 2, 3, 4, 5, 6] rfl (by kernel_rfl) (by kernel_rfl) ?_ ?_
            · intro L ac Wn hI hi hds hus Kc hK
              obtain ⟨l0, l1, l2, l3, l4, l5, l6, rfl, hI⟩ := hI
              obtain rfl : l0 = false := hi
              obtain ⟨rfl, rfl, rfl, rfl, rfl, rfl, -⟩ : l1 = false ∧ l2 = false ∧ l3 = false ∧ l4 = false ∧ l5 = false ∧ l6 = false ∧ True := hus
              simp only [sel_f] at hI
              obtain ⟨rfl, hb⟩ := hI
              refine lin_yield (.slice (some { block := lb, off := lo }) n c) rfl (by go_simp; first | done | with_reducible rfl) ?_
              exact hK.out _ _ ⟨true, false, false, false, false, false, false, by kernel_rfl, by kernel_rfl, hb⟩
            refine lin_cons [0] [2, 3, 4, 5, 6] rfl (by kernel_rfl) (by kernel_rfl) ?_ ?_
            · intro L ac Wn hI hi hds hus Kc hK
              obtain ⟨l0, l1, l2, l3, l4, l5, l6, rfl, hI⟩ := hI
              obtain rfl : l1 = false := hi
              obtain ⟨rfl, -⟩ : l0 = true ∧ True := hds
              obtain ⟨rfl, rfl, rfl, rfl, rfl, -⟩ : l2 = false ∧ l3 = false ∧ l4 = false ∧ l5 = false ∧ l6 = false ∧ True := hus
              simp only [sel_t, sel_f] at hI
              obtain ⟨rfl, hb⟩ := hI
              refine lin_yield (.int .i64 (n : Int)) rfl (by go_simp; first | done | with_reducible rfl) ?_
              exact hK.out _ _ ⟨true, true, false, false, false, false, false, by kernel_rfl, by kernel_rfl, hb⟩
            refine lin_cons [0, 1] [3, 4, 5, 6] rfl (by kernel_rfl) (by kernel_rfl) ?_ ?_
            · intro L ac Wn hI hi hds hus Kc hK
              obtain ⟨l0, l1, l2, l3, l4, l5, l6, rfl, hI⟩ := hI
              obtain rfl : l2 = false := hi
              obtain ⟨rfl, rfl, -⟩ : l0 = true ∧ l1 = true ∧ True := hds
              obtain ⟨rfl, rfl, rfl, rfl, -⟩ : l3 = false ∧ l4 = false ∧ l5 = false ∧ l6 = false ∧ True := hus
              simp only [sel_t, sel_f] at hI
              obtain ⟨rfl, hb⟩ := hI
              refine lin_yield (.bool false) rfl (by go_simp; first | done | with_reducible rfl) ?_
              exact hK.out _ _ ⟨true, true, true, false, false, false, false, by kernel_rfl, by kernel_rfl, hb⟩
            refine lin_cons [0, 1, 2] [4, 5, 6] rfl (by kernel_rfl) (by kernel_rfl) ?_ ?_
            · intro L ac Wn hI hi hds hus Kc hK
              obtain ⟨l0, l1, l2, l3, l4, l5, l6, rfl, hI⟩ := hI
              obtain rfl : l3 = false := hi
              obtain ⟨rfl, rfl, rfl, -⟩ : l0 = true ∧ l1 = true ∧ l2 = true ∧ True := hds
              obtain ⟨rfl, rfl, rfl, -⟩ : l4 = false ∧ l5 = false ∧ l6 = false ∧ True := hus
              simp only [sel_t, sel_f] at hI
              obtain ⟨rfl, hb⟩ := hI
              refine lin_yield (.bool false) rfl (by go_simp; first | done | with_reducible rfl) ?_
              exact hK.out _ _ ⟨true, true, true, true, false, false, false, by kernel_rfl, by kernel_rfl, hb⟩
            refine lin_cons [0, 1, 2, 3] [5, 6] rfl (by kernel_rfl) (by kernel_rfl) ?_ ?_
            · intro L ac Wn hI hi hds hus Kc hK
              obtain ⟨l0, l1, l2, l3, l4, l5, l6, rfl, hI⟩ := hI
              obtain rfl : l4 = false := hi
              obtain ⟨rfl, rfl, rfl, rfl, -⟩ : l0 = true ∧ l1 = true ∧ l2 = true ∧ l3 = true ∧ True := hds
              obtain ⟨rfl, rfl, -⟩ : l5 = false ∧ l6 = false ∧ True := hus
              simp only [sel_t, sel_f] at hI
              obtain ⟨rfl, hb⟩ := hI
              refine lin_yield (.int .i64 k) rfl (by go_simp; first | done | with_reducible rfl) ?_
              exact hK.out _ _ ⟨true, true, true, true, true, false, false, by kernel_rfl, by kernel_rfl, hb⟩
            refine lin_cons [0, 1, 2, 3, 4] [6] rfl (by kernel_rfl) (by kernel_rfl) ?_ ?_
            · intro L ac Wn hI hi hds hus Kc hK
              obtain ⟨l0, l1, l2, l3, l4, l5, l6, rfl, hI⟩ := hI
              obtain rfl : l5 = false := hi
              obtain ⟨rfl, rfl, rfl, rfl, rfl, -⟩ : l0 = true ∧ l1 = true ∧ l2 = true ∧ l3 = true ∧ l4 = true ∧ True := hds
              obtain ⟨rfl, -⟩ : l6 = false ∧ True := hus
              simp only [sel_t, sel_f] at hI
              obtain ⟨rfl, hb⟩ := hI
              refine lin_yield (.bool true) rfl (by go_simp; first | done | with_reducible rfl) ?_
              exact hK.out _ _ ⟨true, true, true, true, true, true, false, by kernel_rfl, by kernel_rfl, hb⟩
            refine lin_cons [0, 1, 2, 3, 4, 5] [] rfl (by kernel_rfl) (by kernel_rfl) ?_ lin_nil
            intro L ac Wn hI hi hds hus Kc hK
            obtain ⟨l0, l1, l2, l3, l4, l5, l6, rfl, hI⟩ := hI
            obtain rfl : l6 = false := hi
            obtain ⟨rfl, rfl, rfl, rfl, rfl, rfl, -⟩ : l0 = true ∧ l1 = true ∧ l2 = true ∧ l3 = true ∧ l4 = true ∧ l5 = true ∧ True := hds
            simp only [sel_t, sel_f] at hI
            obtain ⟨rfl, hb⟩ := hI
            refine lin_yield (.bool true) rfl (by go_simp; first | done | with_reducible rfl) ?_
            exact hK.out _ _ ⟨true, true, true, true, true, true, true, by kernel_rfl, by kernel_rfl, hb⟩
          refine bar_of [0, 1, 2, 3, 4, 5, 6] rfl (by kernel_rfl) ?_
          intro L ac Wn hI hds Kc hK
          obtain ⟨l0, l1, l2, l3, l4, l5, l6, rfl, hI⟩ := hI
          obtain ⟨rfl, rfl, rfl, rfl, rfl, rfl, rfl, -⟩ : l0 = true ∧ l1 = true ∧ l2 = true ∧ l3 = true ∧ l4 = true ∧ l5 = true ∧ l6 = true ∧ True := hds
          simp only [sel_t] at hI
          obtain ⟨rfl, hb⟩ := hI
          refine lin_yield (.bool true) rfl (by go_simp; first | done | with_reducible rfl) ?_
          refine hK.out _ _ (fun fu hf => ?_)
          clear hK Kc
          refine lin_seg 28 [8, 9, 10, 11, 12, 13, 14, 15, 16, 17, 18, 19, 20, 21, 22, 23, 24] 24 (fun L ac Wn => ∃ l8 l9 l10 l11 l12 l13 l14 l15 l16 l17 l18 l19 l20 l21 l22 l23 : Bool, L = #[true, true, true, true, true, true, true, true, l8, l9, l10, l11, l12, l13, l14, l15, l16, l17, l18, l19, l20, l21, l22, l23, false, false, false, false] ∧ ac = { tmps := #[.slice (some { block := lb, off := lo }) n c, .int .i64 k, undef, undef, .bool false, .slice (some { block := lb, off := lo }) n c, .int .i64 (n : Int), .bool false, .bool false, .slice (some { block := lb, off := lo }) n c, .bool false, .bool false, undef, .slice (some { block := lb, off := lo }) n c, .agg #[.bool z1, .string o1, .int .i64 e1], .slice (some { block := lb, off := lo }) n c, .agg #[.bool z1, .string o1, .int .i64 e1], .bool false, .slice (some { block := lb, off := lo }) n c, .int .i64 (n : Int), .bool false, .bool false, .int .i64 k, .bool true, .bool true, .bool true, sel l8 (undef) (undef), sel l9 (undef) (undef), sel l10 (.bool true) (undef), sel l11 (.bool true) (undef), sel l12 (undef) (undef), sel l13 (undef) (undef), sel l14 (undef) (undef), sel l15 (undef) (undef), sel l16 (undef) (undef), sel l17 (undef) (undef), sel l18 (undef) (undef), sel l19 (undef) (undef), sel l20 (undef) (undef), sel l21 (undef) (undef), sel l22 (undef) (undef), sel l23 (.bool true) (undef), undef, undef, undef], defers := [] } ∧ Below (w.heap.size) w Wn) (by kernel_rfl) (by kernel_rfl) (by kernel_rfl) (by kernel_rfl) hf ?_ ?_ ?_ (by kernel_rfl) ?_ (by decide)
          · exact ⟨false, false, false, false, false, false, false, false, false, false, false, false, false, false, false, false, by kernel_rfl, by kernel_rfl, hb⟩
          · rintro L ac Wn ⟨l8, l9, l10, l11, l12, l13, l14, l15, l16, l17, l18, l19, l20, l21, l22, l23, rfl, _⟩
            kernel_rfl
          · refine (seg_all (b := 24) [8, 9, 10, 11, 12, 13, 14, 15, 16, 17, 18, 19, 20, 21, 22, 23] ?_ : ∀ j ∈ [8, 9, 10, 11, 12, 13, 14, 15, 16, 17, 18, 19, 20, 21, 22, 23, 24], j ≠ 24 → _)
            refine lin_cons [] [9, 10, 11, 12, 13, 14, 15, 16, 17, 18, 19, 20, 21, 22, 23] rfl (by kernel_rfl) (by kernel_rfl) ?_ ?_
            · intro L ac Wn hI hi hds hus Kc hK
              obtain ⟨l8, l9, l10, l11, l12, l13, l14, l15, l16, l17, l18, l19, l20, l21, l22, l23, rfl, hI⟩ := hI
              obtain rfl : l8 = false := hi
              obtain ⟨rfl, rfl, rfl, rfl, rfl, rfl, rfl, rfl, rfl, rfl, rfl, rfl, rfl, rfl, rfl, -⟩ : l9 = false ∧ l10 = false ∧ l11 = false ∧ l12 = false ∧ l13 = false ∧ l14 = false ∧ l15 = false ∧ l16 = false ∧ l17 = false ∧ l18 = false ∧ l19 = false ∧ l20 = false ∧ l21 = false ∧ l22 = false ∧ l23 = false ∧ True := hus
              simp only [sel_f] at hI
              obtain ⟨rfl, hb⟩ := hI
              refine lin_skip rfl ?_
              exact hK.out _ _ ⟨true, false, false, false, false, false, false, false, false, false, false, false, false, false, false, false, by kernel_rfl, by kernel_rfl, hb⟩
            refine lin_cons [8] [10, 11, 12, 13, 14, 15, 16, 17, 18, 19, 20, 21, 22, 23] rfl (by kernel_rfl) (by kernel_rfl) ?_ ?_
            · intro L ac Wn hI hi hds hus Kc hK
              obtain ⟨l8, l9, l10, l11, l12, l13, l14, l15, l16, l17, l18, l19, l20, l21, l22, l23, rfl, hI⟩ := hI
              obtain rfl : l9 = false := hi
              obtain ⟨rfl, -⟩ : l8 = true ∧ True := hds
              obtain ⟨rfl, rfl, rfl, rfl, rfl, rfl, rfl, rfl, rfl, rfl, rfl, rfl, rfl, rfl, -⟩ : l10 = false ∧ l11 = false ∧ l12 = false ∧ l13 = false ∧ l14 = false ∧ l15 = false ∧ l16 = false ∧ l17 = false ∧ l18 = false ∧ l19 = false ∧ l20 = false ∧ l21 = false ∧ l22 = false ∧ l23 = false ∧ True := hus
              simp only [sel_t, sel_f] at hI
              obtain ⟨rfl, hb⟩ := hI
              refine lin_skip rfl ?_
              exact hK.out _ _ ⟨true, true, false, false, false, false, false, false, false, false, false, false, false, false, false, false, by kernel_rfl, by kernel_rfl, hb⟩
            refine lin_cons [8, 9] [11, 12, 13, 14, 15, 16, 17, 18, 19, 20, 21, 22, 23] rfl (by kernel_rfl) (by kernel_rfl) ?_ ?_
            · intro L ac Wn hI hi hds hus Kc hK
              obtain ⟨l8, l9, l10, l11, l12, l13, l14, l15, l16, l17, l18, l19, l20, l21, l22, l23, rfl, hI⟩ := hI
              obtain rfl : l10 = false := hi
              obtain ⟨rfl, rfl, -⟩ : l8 = true ∧ l9 = true ∧ True := hds
              obtain ⟨rfl, rfl, rfl, rfl, rfl, rfl, rfl, rfl, rfl, rfl, rfl, rfl, rfl, -⟩ : l11 = false ∧ l12 = false ∧ l13 = false ∧ l14 = false ∧ l15 = false ∧ l16 = false ∧ l17 = false ∧ l18 = false ∧ l19 = false ∧ l20 = false ∧ l21 = false ∧ l22 = false ∧ l23 = false ∧ True := hus
              simp only [sel_t, sel_f] at hI
              obtain ⟨rfl, hb⟩ := hI
              refine lin_yield (.bool true) rfl (by go_simp; first | done | with_reducible rfl) ?_
              exact hK.out _ _ ⟨true, true, true, false, false, false, false, false, false, false, false, false, false, false, false, false, by kernel_rfl, by kernel_rfl, hb⟩
            refine lin_cons [8, 9, 10] [12, 13, 14, 15, 16, 17, 18, 19, 20, 21, 22, 23] rfl (by kernel_rfl) (by kernel_rfl) ?_ ?_
            · intro L ac Wn hI hi hds hus Kc hK
              obtain ⟨l8, l9, l10, l11, l12, l13, l14, l15, l16, l17, l18, l19, l20, l21, l22, l23, rfl, hI⟩ := hI
              obtain rfl : l11 = false := hi
              obtain ⟨rfl, rfl, rfl, -⟩ : l8 = true ∧ l9 = true ∧ l10 = true ∧ True := hds
              obtain ⟨rfl, rfl, rfl, rfl, rfl, rfl, rfl, rfl, rfl, rfl, rfl, rfl, -⟩ : l12 = false ∧ l13 = false ∧ l14 = false ∧ l15 = false ∧ l16 = false ∧ l17 = false ∧ l18 = false ∧ l19 = false ∧ l20 = false ∧ l21 = false ∧ l22 = false ∧ l23 = false ∧ True := hus
              simp only [sel_t, sel_f] at hI
              obtain ⟨rfl, hb⟩ := hI
              refine lin_yield (.bool true) rfl (by go_simp; first | done | with_reducible rfl) ?_
              exact hK.out _ _ ⟨true, true, true, true, false, false, false, false, false, false, false, false, false, false, false, false, by kernel_rfl, by kernel_rfl, hb⟩
            refine lin_cons [8, 9, 10, 11] [13, 14, 16, 21, 22, 23] rfl (by kernel_rfl) (by kernel_rfl) ?_ ?_
            · intro L ac Wn hI hi hds hus Kc hK
              obtain ⟨l8, l9, l10, l11, l12, l13, l14, l15, l16, l17, l18, l19, l20, l21, l22, l23, rfl, hI⟩ := hI
              obtain rfl : l12 = false := hi
              obtain ⟨rfl, rfl, rfl, rfl, -⟩ : l8 = true ∧ l9 = true ∧ l10 = true ∧ l11 = true ∧ True := hds
              obtain ⟨rfl, rfl, rfl, rfl, rfl, rfl, -⟩ : l13 = false ∧ l14 = false ∧ l16 = false ∧ l21 = false ∧ l22 = false ∧ l23 = false ∧ True := hus
              simp only [sel_t, sel_f] at hI
              obtain ⟨rfl, hb⟩ := hI
              refine lin_skip rfl ?_
              exact hK.out _ _ ⟨true, true, true, true, true, false, false, l15, false, l17, l18, l19, l20, false, false, false, by kernel_rfl, by kernel_rfl, hb⟩
            refine lin_cons [8, 9, 10, 11, 12] [14, 16, 21, 22, 23] rfl (by kernel_rfl) (by kernel_rfl) ?_ ?_
            · intro L ac Wn hI hi hds hus Kc hK
              obtain ⟨l8, l9, l10, l11, l12, l13, l14, l15, l16, l17, l18, l19, l20, l21, l22, l23, rfl, hI⟩ := hI
              obtain rfl : l13 = false := hi
              obtain ⟨rfl, rfl, rfl, rfl, rfl, -⟩ : l8 = true ∧ l9 = true ∧ l10 = true ∧ l11 = true ∧ l12 = true ∧ True := hds
              obtain ⟨rfl, rfl, rfl, rfl, rfl, -⟩ : l14 = false ∧ l16 = false ∧ l21 = false ∧ l22 = false ∧ l23 = false ∧ True := hus
              simp only [sel_t, sel_f] at hI
              obtain ⟨rfl, hb⟩ := hI
              refine lin_skip rfl ?_
              exact hK.out _ _ ⟨true, true, true, true, true, true, false, l15, false, l17, l18, l19, l20, false, false, false, by kernel_rfl, by kernel_rfl, hb⟩
            refine lin_cons [8, 9, 10, 11, 12, 13] [16, 21, 22, 23] rfl (by kernel_rfl) (by kernel_rfl) ?_ ?_
            · intro L ac Wn hI hi hds hus Kc hK
              obtain ⟨l8, l9, l10, l11, l12, l13, l14, l15, l16, l17, l18, l19, l20, l21, l22, l23, rfl, hI⟩ := hI
              obtain rfl : l14 = false := hi
              obtain ⟨rfl, rfl, rfl, rfl, rfl, rfl, -⟩ : l8 = true ∧ l9 = true ∧ l10 = true ∧ l11 = true ∧ l12 = true ∧ l13 = true ∧ True := hds
              obtain ⟨rfl, rfl, rfl, rfl, -⟩ : l16 = false ∧ l21 = false ∧ l22 = false ∧ l23 = false ∧ True := hus
              simp only [sel_t, sel_f] at hI
              obtain ⟨rfl, hb⟩ := hI
              refine lin_skip rfl ?_
              exact hK.out _ _ ⟨true, true, true, true, true, true, true, l15, false, l17, l18, l19, l20, false, false, false, by kernel_rfl, by kernel_rfl, hb⟩
            refine lin_cons [8, 9, 10, 11] [16, 21, 22, 23] rfl (by kernel_rfl) (by kernel_rfl) ?_ ?_
            · intro L ac Wn hI hi hds hus Kc hK
              obtain ⟨l8, l9, l10, l11, l12, l13, l14, l15, l16, l17, l18, l19, l20, l21, l22, l23, rfl, hI⟩ := hI
              obtain rfl : l15 = false := hi
              obtain ⟨rfl, rfl, rfl, rfl, -⟩ : l8 = true ∧ l9 = true ∧ l10 = true ∧ l11 = true ∧ True := hds
              obtain ⟨rfl, rfl, rfl, rfl, -⟩ : l16 = false ∧ l21 = false ∧ l22 = false ∧ l23 = false ∧ True := hus
              simp only [sel_t, sel_f] at hI
              obtain ⟨rfl, hb⟩ := hI
              refine lin_skip rfl ?_
              exact hK.out _ _ ⟨true, true, true, true, l12, l13, l14, true, false, l17, l18, l19, l20, false, false, false, by kernel_rfl, by kernel_rfl, hb⟩
            refine lin_cons [8, 9, 10, 11, 12, 13, 14, 15] [21, 22, 23] rfl (by kernel_rfl) (by kernel_rfl) ?_ ?_
            · intro L ac Wn hI hi hds hus Kc hK
              obtain ⟨l8, l9, l10, l11, l12, l13, l14, l15, l16, l17, l18, l19, l20, l21, l22, l23, rfl, hI⟩ := hI
              obtain rfl : l16 = false := hi
              obtain ⟨rfl, rfl, rfl, rfl, rfl, rfl, rfl, rfl, -⟩ : l8 = true ∧ l9 = true ∧ l10 = true ∧ l11 = true ∧ l12 = true ∧ l13 = true ∧ l14 = true ∧ l15 = true ∧ True := hds
              obtain ⟨rfl, rfl, rfl, -⟩ : l21 = false ∧ l22 = false ∧ l23 = false ∧ True := hus
              simp only [sel_t, sel_f] at hI
              obtain ⟨rfl, hb⟩ := hI
              refine lin_skip rfl ?_
              exact hK.out _ _ ⟨true, true, true, true, true, true, true, true, true, l17, l18, l19, l20, false, false, false, by kernel_rfl, by kernel_rfl, hb⟩
            refine lin_cons [8, 9, 10, 11] [18, 19, 21, 22, 23] rfl (by kernel_rfl) (by kernel_rfl) ?_ ?_
            · intro L ac Wn hI hi hds hus Kc hK
              obtain ⟨l8, l9, l10, l11, l12, l13, l14, l15, l16, l17, l18, l19, l20, l21, l22, l23, rfl, hI⟩ := hI
              obtain rfl : l17 = false := hi
              obtain ⟨rfl, rfl, rfl, rfl, -⟩ : l8 = true ∧ l9 = true ∧ l10 = true ∧ l11 = true ∧ True := hds
              obtain ⟨rfl, rfl, rfl, rfl, rfl, -⟩ : l18 = false ∧ l19 = false ∧ l21 = false ∧ l22 = false ∧ l23 = false ∧ True := hus
              simp only [sel_t, sel_f] at hI
              obtain ⟨rfl, hb⟩ := hI
              refine lin_skip rfl ?_
              exact hK.out _ _ ⟨true, true, true, true, l12, l13, l14, l15, l16, true, false, false, l20, false, false, false, by kernel_rfl, by kernel_rfl, hb⟩
            refine lin_cons [8, 9, 10, 11, 17] [19, 21, 22, 23] rfl (by kernel_rfl) (by kernel_rfl) ?_ ?_
            · intro L ac Wn hI hi hds hus Kc hK
              obtain ⟨l8, l9, l10, l11, l12, l13, l14, l15, l16, l17, l18, l19, l20, l21, l22, l23, rfl, hI⟩ := hI
              obtain rfl : l18 = false := hi
              obtain ⟨rfl, rfl, rfl, rfl, rfl, -⟩ : l8 = true ∧ l9 = true ∧ l10 = true ∧ l11 = true ∧ l17 = true ∧ True := hds
              obtain ⟨rfl, rfl, rfl, rfl, -⟩ : l19 = false ∧ l21 = false ∧ l22 = false ∧ l23 = false ∧ True := hus
              simp only [sel_t, sel_f] at hI
              obtain ⟨rfl, hb⟩ := hI
              refine lin_skip rfl ?_
              exact hK.out _ _ ⟨true, true, true, true, l12, l13, l14, l15, l16, true, true, false, l20, false, false, false, by kernel_rfl, by kernel_rfl, hb⟩
            refine lin_cons [8, 9, 10, 11, 17, 18] [21, 22, 23] rfl (by kernel_rfl) (by kernel_rfl) ?_ ?_
            · intro L ac Wn hI hi hds hus Kc hK
              obtain ⟨l8, l9, l10, l11, l12, l13, l14, l15, l16, l17, l18, l19, l20, l21, l22, l23, rfl, hI⟩ := hI
              obtain rfl : l19 = false := hi
              obtain ⟨rfl, rfl, rfl, rfl, rfl, rfl, -⟩ : l8 = true ∧ l9 = true ∧ l10 = true ∧ l11 = true ∧ l17 = true ∧ l18 = true ∧ True := hds
              obtain ⟨rfl, rfl, rfl, -⟩ : l21 = false ∧ l22 = false ∧ l23 = false ∧ True := hus
              simp only [sel_t, sel_f] at hI
              obtain ⟨rfl, hb⟩ := hI
              refine lin_skip rfl ?_
              exact hK.out _ _ ⟨true, true, true, true, l12, l13, l14, l15, l16, true, true, true, l20, false, false, false, by kernel_rfl, by kernel_rfl, hb⟩
            refine lin_cons [8, 9, 10, 11] [21, 22, 23] rfl (by kernel_rfl) (by kernel_rfl) ?_ ?_
            · intro L ac Wn hI hi hds hus Kc hK
              obtain ⟨l8, l9, l10, l11, l12, l13, l14, l15, l16, l17, l18, l19, l20, l21, l22, l23, rfl, hI⟩ := hI
              obtain rfl : l20 = false := hi
              obtain ⟨rfl, rfl, rfl, rfl, -⟩ : l8 = true ∧ l9 = true ∧ l10 = true ∧ l11 = true ∧ True := hds
              obtain ⟨rfl, rfl, rfl, -⟩ : l21 = false ∧ l22 = false ∧ l23 = false ∧ True := hus
              simp only [sel_t, sel_f] at hI
              obtain ⟨rfl, hb⟩ := hI
              refine lin_skip rfl ?_
              exact hK.out _ _ ⟨true, true, true, true, l12, l13, l14, l15, l16, l17, l18, l19, true, false, false, false, by kernel_rfl, by kernel_rfl, hb⟩
            refine lin_cons [8, 9, 10, 11, 12, 13, 14, 15, 16, 17, 18, 19, 20] [22, 23] rfl (by kernel_rfl) (by kernel_rfl) ?_ ?_
            · intro L ac Wn hI hi hds hus Kc hK
              obtain ⟨l8, l9, l10, l11, l12, l13, l14, l15, l16, l17, l18, l19, l20, l21, l22, l23, rfl, hI⟩ := hI
              obtain rfl : l21 = false := hi
              obtain ⟨rfl, rfl, rfl, rfl, rfl, rfl, rfl, rfl, rfl, rfl, rfl, rfl, rfl, -⟩ : l8 = true ∧ l9 = true ∧ l10 = true ∧ l11 = true ∧ l12 = true ∧ l13 = true ∧ l14 = true ∧ l15 = true ∧ l16 = true ∧ l17 = true ∧ l18 = true ∧ l19 = true ∧ l20 = true ∧ True := hds
              obtain ⟨rfl, rfl, -⟩ : l22 = false ∧ l23 = false ∧ True := hus
              simp only [sel_t, sel_f] at hI
              obtain ⟨rfl, hb⟩ := hI
              refine lin_skip rfl ?_
              exact hK.out _ _ ⟨true, true, true, true, true, true, true, true, true, true, true, true, true, true, false, false, by kernel_rfl, by kernel_rfl, hb⟩
            refine lin_cons [8, 9, 10, 11, 12, 13, 14, 15, 16, 17, 18, 19, 20, 21] [23] rfl (by kernel_rfl) (by kernel_rfl) ?_ ?_
            · intro L ac Wn hI hi hds hus Kc hK
              obtain ⟨l8, l9, l10, l11, l12, l13, l14, l15, l16, l17, l18, l19, l20, l21, l22, l23, rfl, hI⟩ := hI
              obtain rfl : l22 = false := hi
              obtain ⟨rfl, rfl, rfl, rfl, rfl, rfl, rfl, rfl, rfl, rfl, rfl, rfl, rfl, rfl, -⟩ : l8 = true ∧ l9 = true ∧ l10 = true ∧ l11 = true ∧ l12 = true ∧ l13 = true ∧ l14 = true ∧ l15 = true ∧ l16 = true ∧ l17 = true ∧ l18 = true ∧ l19 = true ∧ l20 = true ∧ l21 = true ∧ True := hds
              obtain ⟨rfl, -⟩ : l23 = false ∧ True := hus
              simp only [sel_t, sel_f] at hI
              obtain ⟨rfl, hb⟩ := hI
              refine lin_skip rfl ?_
              exact hK.out _ _ ⟨true, true, true, true, true, true, true, true, true, true, true, true, true, true, true, false, by kernel_rfl, by kernel_rfl, hb⟩
            refine lin_cons [8, 9, 10, 11, 12, 13, 14, 15, 16, 17, 18, 19, 20, 21, 22] [] rfl (by kernel_rfl) (by kernel_rfl) ?_ lin_nil
            intro L ac Wn hI hi hds hus Kc hK
            obtain ⟨l8, l9, l10, l11, l12, l13, l14, l15, l16, l17, l18, l19, l20, l21, l22, l23, rfl, hI⟩ := hI
            obtain rfl : l23 = false := hi
            obtain ⟨rfl, rfl, rfl, rfl, rfl, rfl, rfl, rfl, rfl, rfl, rfl, rfl, rfl, rfl, rfl, -⟩ : l8 = true ∧ l9 = true ∧ l10 = true ∧ l11 = true ∧ l12 = true ∧ l13 = true ∧ l14 = true ∧ l15 = true ∧ l16 = true ∧ l17 = true ∧ l18 = true ∧ l19 = true ∧ l20 = true ∧ l21 = true ∧ l22 = true ∧ True := hds
            simp only [sel_t, sel_f] at hI
            obtain ⟨rfl, hb⟩ := hI
            refine lin_yield (.bool true) rfl (by go_simp; first | done | with_reducible rfl) ?_
            exact hK.out _ _ ⟨true, true, true, true, true, true, true, true, true, true, true, true, true, true, true, true, by kernel_rfl, by kernel_rfl, hb⟩
          refine bar_of [8, 9, 10, 11, 12, 13, 14, 15, 16, 17, 18, 19, 20, 21, 22, 23] rfl (by kernel_rfl) ?_
          intro L ac Wn hI hds Kc hK
          obtain ⟨l8, l9, l10, l11, l12, l13, l14, l15, l16, l17, l18, l19, l20, l21, l22, l23, rfl, hI⟩ := hI
          obtain ⟨rfl, rfl, rfl, rfl, rfl, rfl, rfl, rfl, rfl, rfl, rfl, rfl, rfl, rfl, rfl, rfl, -⟩ : l8 = true ∧ l9 = true ∧ l10 = true ∧ l11 = true ∧ l12 = true ∧ l13 = true ∧ l14 = true ∧ l15 = true ∧ l16 = true ∧ l17 = true ∧ l18 = true ∧ l19 = true ∧ l20 = true ∧ l21 = true ∧ l22 = true ∧ l23 = true ∧ True := hds
          simp only [sel_t] at hI
          obtain ⟨rfl, hb⟩ := hI
          refine lin_yield (.bool true) rfl (by go_simp; first | done | with_reducible rfl) ?_
          refine hK.out _ _ (fun fu hf => ?_)
          clear hK Kc
          refine lin_seg 28 [25, 26, 27] 27 (fun L ac Wn => ∃ l25 l26 : Bool, L = #[true, true, true, true, true, true, true, true, true, true, true, true, true, true, true, true, true, true, true, true, true, true, true, true, true, l25, l26, false] ∧ ac = { tmps := #[.slice (some { block := lb, off := lo }) n c, .int .i64 k, undef, undef, .bool false, .slice (some { block := lb, off := lo }) n c, .int .i64 (n : Int), .bool false, .bool false, .slice (some { block := lb, off := lo }) n c, .bool false, .bool false, undef, .slice (some { block := lb, off := lo }) n c, .agg #[.bool z1, .string o1, .int .i64 e1], .slice (some { block := lb, off := lo }) n c, .agg #[.bool z1, .string o1, .int .i64 e1], .bool false, .slice (some { block := lb, off := lo }) n c, .int .i64 (n : Int), .bool false, .bool false, .int .i64 k, .bool true, .bool true, .bool true, undef, undef, .bool true, .bool true, undef, undef, undef, undef, undef, undef, undef, undef, undef, undef, undef, .bool true, .bool true, sel l25 (.bool true) (undef), sel l26 (.bool true) (undef)], defers := [] } ∧ Below (w.heap.size) w Wn) (by kernel_rfl) (by kernel_rfl) (by kernel_rfl) (by kernel_rfl) hf ?_ ?_ ?_ (by kernel_rfl) ?_ (by decide)
          · exact ⟨false, false, by kernel_rfl, by kernel_rfl, hb⟩
          · rintro L ac Wn ⟨l25, l26, rfl, _⟩
            kernel_rfl
          · refine (seg_all (b := 27) [25, 26] ?_ : ∀ j ∈ [25, 26, 27], j ≠ 27 → _)
            refine lin_cons [] [26] rfl (by kernel_rfl) (by kernel_rfl) ?_ ?_
            · intro L ac Wn hI hi hds hus Kc hK
              obtain ⟨l25, l26, rfl, hI⟩ := hI
              obtain rfl : l25 = false := hi
              obtain ⟨rfl, -⟩ : l26 = false ∧ True := hus
              simp only [sel_f] at hI
              obtain ⟨rfl, hb⟩ := hI
              go_simp
              go_fit (yawake_any _)
              rintro e V ⟨rfl, hq⟩
              exact hK.out _ _ ⟨true, false, by kernel_rfl, by kernel_rfl, (below_next hb hq)⟩
            refine lin_cons [25] [] rfl (by kernel_rfl) (by kernel_rfl) ?_ lin_nil
            intro L ac Wn hI hi hds hus Kc hK
            obtain ⟨l25, l26, rfl, hI⟩ := hI
            obtain rfl : l26 = false := hi
            obtain ⟨rfl, -⟩ : l25 = true ∧ True := hds
            simp only [sel_t, sel_f] at hI
            obtain ⟨rfl, hb⟩ := hI
            refine lin_yield (.bool true) rfl (by go_simp; first | done | with_reducible rfl) ?_
            exact hK.out _ _ ⟨true, true, by kernel_rfl, by kernel_rfl, hb⟩
          refine bar_of [25, 26] rfl (by kernel_rfl) ?_
          intro L ac Wn hI hds Kc hK
          obtain ⟨l25, l26, rfl, hI⟩ := hI
          obtain ⟨rfl, rfl, -⟩ : l25 = true ∧ l26 = true ∧ True := hds
          simp only [sel_t] at hI
          obtain ⟨rfl, hb⟩ := hI
          refine lin_yield (.bool true) rfl (by go_simp; first | done | with_reducible rfl) ?_
          refine hK.out _ _ (fun fu hf => wpAnyH_done (by kernel_rfl) ?_ _)
          clear hK Kc hf
          go_wp2
          go_ret
          exact ⟨rfl, hb⟩
        · have d2 : decide ((10 : Int) < k) = false := decide_eq_false h10
          by_cases h1000 : k < -1000
          · have d3 : decide (k < -1000) = true := decide_eq_true h1000
            go_wp2_with fail
            refine region_segs (n := 28) #[false, false, false, false, false, false, false, false, false, false, false, false, false, false, false, false, false, false, false, false, false, false, false, false, false, false, false, false] (by kernel_rfl) (by kernel_rfl) (by kernel_rfl) ?_
            intro fu hf
            refine lin_seg 28 [0, 1, 2, 3, 4, 5, 6, 7] 7 (fun L ac Wn => ∃ l0 l1 l2 l3 l4 l5 l6 : Bool, L = #[l0, l1, l2, l3, l4, l5, l6, false, false, false, false, false, false, false, false, false, false, false, false, false, false, false, false, false, false, false, false, false] ∧ ac = { tmps := #[.slice (some { block := lb, off := lo }) n c, .int .i64 k, undef, undef, .bool false, .slice (some { block := lb, off := lo }) n c, .int .i64 (n : Int), .bool false, .bool false, .slice (some { block := lb, off := lo }) n c, .bool false, .bool false, undef, .slice (some { block := lb, off := lo }) n c, .agg #[.bool z1, .string o1, .int .i64 e1], .slice (some { block := lb, off := lo }) n c, .agg #[.bool z1, .string o1, .int .i64 e1], .bool false, sel l0 (.slice (some { block := lb, off := lo }) n c) (undef), sel l1 (.int .i64 (n : Int)) (undef), sel l2 (.bool false) (undef), sel l3 (.bool false) (undef), sel l4 (.int .i64 k) (undef), sel l5 (.bool false) (undef), sel l6 (.bool false) (undef), undef, undef, undef, undef, undef, undef, undef, undef, undef, undef, undef, undef, undef, undef, undef, undef, undef, undef, undef, undef], defers := [] } ∧ Below (w.heap.size) w Wn) (by kernel_rfl) (by kernel_rfl) (by kernel_rfl) (by kernel_rfl) hf ?_ ?_ ?_ (by kernel_rfl) ?_ (by decide)
            · exact ⟨false, false, false, false, false, false, false, by kernel_rfl, by kernel_rfl, hb.drew⟩
            · rintro L ac Wn ⟨l0, l1, l2, l3, l4, l5, l6, rfl, _⟩
              kernel_rfl
            · refine (seg_all (b := 7) [0, 1, 2, 3, 4, 5, 6] ?_ : ∀ j ∈ [0, 1, 2, 3, 4, 5, 6, 7], j ≠ 7 → _)
              refine lin_cons [] [1, 2, 3, 4, 5, 6] rfl (by kernel_rfl) (by kernel_rfl) ?_ ?_
              · intro L ac Wn hI hi hds hus Kc hK
                obtain ⟨l0, l1, l2, l3, l4, l5, l6, rfl, hI⟩ := hI
                obtain rfl : l0 = false := hi
                obtain ⟨rfl, rfl, rfl, rfl, rfl, rfl, -⟩ : l1 = false ∧ l2 = false ∧ l3 = false ∧ l4 = false ∧ l5 = false ∧ l6 = false ∧ True := hus
                simp only [sel_f] at hI
                obtain ⟨rfl, hb⟩ := hI
                refine lin_yield (.slice (some { block := lb, off := lo }) n c) rfl (by go_simp; first | done | with_reducible rfl) ?_
                exact hK.out _ _ ⟨true, false, false, false, false, false, false, by kernel_rfl, by kernel_rfl, hb⟩
              refine lin_cons [0] [2, 3, 4, 5, 6] rfl (by kernel_rfl) (by kernel_rfl) ?_ ?_
              · intro L ac Wn hI hi hds hus Kc hK
                obtain ⟨l0, l1, l2, l3, l4, l5, l6, rfl, hI⟩ := hI
                obtain rfl : l1 = false := hi
                obtain ⟨rfl, -⟩ : l0 = true ∧ True := hds
                obtain ⟨rfl, rfl, rfl, rfl, rfl, -⟩ : l2 = false ∧ l3 = false ∧ l4 = false ∧ l5 = false ∧ l6 = false ∧ True := hus
                simp only [sel_t, sel_f] at hI
                obtain ⟨rfl, hb⟩ := hI
                refine lin_yield (.int .i64 (n : Int)) rfl (by go_simp; first | done | with_reducible rfl) ?_
                exact hK.out _ _ ⟨true, true, false, false, false, false, false, by kernel_rfl, by kernel_rfl, hb⟩
              refine lin_cons [0, 1] [3, 4, 5, 6] rfl (by kernel_rfl) (by kernel_rfl) ?_ ?_
              · intro L ac Wn hI hi hds hus Kc hK
                obtain ⟨l0, l1, l2, l3, l4, l5, l6, rfl, hI⟩ := hI
                obtain rfl : l2 = false := hi
                obtain ⟨rfl, rfl, -⟩ : l0 = true ∧ l1 = true ∧ True := hds
                obtain ⟨rfl, rfl, rfl, rfl, -⟩ : l3 = false ∧ l4 = false ∧ l5 = false ∧ l6 = false ∧ True := hus
                simp only [sel_t, sel_f] at hI
                obtain ⟨rfl, hb⟩ := hI
                refine lin_yield (.bool false) rfl (by go_simp; first | done | with_reducible rfl) ?_
                exact hK.out _ _ ⟨true, true, true, false, false, false, false, by kernel_rfl, by kernel_rfl, hb⟩
              refine lin_cons [0, 1, 2] [4, 5, 6] rfl (by kernel_rfl) (by kernel_rfl) ?_ ?_
              · intro L ac Wn hI hi hds hus Kc hK
                obtain ⟨l0, l1, l2, l3, l4, l5, l6, rfl, hI⟩ := hI
                obtain rfl : l3 = false := hi
                obtain ⟨rfl, rfl, rfl, -⟩ : l0 = true ∧ l1 = true ∧ l2 = true ∧ True := hds
                obtain ⟨rfl, rfl, rfl, -⟩ : l4 = false ∧ l5 = false ∧ l6 = false ∧ True := hus
                simp only [sel_t, sel_f] at hI
                obtain ⟨rfl, hb⟩ := hI
                refine lin_yield (.bool false) rfl (by go_simp; first | done | with_reducible rfl) ?_
                exact hK.out _ _ ⟨true, true, true, true, false, false, false, by kernel_rfl, by kernel_rfl, hb⟩
              refine lin_cons [0, 1, 2, 3] [5, 6] rfl (by kernel_rfl) (by kernel_rfl) ?_ ?_
              · intro L ac Wn hI hi hds hus Kc hK
                obtain ⟨l0, l1, l2, l3, l4, l5, l6, rfl, hI⟩ := hI
                obtain rfl : l4 = false := hi
                obtain ⟨rfl, rfl, rfl, rfl, -⟩ : l0 = true ∧ l1 = true ∧ l2 = true ∧ l3 = true ∧ True := hds
                obtain ⟨rfl, rfl, -⟩ : l5 = false ∧ l6 = false ∧ True := hus
                simp only [sel_t, sel_f] at hI
                obtain ⟨rfl, hb⟩ := hI
                refine lin_yield (.int .i64 k) rfl (by go_simp; first | done | with_reducible rfl) ?_
                exact hK.out _ _ ⟨true, true, true, true, true, false, false, by kernel_rfl, by kernel_rfl, hb⟩
              refine lin_cons [0, 1, 2, 3, 4] [6] rfl (by kernel_rfl) (by kernel_rfl) ?_ ?_
              · intro L ac Wn hI hi hds hus Kc hK
                obtain ⟨l0, l1, l2, l3, l4, l5, l6, rfl, hI⟩ := hI
                obtain rfl : l5 = false := hi
                obtain ⟨rfl, rfl, rfl, rfl, rfl, -⟩ : l0 = true ∧ l1 = true ∧ l2 = true ∧ l3 = true ∧ l4 = true ∧ True := hds
                obtain ⟨rfl, -⟩ : l6 = false ∧ True := hus
                simp only [sel_t, sel_f] at hI
                obtain ⟨rfl, hb⟩ := hI
                refine lin_yield (.bool false) rfl (by go_simp; first | done | with_reducible rfl) ?_
                exact hK.out _ _ ⟨true, true, true, true, true, true, false, by kernel_rfl, by kernel_rfl, hb⟩
              refine lin_cons [0, 1, 2, 3, 4, 5] [] rfl (by kernel_rfl) (by kernel_rfl) ?_ lin_nil
              intro L ac Wn hI hi hds hus Kc hK
              obtain ⟨l0, l1, l2, l3, l4, l5, l6, rfl, hI⟩ := hI
              obtain rfl : l6 = false := hi
              obtain ⟨rfl, rfl, rfl, rfl, rfl, rfl, -⟩ : l0 = true ∧ l1 = true ∧ l2 = true ∧ l3 = true ∧ l4 = true ∧ l5 = true ∧ True := hds
              simp only [sel_t, sel_f] at hI
              obtain ⟨rfl, hb⟩ := hI
              refine lin_yield (.bool false) rfl (by go_simp; first | done | with_reducible rfl) ?_
              exact hK.out _ _ ⟨true, true, true, true, true, true, true, by kernel_rfl, by kernel_rfl, hb⟩
            refine bar_of [0, 1, 2, 3, 4, 5, 6] rfl (by kernel_rfl) ?_
            intro L ac Wn hI hds Kc hK
            obtain ⟨l0, l1, l2, l3, l4, l5, l6, rfl, hI⟩ := hI
            obtain ⟨rfl, rfl, rfl, rfl, rfl, rfl, rfl, -⟩ : l0 = true ∧ l1 = true ∧ l2 = true ∧ l3 = true ∧ l4 = true ∧ l5 = true ∧ l6 = true ∧ True := hds
            simp only [sel_t] at hI
            obtain ⟨rfl, hb⟩ := hI
            refine lin_yield (.bool false) rfl (by go_simp; first | done | with_reducible rfl) ?_
            refine hK.out _ _ (fun fu hf => ?_)
            clear hK Kc
            refine lin_seg 28 [8, 9, 10, 11, 12, 13, 14, 15, 16, 17, 18, 19, 20, 21, 22, 23, 24] 24 (fun L ac Wn => ∃ l8 l9 l10 l11 l12 l13 l14 l15 l16 l17 l18 l19 l20 l21 l22 l23 : Bool, L = #[true, true, true, true, true, true, true, true, l8, l9, l10, l11, l12, l13, l14, l15, l16, l17, l18, l19, l20, l21, l22, l23, false, false, false, false] ∧ ac = { tmps := #[.slice (some { block := lb, off := lo }) n c, .int .i64 k, undef, undef, .bool false, .slice (some { block := lb, off := lo }) n c, .int .i64 (n : Int), .bool false, .bool false, .slice (some { block := lb, off := lo }) n c, .bool false, .bool false, undef, .slice (some { block := lb, off := lo }) n c, .agg #[.bool z1, .string o1, .int .i64 e1], .slice (some { block := lb, off := lo }) n c, .agg #[.bool z1, .string o1, .int .i64 e1], .bool false, .slice (some { block := lb, off := lo }) n c, .int .i64 (n : Int), .bool false, .bool false, .int .i64 k, .bool false, .bool false, .bool false, sel l8 (.int .i64 k) (undef), sel l9 (.bool true) (undef), sel l10 (.bool true) (undef), sel l11 (.bool true) (undef), sel l12 (undef) (undef), sel l13 (undef) (undef), sel l14 (undef) (undef), sel l15 (undef) (undef), sel l16 (undef) (undef), sel l17 (undef) (undef), sel l18 (undef) (undef), sel l19 (undef) (undef), sel l20 (undef) (undef), sel l21 (undef) (undef), sel l22 (undef) (undef), sel l23 (.bool true) (undef), undef, undef, undef], defers := [] } ∧ Below (w.heap.size) w Wn) (by kernel_rfl) (by kernel_rfl) (by kernel_rfl) (by kernel_rfl) hf ?_ ?_ ?_ (by kernel_rfl) ?_ (by decide)
            · exact ⟨false, false, false, false, false, false, false, false, false, false, false, false, false, false, false, false, by kernel_rfl, by kernel_rfl, hb⟩
            · rintro L ac Wn ⟨l8, l9, l10, l11, l12, l13, l14, l15, l16, l17, l18, l19, l20, l21, l22, l23, rfl, _⟩
              kernel_rfl
            · refine (seg_all (b := 24) [8, 9, 10, 11, 12, 13, 14, 15, 16, 17, 18, 19, 20, 21, 22, 23] ?_ : ∀ j ∈ [8, 9, 10, 11, 12, 13, 14, 15, 16, 17, 18, 19, 20, 21, 22, 23, 24], j ≠ 24 → _)
              refine lin_cons [] [9, 10, 11, 12, 13, 14, 15, 16, 17, 18, 19, 20, 21, 22, 23] rfl (by kernel_rfl) (by kernel_rfl) ?_ ?_
              · intro L ac Wn hI hi hds hus Kc hK
                obtain ⟨l8, l9, l10, l11, l12, l13, l14, l15, l16, l17, l18, l19, l20, l21, l22, l23, rfl, hI⟩ := hI
                obtain rfl : l8 = false := hi
                obtain ⟨rfl, rfl, rfl, rfl, rfl, rfl, rfl, rfl, rfl, rfl, rfl, rfl, rfl, rfl, rfl, -⟩ : l9 = false ∧ l10 = false ∧ l11 = false ∧ l12 = false ∧ l13 = false ∧ l14 = false ∧ l15 = false ∧ l16 = false ∧ l17 = false ∧ l18 = false ∧ l19 = false ∧ l20 = false ∧ l21 = false ∧ l22 = false ∧ l23 = false ∧ True := hus
                simp only [sel_f] at hI
                obtain ⟨rfl, hb⟩ := hI
                refine lin_yield (.int .i64 k) rfl (by go_simp; first | done | with_reducible rfl) ?_
                exact hK.out _ _ ⟨true, false, false, false, false, false, false, false, false, false, false, false, false, false, false, false, by kernel_rfl, by kernel_rfl, hb⟩
              refine lin_cons [8] [10, 11, 12, 13, 14, 15, 16, 17, 18, 19, 20, 21, 22, 23] rfl (by kernel_rfl) (by kernel_rfl) ?_ ?_
              · intro L ac Wn hI hi hds hus Kc hK
                obtain ⟨l8, l9, l10, l11, l12, l13, l14, l15, l16, l17, l18, l19, l20, l21, l22, l23, rfl, hI⟩ := hI
                obtain rfl : l9 = false := hi
                obtain ⟨rfl, -⟩ : l8 = true ∧ True := hds
                obtain ⟨rfl, rfl, rfl, rfl, rfl, rfl, rfl, rfl, rfl, rfl, rfl, rfl, rfl, rfl, -⟩ : l10 = false ∧ l11 = false ∧ l12 = false ∧ l13 = false ∧ l14 = false ∧ l15 = false ∧ l16 = false ∧ l17 = false ∧ l18 = false ∧ l19 = false ∧ l20 = false ∧ l21 = false ∧ l22 = false ∧ l23 = false ∧ True := hus
                simp only [sel_t, sel_f] at hI
                obtain ⟨rfl, hb⟩ := hI
                refine lin_yield (.bool true) rfl (by go_simp; first | done | with_reducible rfl) ?_
                exact hK.out _ _ ⟨true, true, false, false, false, false, false, false, false, false, false, false, false, false, false, false, by kernel_rfl, by kernel_rfl, hb⟩
              refine lin_cons [8, 9] [11, 12, 13, 14, 15, 16, 17, 18, 19, 20, 21, 22, 23] rfl (by kernel_rfl) (by kernel_rfl) ?_ ?_
              · intro L ac Wn hI hi hds hus Kc hK
                obtain ⟨l8, l9, l10, l11, l12, l13, l14, l15, l16, l17, l18, l19, l20, l21, l22, l23, rfl, hI⟩ := hI
                obtain rfl : l10 = false := hi
                obtain ⟨rfl, rfl, -⟩ : l8 = true ∧ l9 = true ∧ True := hds
                obtain ⟨rfl, rfl, rfl, rfl, rfl, rfl, rfl, rfl, rfl, rfl, rfl, rfl, rfl, -⟩ : l11 = false ∧ l12 = false ∧ l13 = false ∧ l14 = false ∧ l15 = false ∧ l16 = false ∧ l17 = false ∧ l18 = false ∧ l19 = false ∧ l20 = false ∧ l21 = false ∧ l22 = false ∧ l23 = false ∧ True := hus
                simp only [sel_t, sel_f] at hI
                obtain ⟨rfl, hb⟩ := hI
                refine lin_yield (.bool true) rfl (by go_simp; first | done | with_reducible rfl) ?_
                exact hK.out _ _ ⟨true, true, true, false, false, false, false, false, false, false, false, false, false, false, false, false, by kernel_rfl, by kernel_rfl, hb⟩
              refine lin_cons [8, 9, 10] [12, 13, 14, 15, 16, 17, 18, 19, 20, 21, 22, 23] rfl (by kernel_rfl) (by kernel_rfl) ?_ ?_
              · intro L ac Wn hI hi hds hus Kc hK
                obtain ⟨l8, l9, l10, l11, l12, l13, l14, l15, l16, l17, l18, l19, l20, l21, l22, l23, rfl, hI⟩ := hI
                obtain rfl : l11 = false := hi
                obtain ⟨rfl, rfl, rfl, -⟩ : l8 = true ∧ l9 = true ∧ l10 = true ∧ True := hds
                obtain ⟨rfl, rfl, rfl, rfl, rfl, rfl, rfl, rfl, rfl, rfl, rfl, rfl, -⟩ : l12 = false ∧ l13 = false ∧ l14 = false ∧ l15 = false ∧ l16 = false ∧ l17 = false ∧ l18 = false ∧ l19 = false ∧ l20 = false ∧ l21 = false ∧ l22 = false ∧ l23 = false ∧ True := hus
                simp only [sel_t, sel_f] at hI
                obtain ⟨rfl, hb⟩ := hI
                refine lin_yield (.bool true) rfl (by go_simp; first | done | with_reducible rfl) ?_
                exact hK.out _ _ ⟨true, true, true, true, false, false, false, false, false, false, false, false, false, false, false, false, by kernel_rfl, by kernel_rfl, hb⟩
              refine lin_cons [8, 9, 10, 11] [13, 14, 16, 21, 22, 23] rfl (by kernel_rfl) (by kernel_rfl) ?_ ?_
              · intro L ac Wn hI hi hds hus Kc hK
                obtain ⟨l8, l9, l10, l11, l12, l13, l14, l15, l16, l17, l18, l19, l20, l21, l22, l23, rfl, hI⟩ := hI
                obtain rfl : l12 = false := hi
                obtain ⟨rfl, rfl, rfl, rfl, -⟩ : l8 = true ∧ l9 = true ∧ l10 = true ∧ l11 = true ∧ True := hds
                obtain ⟨rfl, rfl, rfl, rfl, rfl, rfl, -⟩ : l13 = false ∧ l14 = false ∧ l16 = false ∧ l21 = false ∧ l22 = false ∧ l23 = false ∧ True := hus
                simp only [sel_t, sel_f] at hI
                obtain ⟨rfl, hb⟩ := hI
                refine lin_skip rfl ?_
                exact hK.out _ _ ⟨true, true, true, true, true, false, false, l15, false, l17, l18, l19, l20, false, false, false, by kernel_rfl, by kernel_rfl, hb⟩
              refine lin_cons [8, 9, 10, 11, 12] [14, 16, 21, 22, 23] rfl (by kernel_rfl) (by kernel_rfl) ?_ ?_
              · intro L ac Wn hI hi hds hus Kc hK
                obtain ⟨l8, l9, l10, l11, l12, l13, l14, l15, l16, l17, l18, l19, l20, l21, l22, l23, rfl, hI⟩ := hI
                obtain rfl : l13 = false := hi
                obtain ⟨rfl, rfl, rfl, rfl, rfl, -⟩ : l8 = true ∧ l9 = true ∧ l10 = true ∧ l11 = true ∧ l12 = true ∧ True := hds
                obtain ⟨rfl, rfl, rfl, rfl, rfl, -⟩ : l14 = false ∧ l16 = false ∧ l21 = false ∧ l22 = false ∧ l23 = false ∧ True := hus
                simp only [sel_t, sel_f] at hI
                obtain ⟨rfl, hb⟩ := hI
                refine lin_skip rfl ?_
                exact hK.out _ _ ⟨true, true, true, true, true, true, false, l15, false, l17, l18, l19, l20, false, false, false, by kernel_rfl, by kernel_rfl, hb⟩
              refine lin_cons [8, 9, 10, 11, 12, 13] [16, 21, 22, 23] rfl (by kernel_rfl) (by kernel_rfl) ?_ ?_
              · intro L ac Wn hI hi hds hus Kc hK
                obtain ⟨l8, l9, l10, l11, l12, l13, l14, l15, l16, l17, l18, l19, l20, l21, l22, l23, rfl, hI⟩ := hI
                obtain rfl : l14 = false := hi
                obtain ⟨rfl, rfl, rfl, rfl, rfl, rfl, -⟩ : l8 = true ∧ l9 = true ∧ l10 = true ∧ l11 = true ∧ l12 = true ∧ l13 = true ∧ True := hds
                obtain ⟨rfl, rfl, rfl, rfl, -⟩ : l16 = false ∧ l21 = false ∧ l22 = false ∧ l23 = false ∧ True := hus
                simp only [sel_t, sel_f] at hI
                obtain ⟨rfl, hb⟩ := hI
                refine lin_skip rfl ?_
                exact hK.out _ _ ⟨true, true, true, true, true, true, true, l15, false, l17, l18, l19, l20, false, false, false, by kernel_rfl, by kernel_rfl, hb⟩
              refine lin_cons [8, 9, 10, 11] [16, 21, 22, 23] rfl (by kernel_rfl) (by kernel_rfl) ?_ ?_
              · intro L ac Wn hI hi hds hus Kc hK
                obtain ⟨l8, l9, l10, l11, l12, l13, l14, l15, l16, l17, l18, l19, l20, l21, l22, l23, rfl, hI⟩ := hI
                obtain rfl : l15 = false := hi
                obtain ⟨rfl, rfl, rfl, rfl, -⟩ : l8 = true ∧ l9 = true ∧ l10 = true ∧ l11 = true ∧ True := hds
                obtain ⟨rfl, rfl, rfl, rfl, -⟩ : l16 = false ∧ l21 = false ∧ l22 = false ∧ l23 = false ∧ True := hus
                simp only [sel_t, sel_f] at hI
                obtain ⟨rfl, hb⟩ := hI
                refine lin_skip rfl ?_
                exact hK.out _ _ ⟨true, true, true, true, l12, l13, l14, true, false, l17, l18, l19, l20, false, false, false, by kernel_rfl, by kernel_rfl, hb⟩
              refine lin_cons [8, 9, 10, 11, 12, 13, 14, 15] [21, 22, 23] rfl (by kernel_rfl) (by kernel_rfl) ?_ ?_
              · intro L ac Wn hI hi hds hus Kc hK
                obtain ⟨l8, l9, l10, l11, l12, l13, l14, l15, l16, l17, l18, l19, l20, l21, l22, l23, rfl, hI⟩ := hI
                obtain rfl : l16 = false := hi
                obtain ⟨rfl, rfl, rfl, rfl, rfl, rfl, rfl, rfl, -⟩ : l8 = true ∧ l9 = true ∧ l10 = true ∧ l11 = true ∧ l12 = true ∧ l13 = true ∧ l14 = true ∧ l15 = true ∧ True := hds
                obtain ⟨rfl, rfl, rfl, -⟩ : l21 = false ∧ l22 = false ∧ l23 = false ∧ True := hus
                simp only [sel_t, sel_f] at hI
                obtain ⟨rfl, hb⟩ := hI
                refine lin_skip rfl ?_
                exact hK.out _ _ ⟨true, true, true, true, true, true, true, true, true, l17, l18, l19, l20, false, false, false, by kernel_rfl, by kernel_rfl, hb⟩
              refine lin_cons [8, 9, 10, 11] [18, 19, 21, 22, 23] rfl (by kernel_rfl) (by kernel_rfl) ?_ ?_
              · intro L ac Wn hI hi hds hus Kc hK
                obtain ⟨l8, l9, l10, l11, l12, l13, l14, l15, l16, l17, l18, l19, l20, l21, l22, l23, rfl, hI⟩ := hI
                obtain rfl : l17 = false := hi
                obtain ⟨rfl, rfl, rfl, rfl, -⟩ : l8 = true ∧ l9 = true ∧ l10 = true ∧ l11 = true ∧ True := hds
                obtain ⟨rfl, rfl, rfl, rfl, rfl, -⟩ : l18 = false ∧ l19 = false ∧ l21 = false ∧ l22 = false ∧ l23 = false ∧ True := hus
                simp only [sel_t, sel_f] at hI
                obtain ⟨rfl, hb⟩ := hI
                refine lin_skip rfl ?_
                exact hK.out _ _ ⟨true, true, true, true, l12, l13, l14, l15, l16, true, false, false, l20, false, false, false, by kernel_rfl, by kernel_rfl, hb⟩
              refine lin_cons [8, 9, 10, 11, 17] [19, 21, 22, 23] rfl (by kernel_rfl) (by kernel_rfl) ?_ ?_
              · intro L ac Wn hI hi hds hus Kc hK
                obtain ⟨l8, l9, l10, l11, l12, l13, l14, l15, l16, l17, l18, l19, l20, l21, l22, l23, rfl, hI⟩ := hI
                obtain rfl : l18 = false := hi
                obtain ⟨rfl, rfl, rfl, rfl, rfl, -⟩ : l8 = true ∧ l9 = true ∧ l10 = true ∧ l11 = true ∧ l17 = true ∧ True := hds
                obtain ⟨rfl, rfl, rfl, rfl, -⟩ : l19 = false ∧ l21 = false ∧ l22 = false ∧ l23 = false ∧ True := hus
                simp only [sel_t, sel_f] at hI
                obtain ⟨rfl, hb⟩ := hI
                refine lin_skip rfl ?_
                exact hK.out _ _ ⟨true, true, true, true, l12, l13, l14, l15, l16, true, true, false, l20, false, false, false, by kernel_rfl, by kernel_rfl, hb⟩
              refine lin_cons [8, 9, 10, 11, 17, 18] [21, 22, 23] rfl (by kernel_rfl) (by kernel_rfl) ?_ ?_
              · intro L ac Wn hI hi hds hus Kc hK
                obtain ⟨l8, l9, l10, l11, l12, l13, l14, l15, l16, l17, l18, l19, l20, l21, l22, l23, rfl, hI⟩ := hI
                obtain rfl : l19 = false := hi
                obtain ⟨rfl, rfl, rfl, rfl, rfl, rfl, -⟩ : l8 = true ∧ l9 = true ∧ l10 = true ∧ l11 = true ∧ l17 = true ∧ l18 = true ∧ True := hds
                obtain ⟨rfl, rfl, rfl, -⟩ : l21 = false ∧ l22 = false ∧ l23 = false ∧ True := hus
                simp only [sel_t, sel_f] at hI
                obtain ⟨rfl, hb⟩ := hI
                refine lin_skip rfl ?_
                exact hK.out _ _ ⟨true, true, true, true, l12, l13, l14, l15, l16, true, true, true, l20, false, false, false, by kernel_rfl, by kernel_rfl, hb⟩
              refine lin_cons [8, 9, 10, 11] [21, 22, 23] rfl (by kernel_rfl) (by kernel_rfl) ?_ ?_
              · intro L ac Wn hI hi hds hus Kc hK
                obtain ⟨l8, l9, l10, l11, l12, l13, l14, l15, l16, l17, l18, l19, l20, l21, l22, l23, rfl, hI⟩ := hI
                obtain rfl : l20 = false := hi
                obtain ⟨rfl, rfl, rfl, rfl, -⟩ : l8 = true ∧ l9 = true ∧ l10 = true ∧ l11 = true ∧ True := hds
                obtain ⟨rfl, rfl, rfl, -⟩ : l21 = false ∧ l22 = false ∧ l23 = false ∧ True := hus
                simp only [sel_t, sel_f] at hI
                obtain ⟨rfl, hb⟩ := hI
                refine lin_skip rfl ?_
                exact hK.out _ _ ⟨true, true, true, true, l12, l13, l14, l15, l16, l17, l18, l19, true, false, false, false, by kernel_rfl, by kernel_rfl, hb⟩
              refine lin_cons [8, 9, 10, 11, 12, 13, 14, 15, 16, 17, 18, 19, 20] [22, 23] rfl (by kernel_rfl) (by kernel_rfl) ?_ ?_
              · intro L ac Wn hI hi hds hus Kc hK
                obtain ⟨l8, l9, l10, l11, l12, l13, l14, l15, l16, l17, l18, l19, l20, l21, l22, l23, rfl, hI⟩ := hI
                obtain rfl : l21 = false := hi
                obtain ⟨rfl, rfl, rfl, rfl, rfl, rfl, rfl, rfl, rfl, rfl, rfl, rfl, rfl, -⟩ : l8 = true ∧ l9 = true ∧ l10 = true ∧ l11 = true ∧ l12 = true ∧ l13 = true ∧ l14 = true ∧ l15 = true ∧ l16 = true ∧ l17 = true ∧ l18 = true ∧ l19 = true ∧ l20 = true ∧ True := hds
                obtain ⟨rfl, rfl, -⟩ : l22 = false ∧ l23 = false ∧ True := hus
                simp only [sel_t, sel_f] at hI
                obtain ⟨rfl, hb⟩ := hI
                refine lin_skip rfl ?_
                exact hK.out _ _ ⟨true, true, true, true, true, true, true, true, true, true, true, true, true, true, false, false, by kernel_rfl, by kernel_rfl, hb⟩
              refine lin_cons [8, 9, 10, 11, 12, 13, 14, 15, 16, 17, 18, 19, 20, 21] [23] rfl (by kernel_rfl) (by kernel_rfl) ?_ ?_
              · intro L ac Wn hI hi hds hus Kc hK
                obtain ⟨l8, l9, l10, l11, l12, l13, l14, l15, l16, l17, l18, l19, l20, l21, l22, l23, rfl, hI⟩ := hI
                obtain rfl : l22 = false := hi
                obtain ⟨rfl, rfl, rfl, rfl, rfl, rfl, rfl, rfl, rfl, rfl, rfl, rfl, rfl, rfl, -⟩ : l8 = true ∧ l9 = true ∧ l10 = true ∧ l11 = true ∧ l12 = true ∧ l13 = true ∧ l14 = true ∧ l15 = true ∧ l16 = true ∧ l17 = true ∧ l18 = true ∧ l19 = true ∧ l20 = true ∧ l21 = true ∧ True := hds
                obtain ⟨rfl, -⟩ : l23 = false ∧ True := hus
                simp only [sel_t, sel_f] at hI
                obtain ⟨rfl, hb⟩ := hI
                refine lin_skip rfl ?_
                exact hK.out _ _ ⟨true, true, true, true, true, true, true, true, true, true, true, true, true, true, true, false, by kernel_rfl, by kernel_rfl, hb⟩
              refine lin_cons [8, 9, 10, 11, 12, 13, 14, 15, 16, 17, 18, 19, 20, 21, 22] [] rfl (by kernel_rfl) (by kernel_rfl) ?_ lin_nil
              intro L ac Wn hI hi hds hus Kc hK
              obtain ⟨l8, l9, l10, l11, l12, l13, l14, l15, l16, l17, l18, l19, l20, l21, l22, l23, rfl, hI⟩ := hI
              obtain rfl : l23 = false := hi
              obtain ⟨rfl, rfl, rfl, rfl, rfl, rfl, rfl, rfl, rfl, rfl, rfl, rfl, rfl, rfl, rfl, -⟩ : l8 = true ∧ l9 = true ∧ l10 = true ∧ l11 = true ∧ l12 = true ∧ l13 = true ∧ l14 = true ∧ l15 = true ∧ l16 = true ∧ l17 = true ∧ l18 = true ∧ l19 = true ∧ l20 = true ∧ l21 = true ∧ l22 = true ∧ True := hds
              simp only [sel_t, sel_f] at hI
              obtain ⟨rfl, hb⟩ := hI
              refine lin_yield (.bool true) rfl (by go_simp; first | done | with_reducible rfl) ?_
              exact hK.out _ _ ⟨true, true, true, true, true, true, true, true, true, true, true, true, true, true, true, true, by kernel_rfl, by kernel_rfl, hb⟩
            refine bar_of [8, 9, 10, 11, 12, 13, 14, 15, 16, 17, 18, 19, 20, 21, 22, 23] rfl (by kernel_rfl) ?_
            intro L ac Wn hI hds Kc hK
            obtain ⟨l8, l9, l10, l11, l12, l13, l14, l15, l16, l17, l18, l19, l20, l21, l22, l23, rfl, hI⟩ := hI
            obtain ⟨rfl, rfl, rfl, rfl, rfl, rfl, rfl, rfl, rfl, rfl, rfl, rfl, rfl, rfl, rfl, rfl, -⟩ : l8 = true ∧ l9 = true ∧ l10 = true ∧ l11 = true ∧ l12 = true ∧ l13 = true ∧ l14 = true ∧ l15 = true ∧ l16 = true ∧ l17 = true ∧ l18 = true ∧ l19 = true ∧ l20 = true ∧ l21 = true ∧ l22 = true ∧ l23 = true ∧ True := hds
            simp only [sel_t] at hI
            obtain ⟨rfl, hb⟩ := hI
            refine lin_yield (.bool true) rfl (by go_simp; first | done | with_reducible rfl) ?_
            refine hK.out _ _ (fun fu hf => ?_)
            clear hK Kc
            refine lin_seg 28 [25, 26, 27] 27 (fun L ac Wn => ∃ l25 l26 : Bool, L = #[true, true, true, true, true, true, true, true, true, true, true, true, true, true, true, true, true, true, true, true, true, true, true, true, true, l25, l26, false] ∧ ac = { tmps := #[.slice (some { block := lb, off := lo }) n c, .int .i64 k, undef, undef, .bool false, .slice (some { block := lb, off := lo }) n c, .int .i64 (n : Int), .bool false, .bool false, .slice (some { block := lb, off := lo }) n c, .bool false, .bool false, undef, .slice (some { block := lb, off := lo }) n c, .agg #[.bool z1, .string o1, .int .i64 e1], .slice (some { block := lb, off := lo }) n c, .agg #[.bool z1, .string o1, .int .i64 e1], .bool false, .slice (some { block := lb, off := lo }) n c, .int .i64 (n : Int), .bool false, .bool false, .int .i64 k, .bool false, .bool false, .bool false, .int .i64 k, .bool true, .bool true, .bool true, undef, undef, undef, undef, undef, undef, undef, undef, undef, undef, undef, .bool true, .bool true, sel l25 (.bool true) (undef), sel l26 (.bool true) (undef)], defers := [] } ∧ Below (w.heap.size) w Wn) (by kernel_rfl) (by kernel_rfl) (by kernel_rfl) (by kernel_rfl) hf ?_ ?_ ?_ (by kernel_rfl) ?_ (by decide)
            · exact ⟨false, false, by kernel_rfl, by kernel_rfl, hb⟩
            · rintro L ac Wn ⟨l25, l26, rfl, _⟩
              kernel_rfl
            · refine (seg_all (b := 27) [25, 26] ?_ : ∀ j ∈ [25, 26, 27], j ≠ 27 → _)
              refine lin_cons [] [26] rfl (by kernel_rfl) (by kernel_rfl) ?_ ?_
              · intro L ac Wn hI hi hds hus Kc hK
                obtain ⟨l25, l26, rfl, hI⟩ := hI
                obtain rfl : l25 = false := hi
                obtain ⟨rfl, -⟩ : l26 = false ∧ True := hus
                simp only [sel_f] at hI
                obtain ⟨rfl, hb⟩ := hI
                go_simp
                go_fit (yawake_any _)
                rintro e V ⟨rfl, hq⟩
                exact hK.out _ _ ⟨true, false, by kernel_rfl, by kernel_rfl, (below_next hb hq)⟩
              refine lin_cons [25] [] rfl (by kernel_rfl) (by kernel_rfl) ?_ lin_nil
              intro L ac Wn hI hi hds hus Kc hK
              obtain ⟨l25, l26, rfl, hI⟩ := hI
              obtain rfl : l26 = false := hi
              obtain ⟨rfl, -⟩ : l25 = true ∧ True := hds
              simp only [sel_t, sel_f] at hI
              obtain ⟨rfl, hb⟩ := hI
              refine lin_yield (.bool true) rfl (by go_simp; first | done | with_reducible rfl) ?_
              exact hK.out _ _ ⟨true, true, by kernel_rfl, by kernel_rfl, hb⟩
            refine bar_of [25, 26] rfl (by kernel_rfl) ?_
            intro L ac Wn hI hds Kc hK
            obtain ⟨l25, l26, rfl, hI⟩ := hI
            obtain ⟨rfl, rfl, -⟩ : l25 = true ∧ l26 = true ∧ True := hds
            simp only [sel_t] at hI
            obtain ⟨rfl, hb⟩ := hI
            refine lin_yield (.bool true) rfl (by go_simp; first | done | with_reducible rfl) ?_
            refine hK.out _ _ (fun fu hf => wpAnyH_done (by kernel_rfl) ?_ _)
            clear hK Kc hf
            go_wp2
            go_ret
            exact ⟨rfl, hb⟩
          · have d3 : decide (k < -1000) = false := decide_eq_false h1000
            obtain ⟨z9, o9, e9, k9⟩ := df_some (nv m1 s1 e5 ^ k.toNat)
            have HQ := Lib.hid k9
            clear k9
            go_wp2_with fail
            refine region_segs (n := 28) #[false, false, false, false, false, false, false, false, false, false, false, false, false, false, false, false, false, false, false, false, false, false, false, false, false, false, false, false] (by kernel_rfl) (by kernel_rfl) (by kernel_rfl) ?_
            intro fu hf
            refine lin_seg 28 [0, 1, 2, 3, 4, 5, 6, 7] 7 (fun L ac Wn => ∃ l0 l1 l2 l3 l4 l5 l6 : Bool, L = #[l0, l1, l2, l3, l4, l5, l6, false, false, false, false, false, false, false, false, false, false, false, false, false, false, false, false, false, false, false, false, false] ∧ ac = { tmps := #[.slice (some { block := lb, off := lo }) n c, .int .i64 k, undef, undef, .bool false, .slice (some { block := lb, off := lo }) n c, .int .i64 (n : Int), .bool false, .bool false, .slice (some { block := lb, off := lo }) n c, .bool false, .bool false, undef, .slice (some { block := lb, off := lo }) n c, .agg #[.bool z1, .string o1, .int .i64 e1], .slice (some { block := lb, off := lo }) n c, .agg #[.bool z1, .string o1, .int .i64 e1], .bool false, sel l0 (.slice (some { block := lb, off := lo }) n c) (undef), sel l1 (.int .i64 (n : Int)) (undef), sel l2 (.bool false) (undef), sel l3 (.bool false) (undef), sel l4 (.int .i64 k) (undef), sel l5 (.bool false) (undef), sel l6 (.bool false) (undef), undef, undef, undef, undef, undef, undef, undef, undef, undef, undef, undef, undef, undef, undef, undef, undef, undef, undef, undef, undef], defers := [] } ∧ Below (w.heap.size) w Wn) (by kernel_rfl) (by kernel_rfl) (by kernel_rfl) (by kernel_rfl) hf ?_ ?_ ?_ (by kernel_rfl) ?_ (by decide)
            · exact ⟨false, false, false, false, false, false, false, by kernel_rfl, by kernel_rfl, hb.drew⟩
            · rintro L ac Wn ⟨l0, l1, l2, l3, l4, l5, l6, rfl, _⟩
              kernel_rfl
            · refine (seg_all (b := 7) [0, 1, 2, 3, 4, 5, 6] ?_ : ∀ j ∈ [0, 1, 2, 3, 4, 5, 6, 7], j ≠ 7 → _)
              refine lin_cons [] [1, 2, 3, 4, 5, 6] rfl (by kernel_rfl) (by kernel_rfl) ?_ ?_
              · intro L ac Wn hI hi hds hus Kc hK
                obtain ⟨l0, l1, l2, l3, l4, l5, l6, rfl, hI⟩ := hI
                obtain rfl : l0 = false := hi
                obtain ⟨rfl, rfl, rfl, rfl, rfl, rfl, -⟩ : l1 = false ∧ l2 = false ∧ l3 = false ∧ l4 = false ∧ l5 = false ∧ l6 = false ∧ True := hus
                simp only [sel_f] at hI
                obtain ⟨rfl, hb⟩ := hI
                refine lin_yield (.slice (some { block := lb, off := lo }) n c) rfl (by go_simp; first | done | with_reducible rfl) ?_
                exact hK.out _ _ ⟨true, false, false, false, false, false, false, by kernel_rfl, by kernel_rfl, hb⟩
              refine lin_cons [0] [2, 3, 4, 5, 6] rfl (by kernel_rfl) (by kernel_rfl) ?_ ?_
              · intro L ac Wn hI hi hds hus Kc hK
                obtain ⟨l0, l1, l2, l3, l4, l5, l6, rfl, hI⟩ := hI
                obtain rfl : l1 = false := hi
                obtain ⟨rfl, -⟩ : l0 = true ∧ True := hds
                obtain ⟨rfl, rfl, rfl, rfl, rfl, -⟩ : l2 = false ∧ l3 = false ∧ l4 = false ∧ l5 = false ∧ l6 = false ∧ True := hus
                simp only [sel_t, sel_f] at hI
                obtain ⟨rfl, hb⟩ := hI
                refine lin_yield (.int .i64 (n : Int)) rfl (by go_simp; first | done | with_reducible rfl) ?_
                exact hK.out _ _ ⟨true, true, false, false, false, false, false, by kernel_rfl, by kernel_rfl, hb⟩
              refine lin_cons [0, 1] [3, 4, 5, 6] rfl (by kernel_rfl) (by kernel_rfl) ?_ ?_
              · intro L ac Wn hI hi hds hus Kc hK
                obtain ⟨l0, l1, l2, l3, l4, l5, l6, rfl, hI⟩ := hI
                obtain rfl : l2 = false := hi
                obtain ⟨rfl, rfl, -⟩ : l0 = true ∧ l1 = true ∧ True := hds
                obtain ⟨rfl, rfl, rfl, rfl, -⟩ : l3 = false ∧ l4 = false ∧ l5 = false ∧ l6 = false ∧ True := hus
                simp only [sel_t, sel_f] at hI
                obtain ⟨rfl, hb⟩ := hI
                refine lin_yield (.bool false) rfl (by go_simp; first | done | with_reducible rfl) ?_
                exact hK.out _ _ ⟨true, true, true, false, false, false, false, by kernel_rfl, by kernel_rfl, hb⟩
              refine lin_cons [0, 1, 2] [4, 5, 6] rfl (by kernel_rfl) (by kernel_rfl) ?_ ?_
              · intro L ac Wn hI hi hds hus Kc hK
                obtain ⟨l0, l1, l2, l3, l4, l5, l6, rfl, hI⟩ := hI
                obtain rfl : l3 = false := hi
                obtain ⟨rfl, rfl, rfl, -⟩ : l0 = true ∧ l1 = true ∧ l2 = true ∧ True := hds
                obtain ⟨rfl, rfl, rfl, -⟩ : l4 = false ∧ l5 = false ∧ l6 = false ∧ True := hus
                simp only [sel_t, sel_f] at hI
                obtain ⟨rfl, hb⟩ := hI
                refine lin_yield (.bool false) rfl (by go_simp; first | done | with_reducible rfl) ?_
                exact hK.out _ _ ⟨true, true, true, true, false, false, false, by kernel_rfl, by kernel_rfl, hb⟩
              refine lin_cons [0, 1, 2, 3] [5, 6] rfl (by kernel_rfl) (by kernel_rfl) ?_ ?_
              · intro L ac Wn hI hi hds hus Kc hK
                obtain ⟨l0, l1, l2, l3, l4, l5, l6, rfl, hI⟩ := hI
                obtain rfl : l4 = false := hi
                obtain ⟨rfl, rfl, rfl, rfl, -⟩ : l0 = true ∧ l1 = true ∧ l2 = true ∧ l3 = true ∧ True := hds
                obtain ⟨rfl, rfl, -⟩ : l5 = false ∧ l6 = false ∧ True := hus
                simp only [sel_t, sel_f] at hI
                obtain ⟨rfl, hb⟩ := hI
                refine lin_yield (.int .i64 k) rfl (by go_simp; first | done | with_reducible rfl) ?_
                exact hK.out _ _ ⟨true, true, true, true, true, false, false, by kernel_rfl, by kernel_rfl, hb⟩
              refine lin_cons [0, 1, 2, 3, 4] [6] rfl (by kernel_rfl) (by kernel_rfl) ?_ ?_
              · intro L ac Wn hI hi hds hus Kc hK
                obtain ⟨l0, l1, l2, l3, l4, l5, l6, rfl, hI⟩ := hI
                obtain rfl : l5 = false := hi
                obtain ⟨rfl, rfl, rfl, rfl, rfl, -⟩ : l0 = true ∧ l1 = true ∧ l2 = true ∧ l3 = true ∧ l4 = true ∧ True := hds
                obtain ⟨rfl, -⟩ : l6 = false ∧ True := hus
                simp only [sel_t, sel_f] at hI
                obtain ⟨rfl, hb⟩ := hI
                refine lin_yield (.bool false) rfl (by go_simp; first | done | with_reducible rfl) ?_
                exact hK.out _ _ ⟨true, true, true, true, true, true, false, by kernel_rfl, by kernel_rfl, hb⟩
              refine lin_cons [0, 1, 2, 3, 4, 5] [] rfl (by kernel_rfl) (by kernel_rfl) ?_ lin_nil
              intro L ac Wn hI hi hds hus Kc hK
              obtain ⟨l0, l1, l2, l3, l4, l5, l6, rfl, hI⟩ := hI
              obtain rfl : l6 = false := hi
              obtain ⟨rfl, rfl, rfl, rfl, rfl, rfl, -⟩ : l0 = true ∧ l1 = true ∧ l2 = true ∧ l3 = true ∧ l4 = true ∧ l5 = true ∧ True := hds
              simp only [sel_t, sel_f] at hI
              obtain ⟨rfl, hb⟩ := hI
              refine lin_yield (.bool false) rfl (by go_simp; first | done | with_reducible rfl) ?_
              exact hK.out _ _ ⟨true, true, true, true, true, true, true, by kernel_rfl, by kernel_rfl, hb⟩
            refine bar_of [0, 1, 2, 3, 4, 5, 6] rfl (by kernel_rfl) ?_
            intro L ac Wn hI hds Kc hK
            obtain ⟨l0, l1, l2, l3, l4, l5, l6, rfl, hI⟩ := hI
            obtain ⟨rfl, rfl, rfl, rfl, rfl, rfl, rfl, -⟩ : l0 = true ∧ l1 = true ∧ l2 = true ∧ l3 = true ∧ l4 = true ∧ l5 = true ∧ l6 = true ∧ True := hds
            simp only [sel_t] at hI
            obtain ⟨rfl, hb⟩ := hI
            refine lin_yield (.bool false) rfl (by go_simp; first | done | with_reducible rfl) ?_
            refine hK.out _ _ (fun fu hf => ?_)
            clear hK Kc
            refine lin_seg 28 [8, 9, 10, 11, 12, 13, 14, 15, 16, 17, 18, 19, 20, 21, 22, 23, 24] 24 (fun L ac Wn => ∃ l8 l9 l10 l11 l12 l13 l14 l15 l16 l17 l18 l19 l20 l21 l22 l23 : Bool, L = #[true, true, true, true, true, true, true, true, l8, l9, l10, l11, l12, l13, l14, l15, l16, l17, l18, l19, l20, l21, l22, l23, false, false, false, false] ∧ ac = { tmps := #[.slice (some { block := lb, off := lo }) n c, .int .i64 k, undef, undef, .bool false, .slice (some { block := lb, off := lo }) n c, .int .i64 (n : Int), .bool false, .bool false, .slice (some { block := lb, off := lo }) n c, .bool false, .bool false, undef, .slice (some { block := lb, off := lo }) n c, .agg #[.bool z1, .string o1, .int .i64 e1], .slice (some { block := lb, off := lo }) n c, .agg #[.bool z1, .string o1, .int .i64 e1], .bool false, .slice (some { block := lb, off := lo }) n c, .int .i64 (n : Int), .bool false, .bool false, .int .i64 k, .bool false, .bool false, .bool false, sel l8 (.int .i64 k) (undef), sel l9 (.bool false) (undef), sel l10 (.bool false) (undef), sel l11 (.bool false) (undef), sel l12 (.slice (some { block := lb, off := lo }) n c) (undef), sel l13 (.pointer (some { block := lb, off := lo })) (undef), sel l14 (.agg #[.bool m1, .string s1, .int .i64 e5]) (undef), sel l15 (.int .i64 k) (undef), sel l16 (.agg #[.bool z9, .string o9, .int .i64 e9]) (undef), sel l17 (.slice (some { block := lb, off := lo }) n c) (undef), sel l18 (.pointer (some { block := lb, off := lo })) (undef), sel l19 (.agg #[.bool m1, .string s1, .int .i64 e5]) (undef), sel l20 (.int .i64 k) (undef), sel l21 (.agg #[.bool z9, .string o9, .int .i64 e9]) (undef), sel l22 (.bool true) (undef), sel l23 (.bool true) (undef), undef, undef, undef], defers := [] } ∧ Below (w.heap.size) w Wn) (by kernel_rfl) (by kernel_rfl) (by kernel_rfl) (by kernel_rfl) hf ?_ ?_ ?_ (by kernel_rfl) ?_ (by decide)
            · exact ⟨false, false, false, false, false, false, false, false, false, false, false, false, false, false, false, false, by kernel_rfl, by kernel_rfl, hb⟩
            · rintro L ac Wn ⟨l8, l9, l10, l11, l12, l13, l14, l15, l16, l17, l18, l19, l20, l21, l22, l23, rfl, _⟩
              kernel_rfl
            · refine (seg_all (b := 24) [8, 9, 10, 11, 12, 13, 14, 15, 16, 17, 18, 19, 20, 21, 22, 23] ?_ : ∀ j ∈ [8, 9, 10, 11, 12, 13, 14, 15, 16, 17, 18, 19, 20, 21, 22, 23, 24], j ≠ 24 → _)
              refine lin_cons [] [9, 10, 11, 12, 13, 14, 15, 16, 17, 18, 19, 20, 21, 22, 23] rfl (by kernel_rfl) (by kernel_rfl) ?_ ?_
              · intro L ac Wn hI hi hds hus Kc hK
                obtain ⟨l8, l9, l10, l11, l12, l13, l14, l15, l16, l17, l18, l19, l20, l21, l22, l23, rfl, hI⟩ := hI
                obtain rfl : l8 = false := hi
                obtain ⟨rfl, rfl, rfl, rfl, rfl, rfl, rfl, rfl, rfl, rfl, rfl, rfl, rfl, rfl, rfl, -⟩ : l9 = false ∧ l10 = false ∧ l11 = false ∧ l12 = false ∧ l13 = false ∧ l14 = false ∧ l15 = false ∧ l16 = false ∧ l17 = false ∧ l18 = false ∧ l19 = false ∧ l20 = false ∧ l21 = false ∧ l22 = false ∧ l23 = false ∧ True := hus
                simp only [sel_f] at hI
                obtain ⟨rfl, hb⟩ := hI
                refine lin_yield (.int .i64 k) rfl (by go_simp; first | done | with_reducible rfl) ?_
                exact hK.out _ _ ⟨true, false, false, false, false, false, false, false, false, false, false, false, false, false, false, false, by kernel_rfl, by kernel_rfl, hb⟩
              refine lin_cons [8] [10, 11, 12, 13, 14, 15, 16, 17, 18, 19, 20, 21, 22, 23] rfl (by kernel_rfl) (by kernel_rfl) ?_ ?_
              · intro L ac Wn hI hi hds hus Kc hK
                obtain ⟨l8, l9, l10, l11, l12, l13, l14, l15, l16, l17, l18, l19, l20, l21, l22, l23, rfl, hI⟩ := hI
                obtain rfl : l9 = false := hi
                obtain ⟨rfl, -⟩ : l8 = true ∧ True := hds
                obtain ⟨rfl, rfl, rfl, rfl, rfl, rfl, rfl, rfl, rfl, rfl, rfl, rfl, rfl, rfl, -⟩ : l10 = false ∧ l11 = false ∧ l12 = false ∧ l13 = false ∧ l14 = false ∧ l15 = false ∧ l16 = false ∧ l17 = false ∧ l18 = false ∧ l19 = false ∧ l20 = false ∧ l21 = false ∧ l22 = false ∧ l23 = false ∧ True := hus
                simp only [sel_t, sel_f] at hI
                obtain ⟨rfl, hb⟩ := hI
                refine lin_yield (.bool false) rfl (by go_simp; first | done | with_reducible rfl) ?_
                exact hK.out _ _ ⟨true, true, false, false, false, false, false, false, false, false, false, false, false, false, false, false, by kernel_rfl, by kernel_rfl, hb⟩
              refine lin_cons [8, 9] [11, 12, 13, 14, 15, 16, 17, 18, 19, 20, 21, 22, 23] rfl (by kernel_rfl) (by kernel_rfl) ?_ ?_
              · intro L ac Wn hI hi hds hus Kc hK
                obtain ⟨l8, l9, l10, l11, l12, l13, l14, l15, l16, l17, l18, l19, l20, l21, l22, l23, rfl, hI⟩ := hI
                obtain rfl : l10 = false := hi
                obtain ⟨rfl, rfl, -⟩ : l8 = true ∧ l9 = true ∧ True := hds
                obtain ⟨rfl, rfl, rfl, rfl, rfl, rfl, rfl, rfl, rfl, rfl, rfl, rfl, rfl, -⟩ : l11 = false ∧ l12 = false ∧ l13 = false ∧ l14 = false ∧ l15 = false ∧ l16 = false ∧ l17 = false ∧ l18 = false ∧ l19 = false ∧ l20 = false ∧ l21 = false ∧ l22 = false ∧ l23 = false ∧ True := hus
                simp only [sel_t, sel_f] at hI
                obtain ⟨rfl, hb⟩ := hI
                refine lin_yield (.bool false) rfl (by go_simp; first | done | with_reducible rfl) ?_
                exact hK.out _ _ ⟨true, true, true, false, false, false, false, false, false, false, false, false, false, false, false, false, by kernel_rfl, by kernel_rfl, hb⟩
              refine lin_cons [8, 9, 10] [12, 13, 14, 15, 16, 17, 18, 19, 20, 21, 22, 23] rfl (by kernel_rfl) (by kernel_rfl) ?_ ?_
              · intro L ac Wn hI hi hds hus Kc hK
                obtain ⟨l8, l9, l10, l11, l12, l13, l14, l15, l16, l17, l18, l19, l20, l21, l22, l23, rfl, hI⟩ := hI
                obtain rfl : l11 = false := hi
                obtain ⟨rfl, rfl, rfl, -⟩ : l8 = true ∧ l9 = true ∧ l10 = true ∧ True := hds
                obtain ⟨rfl, rfl, rfl, rfl, rfl, rfl, rfl, rfl, rfl, rfl, rfl, rfl, -⟩ : l12 = false ∧ l13 = false ∧ l14 = false ∧ l15 = false ∧ l16 = false ∧ l17 = false ∧ l18 = false ∧ l19 = false ∧ l20 = false ∧ l21 = false ∧ l22 = false ∧ l23 = false ∧ True := hus
                simp only [sel_t, sel_f] at hI
                obtain ⟨rfl, hb⟩ := hI
                refine lin_yield (.bool false) rfl (by go_simp; first | done | with_reducible rfl) ?_
                exact hK.out _ _ ⟨true, true, true, true, false, false, false, false, false, false, false, false, false, false, false, false, by kernel_rfl, by kernel_rfl, hb⟩
              refine lin_cons [8, 9, 10, 11] [13, 14, 16, 21, 22, 23] rfl (by kernel_rfl) (by kernel_rfl) ?_ ?_
              · intro L ac Wn hI hi hds hus Kc hK
                obtain ⟨l8, l9, l10, l11, l12, l13, l14, l15, l16, l17, l18, l19, l20, l21, l22, l23, rfl, hI⟩ := hI
                obtain rfl : l12 = false := hi
                obtain ⟨rfl, rfl, rfl, rfl, -⟩ : l8 = true ∧ l9 = true ∧ l10 = true ∧ l11 = true ∧ True := hds
                obtain ⟨rfl, rfl, rfl, rfl, rfl, rfl, -⟩ : l13 = false ∧ l14 = false ∧ l16 = false ∧ l21 = false ∧ l22 = false ∧ l23 = false ∧ True := hus
                simp only [sel_t, sel_f] at hI
                obtain ⟨rfl, hb⟩ := hI
                refine lin_yield (.slice (some { block := lb, off := lo }) n c) rfl (by go_simp; first | done | with_reducible rfl) ?_
                exact hK.out _ _ ⟨true, true, true, true, true, false, false, l15, false, l17, l18, l19, l20, false, false, false, by kernel_rfl, by kernel_rfl, hb⟩
              refine lin_cons [8, 9, 10, 11, 12] [14, 16, 21, 22, 23] rfl (by kernel_rfl) (by kernel_rfl) ?_ ?_
              · intro L ac Wn hI hi hds hus Kc hK
                obtain ⟨l8, l9, l10, l11, l12, l13, l14, l15, l16, l17, l18, l19, l20, l21, l22, l23, rfl, hI⟩ := hI
                obtain rfl : l13 = false := hi
                obtain ⟨rfl, rfl, rfl, rfl, rfl, -⟩ : l8 = true ∧ l9 = true ∧ l10 = true ∧ l11 = true ∧ l12 = true ∧ True := hds
                obtain ⟨rfl, rfl, rfl, rfl, rfl, -⟩ : l14 = false ∧ l16 = false ∧ l21 = false ∧ l22 = false ∧ l23 = false ∧ True := hus
                simp only [sel_t, sel_f] at hI
                obtain ⟨rfl, hb⟩ := hI
                refine lin_yield (.pointer (some { block := lb, off := lo })) rfl (by go_simp; first | done | with_reducible rfl) ?_
                exact hK.out _ _ ⟨true, true, true, true, true, true, false, l15, false, l17, l18, l19, l20, false, false, false, by kernel_rfl, by kernel_rfl, hb⟩
              refine lin_cons [8, 9, 10, 11, 12, 13] [16, 21, 22, 23] rfl (by kernel_rfl) (by kernel_rfl) ?_ ?_
              · intro L ac Wn hI hi hds hus Kc hK
                obtain ⟨l8, l9, l10, l11, l12, l13, l14, l15, l16, l17, l18, l19, l20, l21, l22, l23, rfl, hI⟩ := hI
                obtain rfl : l14 = false := hi
                obtain ⟨rfl, rfl, rfl, rfl, rfl, rfl, -⟩ : l8 = true ∧ l9 = true ∧ l10 = true ∧ l11 = true ∧ l12 = true ∧ l13 = true ∧ True := hds
                obtain ⟨rfl, rfl, rfl, rfl, -⟩ : l16 = false ∧ l21 = false ∧ l22 = false ∧ l23 = false ∧ True := hus
                simp only [sel_t, sel_f] at hI
                obtain ⟨rfl, hb⟩ := hI
                have q0 : Wn.cell? ⟨lb, lo, none⟩ = some (.bool m1) := by rw [hb.cell hlb]; exact hc1
                have q1 : Wn.cell? ⟨lb, lo + 1, none⟩ = some (.string s1) := by rw [hb.cell hlb]; exact hc2
                have q2 : Wn.cell? ⟨lb, lo + 2, none⟩ = some (.int .i64 e5) := by rw [hb.cell hlb]; exact hc3
                refine lin_yield (.agg #[.bool m1, .string s1, .int .i64 e5]) rfl (by go_simp; first | done | with_reducible rfl) ?_
                exact hK.out _ _ ⟨true, true, true, true, true, true, true, l15, false, l17, l18, l19, l20, false, false, false, by kernel_rfl, by kernel_rfl, hb⟩
              refine lin_cons [8, 9, 10, 11] [16, 21, 22, 23] rfl (by kernel_rfl) (by kernel_rfl) ?_ ?_
              · intro L ac Wn hI hi hds hus Kc hK
                obtain ⟨l8, l9, l10, l11, l12, l13, l14, l15, l16, l17, l18, l19, l20, l21, l22, l23, rfl, hI⟩ := hI
                obtain rfl : l15 = false := hi
                obtain ⟨rfl, rfl, rfl, rfl, -⟩ : l8 = true ∧ l9 = true ∧ l10 = true ∧ l11 = true ∧ True := hds
                obtain ⟨rfl, rfl, rfl, rfl, -⟩ : l16 = false ∧ l21 = false ∧ l22 = false ∧ l23 = false ∧ True := hus
                simp only [sel_t, sel_f] at hI
                obtain ⟨rfl, hb⟩ := hI
                refine lin_yield (.int .i64 k) rfl (by go_simp; first | done | with_reducible rfl) ?_
                exact hK.out _ _ ⟨true, true, true, true, l12, l13, l14, true, false, l17, l18, l19, l20, false, false, false, by kernel_rfl, by kernel_rfl, hb⟩
              refine lin_cons [8, 9, 10, 11, 12, 13, 14, 15] [21, 22, 23] rfl (by kernel_rfl) (by kernel_rfl) ?_ ?_
              · intro L ac Wn hI hi hds hus Kc hK
                obtain ⟨l8, l9, l10, l11, l12, l13, l14, l15, l16, l17, l18, l19, l20, l21, l22, l23, rfl, hI⟩ := hI
                obtain rfl : l16 = false := hi
                obtain ⟨rfl, rfl, rfl, rfl, rfl, rfl, rfl, rfl, -⟩ : l8 = true ∧ l9 = true ∧ l10 = true ∧ l11 = true ∧ l12 = true ∧ l13 = true ∧ l14 = true ∧ l15 = true ∧ True := hds
                obtain ⟨rfl, rfl, rfl, -⟩ : l21 = false ∧ l22 = false ∧ l23 = false ∧ True := hus
                simp only [sel_t, sel_f] at hI
                obtain ⟨rfl, hb⟩ := hI
                go_simp
                go_fit (ypow_all _ m1 s1 e5 k (by omega) (by omega) (by omega) z9 o9 e9 HQ.out)
                rintro e V ⟨rfl, hq⟩
                exact hK.out _ _ ⟨true, true, true, true, true, true, true, true, true, l17, l18, l19, l20, false, false, false, by kernel_rfl, by kernel_rfl, (below_next hb hq)⟩
              refine lin_cons [8, 9, 10, 11] [18, 19, 21, 22, 23] rfl (by kernel_rfl) (by kernel_rfl) ?_ ?_
              · intro L ac Wn hI hi hds hus Kc hK
                obtain ⟨l8, l9, l10, l11, l12, l13, l14, l15, l16, l17, l18, l19, l20, l21, l22, l23, rfl, hI⟩ := hI
                obtain rfl : l17 = false := hi
                obtain ⟨rfl, rfl, rfl, rfl, -⟩ : l8 = true ∧ l9 = true ∧ l10 = true ∧ l11 = true ∧ True := hds
                obtain ⟨rfl, rfl, rfl, rfl, rfl, -⟩ : l18 = false ∧ l19 = false ∧ l21 = false ∧ l22 = false ∧ l23 = false ∧ True := hus
                simp only [sel_t, sel_f] at hI
                obtain ⟨rfl, hb⟩ := hI
                refine lin_yield (.slice (some { block := lb, off := lo }) n c) rfl (by go_simp; first | done | with_reducible rfl) ?_
                exact hK.out _ _ ⟨true, true, true, true, l12, l13, l14, l15, l16, true, false, false, l20, false, false, false, by kernel_rfl, by kernel_rfl, hb⟩
              refine lin_cons [8, 9, 10, 11, 17] [19, 21, 22, 23] rfl (by kernel_rfl) (by kernel_rfl) ?_ ?_
              · intro L ac Wn hI hi hds hus Kc hK
                obtain ⟨l8, l9, l10, l11, l12, l13, l14, l15, l16, l17, l18, l19, l20, l21, l22, l23, rfl, hI⟩ := hI
                obtain rfl : l18 = false := hi
                obtain ⟨rfl, rfl, rfl, rfl, rfl, -⟩ : l8 = true ∧ l9 = true ∧ l10 = true ∧ l11 = true ∧ l17 = true ∧ True := hds
                obtain ⟨rfl, rfl, rfl, rfl, -⟩ : l19 = false ∧ l21 = false ∧ l22 = false ∧ l23 = false ∧ True := hus
                simp only [sel_t, sel_f] at hI
                obtain ⟨rfl, hb⟩ := hI
                refine lin_yield (.pointer (some { block := lb, off := lo })) rfl (by go_simp; first | done | with_reducible rfl) ?_
                exact hK.out _ _ ⟨true, true, true, true, l12, l13, l14, l15, l16, true, true, false, l20, false, false, false, by kernel_rfl, by kernel_rfl, hb⟩
              refine lin_cons [8, 9, 10, 11, 17, 18] [21, 22, 23] rfl (by kernel_rfl) (by kernel_rfl) ?_ ?_
              · intro L ac Wn hI hi hds hus Kc hK
                obtain ⟨l8, l9, l10, l11, l12, l13, l14, l15, l16, l17, l18, l19, l20, l21, l22, l23, rfl, hI⟩ := hI
                obtain rfl : l19 = false := hi
                obtain ⟨rfl, rfl, rfl, rfl, rfl, rfl, -⟩ : l8 = true ∧ l9 = true ∧ l10 = true ∧ l11 = true ∧ l17 = true ∧ l18 = true ∧ True := hds
                obtain ⟨rfl, rfl, rfl, -⟩ : l21 = false ∧ l22 = false ∧ l23 = false ∧ True := hus
                simp only [sel_t, sel_f] at hI
                obtain ⟨rfl, hb⟩ := hI
                have q0 : Wn.cell? ⟨lb, lo, none⟩ = some (.bool m1) := by rw [hb.cell hlb]; exact hc1
                have q1 : Wn.cell? ⟨lb, lo + 1, none⟩ = some (.string s1) := by rw [hb.cell hlb]; exact hc2
                have q2 : Wn.cell? ⟨lb, lo + 2, none⟩ = some (.int .i64 e5) := by rw [hb.cell hlb]; exact hc3
                refine lin_yield (.agg #[.bool m1, .string s1, .int .i64 e5]) rfl (by go_simp; first | done | with_reducible rfl) ?_
                exact hK.out _ _ ⟨true, true, true, true, l12, l13, l14, l15, l16, true, true, true, l20, false, false, false, by kernel_rfl, by kernel_rfl, hb⟩
              refine lin_cons [8, 9, 10, 11] [21, 22, 23] rfl (by kernel_rfl) (by kernel_rfl) ?_ ?_
              · intro L ac Wn hI hi hds hus Kc hK
                obtain ⟨l8, l9, l10, l11, l12, l13, l14, l15, l16, l17, l18, l19, l20, l21, l22, l23, rfl, hI⟩ := hI
                obtain rfl : l20 = false := hi
                obtain ⟨rfl, rfl, rfl, rfl, -⟩ : l8 = true ∧ l9 = true ∧ l10 = true ∧ l11 = true ∧ True := hds
                obtain ⟨rfl, rfl, rfl, -⟩ : l21 = false ∧ l22 = false ∧ l23 = false ∧ True := hus
                simp only [sel_t, sel_f] at hI
                obtain ⟨rfl, hb⟩ := hI
                refine lin_yield (.int .i64 k) rfl (by go_simp; first | done | with_reducible rfl) ?_
                exact hK.out _ _ ⟨true, true, true, true, l12, l13, l14, l15, l16, l17, l18, l19, true, false, false, false, by kernel_rfl, by kernel_rfl, hb⟩
              refine lin_cons [8, 9, 10, 11, 12, 13, 14, 15, 16, 17, 18, 19, 20] [22, 23] rfl (by kernel_rfl) (by kernel_rfl) ?_ ?_
              · intro L ac Wn hI hi hds hus Kc hK
                obtain ⟨l8, l9, l10, l11, l12, l13, l14, l15, l16, l17, l18, l19, l20, l21, l22, l23, rfl, hI⟩ := hI
                obtain rfl : l21 = false := hi
                obtain ⟨rfl, rfl, rfl, rfl, rfl, rfl, rfl, rfl, rfl, rfl, rfl, rfl, rfl, -⟩ : l8 = true ∧ l9 = true ∧ l10 = true ∧ l11 = true ∧ l12 = true ∧ l13 = true ∧ l14 = true ∧ l15 = true ∧ l16 = true ∧ l17 = true ∧ l18 = true ∧ l19 = true ∧ l20 = true ∧ True := hds
                obtain ⟨rfl, rfl, -⟩ : l22 = false ∧ l23 = false ∧ True := hus
                simp only [sel_t, sel_f] at hI
                obtain ⟨rfl, hb⟩ := hI
                go_simp
                go_fit (rypow_any _ m1 s1 e5 k (by omega) (by omega) (by omega) z9 o9 e9 HQ.out)
                rintro e V ⟨rfl, hq⟩
                exact hK.out _ _ ⟨true, true, true, true, true, true, true, true, true, true, true, true, true, true, false, false, by kernel_rfl, by kernel_rfl, (below_next hb hq)⟩
              refine lin_cons [8, 9, 10, 11, 12, 13, 14, 15, 16, 17, 18, 19, 20, 21] [23] rfl (by kernel_rfl) (by kernel_rfl) ?_ ?_
              · intro L ac Wn hI hi hds hus Kc hK
                obtain ⟨l8, l9, l10, l11, l12, l13, l14, l15, l16, l17, l18, l19, l20, l21, l22, l23, rfl, hI⟩ := hI
                obtain rfl : l22 = false := hi
                obtain ⟨rfl, rfl, rfl, rfl, rfl, rfl, rfl, rfl, rfl, rfl, rfl, rfl, rfl, rfl, -⟩ : l8 = true ∧ l9 = true ∧ l10 = true ∧ l11 = true ∧ l12 = true ∧ l13 = true ∧ l14 = true ∧ l15 = true ∧ l16 = true ∧ l17 = true ∧ l18 = true ∧ l19 = true ∧ l20 = true ∧ l21 = true ∧ True := hds
                obtain ⟨rfl, -⟩ : l23 = false ∧ True := hus
                simp only [sel_t, sel_f] at hI
                obtain ⟨rfl, hb⟩ := hI
                refine lin_yield (.bool true) rfl (by go_simp; first | done | with_reducible rfl) ?_
                exact hK.out _ _ ⟨true, true, true, true, true, true, true, true, true, true, true, true, true, true, true, false, by kernel_rfl, by kernel_rfl, hb⟩
              refine lin_cons [8, 9, 10, 11, 12, 13, 14, 15, 16, 17, 18, 19, 20, 21, 22] [] rfl (by kernel_rfl) (by kernel_rfl) ?_ lin_nil
              intro L ac Wn hI hi hds hus Kc hK
              obtain ⟨l8, l9, l10, l11, l12, l13, l14, l15, l16, l17, l18, l19, l20, l21, l22, l23, rfl, hI⟩ := hI
              obtain rfl : l23 = false := hi
              obtain ⟨rfl, rfl, rfl, rfl, rfl, rfl, rfl, rfl, rfl, rfl, rfl, rfl, rfl, rfl, rfl, -⟩ : l8 = true ∧ l9 = true ∧ l10 = true ∧ l11 = true ∧ l12 = true ∧ l13 = true ∧ l14 = true ∧ l15 = true ∧ l16 = true ∧ l17 = true ∧ l18 = true ∧ l19 = true ∧ l20 = true ∧ l21 = true ∧ l22 = true ∧ True := hds
              simp only [sel_t, sel_f] at hI
              obtain ⟨rfl, hb⟩ := hI
              refine lin_yield (.bool true) rfl (by go_simp; first | done | with_reducible rfl) ?_
              exact hK.out _ _ ⟨true, true, true, true, true, true, true, true, true, true, true, true, true, true, true, true, by kernel_rfl, by kernel_rfl, hb⟩
            refine bar_of [8, 9, 10, 11, 12, 13, 14, 15, 16, 17, 18, 19, 20, 21, 22, 23] rfl (by kernel_rfl) ?_
            intro L ac Wn hI hds Kc hK
            obtain ⟨l8, l9, l10, l11, l12, l13, l14, l15, l16, l17, l18, l19, l20, l21, l22, l23, rfl, hI⟩ := hI
            obtain ⟨rfl, rfl, rfl, rfl, rfl, rfl, rfl, rfl, rfl, rfl, rfl, rfl, rfl, rfl, rfl, rfl, -⟩ : l8 = true ∧ l9 = true ∧ l10 = true ∧ l11 = true ∧ l12 = true ∧ l13 = true ∧ l14 = true ∧ l15 = true ∧ l16 = true ∧ l17 = true ∧ l18 = true ∧ l19 = true ∧ l20 = true ∧ l21 = true ∧ l22 = true ∧ l23 = true ∧ True := hds
            simp only [sel_t] at hI
            obtain ⟨rfl, hb⟩ := hI
            refine lin_yield (.bool true) rfl (by go_simp; first | done | with_reducible rfl) ?_
            refine hK.out _ _ (fun fu hf => ?_)
            clear hK Kc
            refine lin_seg 28 [25, 26, 27] 27 (fun L ac Wn => ∃ l25 l26 : Bool, L = #[true, true, true, true, true, true, true, true, true, true, true, true, true, true, true, true, true, true, true, true, true, true, true, true, true, l25, l26, false] ∧ ac = { tmps := #[.slice (some { block := lb, off := lo }) n c, .int .i64 k, undef, undef, .bool false, .slice (some { block := lb, off := lo }) n c, .int .i64 (n : Int), .bool false, .bool false, .slice (some { block := lb, off := lo }) n c, .bool false, .bool false, undef, .slice (some { block := lb, off := lo }) n c, .agg #[.bool z1, .string o1, .int .i64 e1], .slice (some { block := lb, off := lo }) n c, .agg #[.bool z1, .string o1, .int .i64 e1], .bool false, .slice (some { block := lb, off := lo }) n c, .int .i64 (n : Int), .bool false, .bool false, .int .i64 k, .bool false, .bool false, .bool false, .int .i64 k, .bool false, .bool false, .bool false, .slice (some { block := lb, off := lo }) n c, .pointer (some { block := lb, off := lo }), .agg #[.bool m1, .string s1, .int .i64 e5], .int .i64 k, .agg #[.bool z9, .string o9, .int .i64 e9], .slice (some { block := lb, off := lo }) n c, .pointer (some { block := lb, off := lo }), .agg #[.bool m1, .string s1, .int .i64 e5], .int .i64 k, .agg #[.bool z9, .string o9, .int .i64 e9], .bool true, .bool true, .bool true, sel l25 (.bool true) (undef), sel l26 (.bool true) (undef)], defers := [] } ∧ Below (w.heap.size) w Wn) (by kernel_rfl) (by kernel_rfl) (by kernel_rfl) (by kernel_rfl) hf ?_ ?_ ?_ (by kernel_rfl) ?_ (by decide)
            · exact ⟨false, false, by kernel_rfl, by kernel_rfl, hb⟩
            · rintro L ac Wn ⟨l25, l26, rfl, _⟩
              kernel_rfl
            · refine (seg_all (b := 27) [25, 26] ?_ : ∀ j ∈ [25, 26, 27], j ≠ 27 → _)
              refine lin_cons [] [26] rfl (by kernel_rfl) (by kernel_rfl) ?_ ?_
              · intro L ac Wn hI hi hds hus Kc hK
                obtain ⟨l25, l26, rfl, hI⟩ := hI
                obtain rfl : l25 = false := hi
                obtain ⟨rfl, -⟩ : l26 = false ∧ True := hus
                simp only [sel_f] at hI
                obtain ⟨rfl, hb⟩ := hI
                go_simp
                go_fit (yawake_any _)
                rintro e V ⟨rfl, hq⟩
                exact hK.out _ _ ⟨true, false, by kernel_rfl, by kernel_rfl, (below_next hb hq)⟩
              refine lin_cons [25] [] rfl (by kernel_rfl) (by kernel_rfl) ?_ lin_nil
              intro L ac Wn hI hi hds hus Kc hK
              obtain ⟨l25, l26, rfl, hI⟩ := hI
              obtain rfl : l26 = false := hi
              obtain ⟨rfl, -⟩ : l25 = true ∧ True := hds
              simp only [sel_t, sel_f] at hI
              obtain ⟨rfl, hb⟩ := hI
              refine lin_yield (.bool true) rfl (by go_simp; first | done | with_reducible rfl) ?_
              exact hK.out _ _ ⟨true, true, by kernel_rfl, by kernel_rfl, hb⟩
            refine bar_of [25, 26] rfl (by kernel_rfl) ?_
            intro L ac Wn hI hds Kc hK
            obtain ⟨l25, l26, rfl, hI⟩ := hI
            obtain ⟨rfl, rfl, -⟩ : l25 = true ∧ l26 = true ∧ True := hds
            simp only [sel_t] at hI
            obtain ⟨rfl, hb⟩ := hI
            refine lin_yield (.bool true) rfl (by go_simp; first | done | with_reducible rfl) ?_
            refine hK.out _ _ (fun fu hf => wpAnyH_done (by kernel_rfl) ?_ _)
            clear hK Kc hf
            go_wp2
            go_ret
            exact ⟨rfl, hb⟩
end Go.Proofs.YtpahmnifkinpiaaGreatDoor
