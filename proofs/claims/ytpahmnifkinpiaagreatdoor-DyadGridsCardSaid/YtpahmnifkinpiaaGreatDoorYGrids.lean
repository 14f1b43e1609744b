/- DyadGrids: for every input it answers true. -/
import Derived.Test.YtpahmnifkinpiaaGreatDoorYR8
import Derived.Test.YtpahmnifkinpiaaGreatDoorYAwake
import Derived.Test.YtpahmnifkinpiaaGreatDoorYFormsL
import Derived.Test.YtpahmnifkinpiaaGreatDoorHL
namespace Go.Proofs.YtpahmnifkinpiaaGreatDoor
open Go.RowKit Go.Shelf

set_option maxRecDepth 100000 in
set_option maxHeartbeats 6400000 in
theorem grids_law (w : World) (m : Bool) (s : ByteArray) (e : Int) (_hs : s.size ≤ maxLen) (_he : (Lit.int .i64 e).wf = true) (p : Int) (_hp : (Lit.int .i64 p).wf = true) :
    Calls Tryz.prog 6 #[nu m s e, .int .i64 p] w (Ret (.bool true) w) := by
  obtain ⟨r, hr⟩ : ∃ r, longD 40 300 [(m, s, e)] = r := ⟨_, rfl⟩
  have HR := Lib.hid hr
  cases r with
  | true =>
    clear hr
    unfold nu
    go_enter Tryz.func6, Tryz.ntmps6
    go_wp2_with fail
    have hb := ((Below.refl w.heap.size w).alloc (Nat.le_refl _) (Obj.cells #[Value.bool m, Value.string s, Value.int IntKind.i64 e] 25)).alloc (by rw [World.size_alloc]; omega) (Obj.cells #[Value.bool m, Value.string s, Value.int IntKind.i64 e] 25)
    have hA := (Nk.new w m s e).alloc (Obj.cells #[Value.bool m, Value.string s, Value.int IntKind.i64 e] 25)
    have hrow := NAt.new (w.alloc (Obj.cells #[Value.bool m, Value.string s, Value.int IntKind.i64 e] 25)) 25 [(m, s, e)] #[.bool m, .string s, .int .i64 e] rfl
    rw [World.size_alloc] at hrow
    generalize ((w.alloc (Obj.cells #[Value.bool m, Value.string s, Value.int IntKind.i64 e] 25)).alloc (Obj.cells #[Value.bool m, Value.string s, Value.int IntKind.i64 e] 25)) = W0 at *
    refine (longd_any _ 40 300 (by omega) _ [(m, s, e)] 1 1 rfl (by omega) hrow).mono ?_
    rintro e9 W ⟨rfl, hq⟩
    replace hb := below_next hb hq
    replace hA := hA.below hq
    clear hq hrow
    rw [HR.out]
    clear hA
    go_wp2_with fail
    refine (yawake_any _).mono ?_
    rintro e9 V ⟨rfl, hq⟩
    replace hb := below_next hb hq
    clear hq
    go_wp2
    go_ret
    exact ⟨rfl, hb⟩
  | false =>
    have hbd := longd_false hr (m, s, e) (by simp)
    simp only at hbd
    clear hr
    by_cases hb1 : p < -1000 ∨ 1000 < p
    · unfold nu
      go_enter Tryz.func6, Tryz.ntmps6
      go_wp2_with fail
      have hb := ((Below.refl w.heap.size w).alloc (Nat.le_refl _) (Obj.cells #[Value.bool m, Value.string s, Value.int IntKind.i64 e] 25)).alloc (by rw [World.size_alloc]; omega) (Obj.cells #[Value.bool m, Value.string s, Value.int IntKind.i64 e] 25)
      have hA := (Nk.new w m s e).alloc (Obj.cells #[Value.bool m, Value.string s, Value.int IntKind.i64 e] 25)
      have hrow := NAt.new (w.alloc (Obj.cells #[Value.bool m, Value.string s, Value.int IntKind.i64 e] 25)) 25 [(m, s, e)] #[.bool m, .string s, .int .i64 e] rfl
      rw [World.size_alloc] at hrow
      generalize ((w.alloc (Obj.cells #[Value.bool m, Value.string s, Value.int IntKind.i64 e] 25)).alloc (Obj.cells #[Value.bool m, Value.string s, Value.int IntKind.i64 e] 25)) = W0 at *
      refine (longd_any _ 40 300 (by omega) _ [(m, s, e)] 1 1 rfl (by omega) hrow).mono ?_
      rintro e9 W ⟨rfl, hq⟩
      replace hb := below_next hb hq
      replace hA := hA.below hq
      clear hq hrow
      rw [HR.out]
      by_cases hb2 : p < -1000
      · have d1 : decide (p < -1000) = true := decide_eq_true hb2
        clear hA
        go_wp2_with fail
        refine (yawake_any _).mono ?_
        rintro e9 V ⟨rfl, hq⟩
        replace hb := below_next hb hq
        clear hq
        go_wp2
        go_ret
        exact ⟨rfl, hb⟩
      · have d1 : decide (p < -1000) = false := decide_eq_false hb2
        have d2 : decide (1000 < p) = true := decide_eq_true (by omega)
        clear hA
        go_wp2_with fail
        refine (yawake_any _).mono ?_
        rintro e9 V ⟨rfl, hq⟩
        replace hb := below_next hb hq
        clear hq
        go_wp2
        go_ret
        exact ⟨rfl, hb⟩
    · have d1 : decide (p < -1000) = false := decide_eq_false (by omega)
      have d2 : decide (1000 < p) = false := decide_eq_false (by omega)
      obtain ⟨z1, o1, e1, k1⟩ := df_some ((nv m s e).roundDown p)
      obtain ⟨z2, o2, e2, k2⟩ := df_some (ceilD (nv m s e) p)
      have HK := Lib.hid (And.intro k1 k2)
      have hsz : s.size ≤ 40 := hbd.1
      clear k1 k2
      unfold nu
      go_enter Tryz.func6, Tryz.ntmps6
      go_wp2_with fail
      have hb := ((Below.refl w.heap.size w).alloc (Nat.le_refl _) (Obj.cells #[Value.bool m, Value.string s, Value.int IntKind.i64 e] 25)).alloc (by rw [World.size_alloc]; omega) (Obj.cells #[Value.bool m, Value.string s, Value.int IntKind.i64 e] 25)
      have hA := (Nk.new w m s e).alloc (Obj.cells #[Value.bool m, Value.string s, Value.int IntKind.i64 e] 25)
      have hrow := NAt.new (w.alloc (Obj.cells #[Value.bool m, Value.string s, Value.int IntKind.i64 e] 25)) 25 [(m, s, e)] #[.bool m, .string s, .int .i64 e] rfl
      rw [World.size_alloc] at hrow
      generalize ((w.alloc (Obj.cells #[Value.bool m, Value.string s, Value.int IntKind.i64 e] 25)).alloc (Obj.cells #[Value.bool m, Value.string s, Value.int IntKind.i64 e] 25)) = W0 at *
      refine (longd_any _ 40 300 (by omega) _ [(m, s, e)] 1 1 rfl (by omega) hrow).mono ?_
      rintro e9 W ⟨rfl, hq⟩
      replace hb := below_next hb hq
      replace hA := hA.below hq
      clear hq hrow
      rw [HR.out]
      obtain ⟨hA0, hA1, hA2⟩ := hA.cells
      go_wp2_with fail
      refine region_segs (n := 20) #[false, false, false, false, false, false, false, false, false, false, false, false, false, false, false, false, false, false, false, false] (by kernel_rfl) (by kernel_rfl) (by kernel_rfl) ?_
      intro fu hf
      refine lin_seg 20 [0, 1, 2, 3, 4, 5, 6, 7] 7 (fun L ac Wn => ∃ l0 l1 l2 l3 l4 l5 l6 : Bool, L = #[l0, l1, l2, l3, l4, l5, l6, false, false, false, false, false, false, false, false, false, false, false, false, false] ∧ ac = { tmps := #[.agg #[.bool m, .string s, .int .i64 e], .int .i64 p, .pointer (some ⟨w.heap.size, 0, none⟩), undef, .bool false, .agg #[.bool m, .string s, .int .i64 e], .slice (some ⟨w.heap.size + 1, 0, none⟩) 1 1, .bool false, .bool false, .int .i64 p, .bool false, .bool false, .bool false, .int .i64 p, .bool false, .bool false, undef, sel l0 (.agg #[.bool m, .string s, .int .i64 e]) (undef), sel l1 (.int .i64 p) (undef), sel l2 (.agg #[.bool z1, .string o1, .int .i64 e1]) (undef), sel l3 (.agg #[.bool m, .string s, .int .i64 e]) (undef), sel l4 (.int .i64 p) (undef), sel l5 (.agg #[.bool z1, .string o1, .int .i64 e1]) (undef), sel l6 (.bool true) (undef), undef, undef, undef, undef, undef, undef, undef, undef, undef, undef, undef, undef], defers := [] } ∧ Below (w.heap.size) w Wn ∧ (Nk Wn (w.heap.size) m s e)) (by kernel_rfl) (by kernel_rfl) (by kernel_rfl) (by kernel_rfl) hf ?_ ?_ ?_ (by kernel_rfl) ?_ (by decide)
      · exact ⟨false, false, false, false, false, false, false, by kernel_rfl, by kernel_rfl, hb.drew, hA.drew⟩
      · rintro L ac Wn ⟨l0, l1, l2, l3, l4, l5, l6, rfl, _⟩
        kernel_rfl
      · refine (seg_all (b := 7) [0, 1, 2, 3, 4, 5, 6] ?_ : ∀ j ∈ [0, 1, 2, 3, 4, 5, 6, 7], j ≠ 7 → _)
        refine lin_cons [] [2, 5, 6] rfl (by kernel_rfl) (by kernel_rfl) ?_ ?_
        · intro L ac Wn hI hi hds hus Kc hK
          obtain ⟨l0, l1, l2, l3, l4, l5, l6, rfl, hI⟩ := hI
          obtain rfl : l0 = false := hi
          obtain ⟨rfl, rfl, rfl, -⟩ : l2 = false ∧ l5 = false ∧ l6 = false ∧ True := hus
          simp only [sel_f] at hI
          obtain ⟨rfl, hb, hA⟩ := hI
          obtain ⟨q0, q1, q2, q3, q4, q5⟩ := (hA).facts
          refine lin_yield (.agg #[.bool m, .string s, .int .i64 e]) rfl (by go_simp; first | done | with_reducible rfl | assumption) ?_
          exact hK.out _ _ ⟨true, l1, false, l3, l4, false, false, by kernel_rfl, by kernel_rfl, hb, (hA)⟩
        refine lin_cons [] [2, 5, 6] rfl (by kernel_rfl) (by kernel_rfl) ?_ ?_
        · intro L ac Wn hI hi hds hus Kc hK
          obtain ⟨l0, l1, l2, l3, l4, l5, l6, rfl, hI⟩ := hI
          obtain rfl : l1 = false := hi
          obtain ⟨rfl, rfl, rfl, -⟩ : l2 = false ∧ l5 = false ∧ l6 = false ∧ True := hus
          simp only [sel_f] at hI
          obtain ⟨rfl, hb, hA⟩ := hI
          refine lin_yield (.int .i64 p) rfl (by go_simp; first | done | with_reducible rfl | assumption) ?_
          exact hK.out _ _ ⟨l0, true, false, l3, l4, false, false, by kernel_rfl, by kernel_rfl, hb, (hA)⟩
        refine lin_cons [0, 1] [5, 6] rfl (by kernel_rfl) (by kernel_rfl) ?_ ?_
        · intro L ac Wn hI hi hds hus Kc hK
          obtain ⟨l0, l1, l2, l3, l4, l5, l6, rfl, hI⟩ := hI
          obtain rfl : l2 = false := hi
          obtain ⟨rfl, rfl, -⟩ : l0 = true ∧ l1 = true ∧ True := hds
          obtain ⟨rfl, rfl, -⟩ : l5 = false ∧ l6 = false ∧ True := hus
          simp only [sel_t, sel_f] at hI
          obtain ⟨rfl, hb, hA⟩ := hI
          go_simp
          go_fit (yfloor_any _ m s e p (by omega) (by omega) (by omega) z1 o1 e1 HK.out.1)
          rintro e V ⟨rfl, hq⟩
          exact hK.out _ _ ⟨true, true, true, l3, l4, false, false, by kernel_rfl, by kernel_rfl, (below_next hb hq), (hA.below hq)⟩
        refine lin_cons [] [5, 6] rfl (by kernel_rfl) (by kernel_rfl) ?_ ?_
        · intro L ac Wn hI hi hds hus Kc hK
          obtain ⟨l0, l1, l2, l3, l4, l5, l6, rfl, hI⟩ := hI
          obtain rfl : l3 = false := hi
          obtain ⟨rfl, rfl, -⟩ : l5 = false ∧ l6 = false ∧ True := hus
          simp only [sel_f] at hI
          obtain ⟨rfl, hb, hA⟩ := hI
          obtain ⟨q0, q1, q2, q3, q4, q5⟩ := (hA).facts
          refine lin_yield (.agg #[.bool m, .string s, .int .i64 e]) rfl (by go_simp; first | done | with_reducible rfl | assumption) ?_
          exact hK.out _ _ ⟨l0, l1, l2, true, l4, false, false, by kernel_rfl, by kernel_rfl, hb, (hA)⟩
        refine lin_cons [] [5, 6] rfl (by kernel_rfl) (by kernel_rfl) ?_ ?_
        · intro L ac Wn hI hi hds hus Kc hK
          obtain ⟨l0, l1, l2, l3, l4, l5, l6, rfl, hI⟩ := hI
          obtain rfl : l4 = false := hi
          obtain ⟨rfl, rfl, -⟩ : l5 = false ∧ l6 = false ∧ True := hus
          simp only [sel_f] at hI
          obtain ⟨rfl, hb, hA⟩ := hI
          refine lin_yield (.int .i64 p) rfl (by go_simp; first | done | with_reducible rfl | assumption) ?_
          exact hK.out _ _ ⟨l0, l1, l2, l3, true, false, false, by kernel_rfl, by kernel_rfl, hb, (hA)⟩
        refine lin_cons [0, 1, 2, 3, 4] [6] rfl (by kernel_rfl) (by kernel_rfl) ?_ ?_
        · intro L ac Wn hI hi hds hus Kc hK
          obtain ⟨l0, l1, l2, l3, l4, l5, l6, rfl, hI⟩ := hI
          obtain rfl : l5 = false := hi
          obtain ⟨rfl, rfl, rfl, rfl, rfl, -⟩ : l0 = true ∧ l1 = true ∧ l2 = true ∧ l3 = true ∧ l4 = true ∧ True := hds
          obtain ⟨rfl, -⟩ : l6 = false ∧ True := hus
          simp only [sel_t, sel_f] at hI
          obtain ⟨rfl, hb, hA⟩ := hI
          go_simp
          go_fit (ryfloor_any _ m s e p (by omega) (by omega) (by omega) z1 o1 e1 HK.out.1)
          rintro e V ⟨rfl, hq⟩
          exact hK.out _ _ ⟨true, true, true, true, true, true, false, by kernel_rfl, by kernel_rfl, (below_next hb hq), (hA.below hq)⟩
        refine lin_cons [0, 1, 2, 3, 4, 5] [] rfl (by kernel_rfl) (by kernel_rfl) ?_ lin_nil
        intro L ac Wn hI hi hds hus Kc hK
        obtain ⟨l0, l1, l2, l3, l4, l5, l6, rfl, hI⟩ := hI
        obtain rfl : l6 = false := hi
        obtain ⟨rfl, rfl, rfl, rfl, rfl, rfl, -⟩ : l0 = true ∧ l1 = true ∧ l2 = true ∧ l3 = true ∧ l4 = true ∧ l5 = true ∧ True := hds
        simp only [sel_t, sel_f] at hI
        obtain ⟨rfl, hb, hA⟩ := hI
        refine lin_yield (.bool true) rfl (by go_simp; first | done | with_reducible rfl | assumption) ?_
        exact hK.out _ _ ⟨true, true, true, true, true, true, true, by kernel_rfl, by kernel_rfl, hb, (hA)⟩
      refine bar_of [0, 1, 2, 3, 4, 5, 6] rfl (by kernel_rfl) ?_
      intro L ac Wn hI hds Kc hK
      obtain ⟨l0, l1, l2, l3, l4, l5, l6, rfl, hI⟩ := hI
      obtain ⟨rfl, rfl, rfl, rfl, rfl, rfl, rfl, -⟩ : l0 = true ∧ l1 = true ∧ l2 = true ∧ l3 = true ∧ l4 = true ∧ l5 = true ∧ l6 = true ∧ True := hds
      simp only [sel_t] at hI
      obtain ⟨rfl, hb, hA⟩ := hI
      refine lin_yield (.bool true) rfl (by go_simp; first | done | with_reducible rfl | assumption) ?_
      refine hK.out _ _ (fun fu hf => ?_)
      clear hK Kc
      refine lin_seg 20 [8, 9, 10, 11, 12, 13, 14, 15, 16] 16 (fun L ac Wn => ∃ l8 l9 l10 l11 l12 l13 l14 l15 : Bool, L = #[true, true, true, true, true, true, true, true, l8, l9, l10, l11, l12, l13, l14, l15, false, false, false, false] ∧ ac = { tmps := #[.agg #[.bool m, .string s, .int .i64 e], .int .i64 p, .pointer (some ⟨w.heap.size, 0, none⟩), undef, .bool false, .agg #[.bool m, .string s, .int .i64 e], .slice (some ⟨w.heap.size + 1, 0, none⟩) 1 1, .bool false, .bool false, .int .i64 p, .bool false, .bool false, .bool false, .int .i64 p, .bool false, .bool false, undef, .agg #[.bool m, .string s, .int .i64 e], .int .i64 p, .agg #[.bool z1, .string o1, .int .i64 e1], .agg #[.bool m, .string s, .int .i64 e], .int .i64 p, .agg #[.bool z1, .string o1, .int .i64 e1], .bool true, .bool true, sel l8 (.agg #[.bool m, .string s, .int .i64 e]) (undef), sel l9 (.int .i64 p) (undef), sel l10 (.agg #[.bool z2, .string o2, .int .i64 e2]) (undef), sel l11 (.agg #[.bool m, .string s, .int .i64 e]) (undef), sel l12 (.int .i64 p) (undef), sel l13 (.agg #[.bool z2, .string o2, .int .i64 e2]) (undef), sel l14 (.bool true) (undef), sel l15 (.bool true) (undef), undef, undef, undef], defers := [] } ∧ Below (w.heap.size) w Wn ∧ (Nk Wn (w.heap.size) m s e)) (by kernel_rfl) (by kernel_rfl) (by kernel_rfl) (by kernel_rfl) hf ?_ ?_ ?_ (by kernel_rfl) ?_ (by decide)
      · exact ⟨false, false, false, false, false, false, false, false, by kernel_rfl, by kernel_rfl, hb, hA⟩
      · rintro L ac Wn ⟨l8, l9, l10, l11, l12, l13, l14, l15, rfl, _⟩
        kernel_rfl
      · refine (seg_all (b := 16) [8, 9, 10, 11, 12, 13, 14, 15] ?_ : ∀ j ∈ [8, 9, 10, 11, 12, 13, 14, 15, 16], j ≠ 16 → _)
        refine lin_cons [] [10, 13, 14, 15] rfl (by kernel_rfl) (by kernel_rfl) ?_ ?_
        · intro L ac Wn hI hi hds hus Kc hK
          obtain ⟨l8, l9, l10, l11, l12, l13, l14, l15, rfl, hI⟩ := hI
          obtain rfl : l8 = false := hi
          obtain ⟨rfl, rfl, rfl, rfl, -⟩ : l10 = false ∧ l13 = false ∧ l14 = false ∧ l15 = false ∧ True := hus
          simp only [sel_f] at hI
          obtain ⟨rfl, hb, hA⟩ := hI
          obtain ⟨q0, q1, q2, q3, q4, q5⟩ := (hA).facts
          refine lin_yield (.agg #[.bool m, .string s, .int .i64 e]) rfl (by go_simp; first | done | with_reducible rfl | assumption) ?_
          exact hK.out _ _ ⟨true, l9, false, l11, l12, false, false, false, by kernel_rfl, by kernel_rfl, hb, (hA)⟩
        refine lin_cons [] [10, 13, 14, 15] rfl (by kernel_rfl) (by kernel_rfl) ?_ ?_
        · intro L ac Wn hI hi hds hus Kc hK
          obtain ⟨l8, l9, l10, l11, l12, l13, l14, l15, rfl, hI⟩ := hI
          obtain rfl : l9 = false := hi
          obtain ⟨rfl, rfl, rfl, rfl, -⟩ : l10 = false ∧ l13 = false ∧ l14 = false ∧ l15 = false ∧ True := hus
          simp only [sel_f] at hI
          obtain ⟨rfl, hb, hA⟩ := hI
          refine lin_yield (.int .i64 p) rfl (by go_simp; first | done | with_reducible rfl | assumption) ?_
          exact hK.out _ _ ⟨l8, true, false, l11, l12, false, false, false, by kernel_rfl, by kernel_rfl, hb, (hA)⟩
        refine lin_cons [8, 9] [13, 14, 15] rfl (by kernel_rfl) (by kernel_rfl) ?_ ?_
        · intro L ac Wn hI hi hds hus Kc hK
          obtain ⟨l8, l9, l10, l11, l12, l13, l14, l15, rfl, hI⟩ := hI
          obtain rfl : l10 = false := hi
          obtain ⟨rfl, rfl, -⟩ : l8 = true ∧ l9 = true ∧ True := hds
          obtain ⟨rfl, rfl, rfl, -⟩ : l13 = false ∧ l14 = false ∧ l15 = false ∧ True := hus
          simp only [sel_t, sel_f] at hI
          obtain ⟨rfl, hb, hA⟩ := hI
          go_simp
          go_fit (use_yceil (by omega) (by omega) (by omega) HK.out.2)
          rintro e V ⟨rfl, hq⟩
          exact hK.out _ _ ⟨true, true, true, l11, l12, false, false, false, by kernel_rfl, by kernel_rfl, (below_next hb hq), (hA.below hq)⟩
        refine lin_cons [] [13, 14, 15] rfl (by kernel_rfl) (by kernel_rfl) ?_ ?_
        · intro L ac Wn hI hi hds hus Kc hK
          obtain ⟨l8, l9, l10, l11, l12, l13, l14, l15, rfl, hI⟩ := hI
          obtain rfl : l11 = false := hi
          obtain ⟨rfl, rfl, rfl, -⟩ : l13 = false ∧ l14 = false ∧ l15 = false ∧ True := hus
          simp only [sel_f] at hI
          obtain ⟨rfl, hb, hA⟩ := hI
          obtain ⟨q0, q1, q2, q3, q4, q5⟩ := (hA).facts
          refine lin_yield (.agg #[.bool m, .string s, .int .i64 e]) rfl (by go_simp; first | done | with_reducible rfl | assumption) ?_
          exact hK.out _ _ ⟨l8, l9, l10, true, l12, false, false, false, by kernel_rfl, by kernel_rfl, hb, (hA)⟩
        refine lin_cons [] [13, 14, 15] rfl (by kernel_rfl) (by kernel_rfl) ?_ ?_
        · intro L ac Wn hI hi hds hus Kc hK
          obtain ⟨l8, l9, l10, l11, l12, l13, l14, l15, rfl, hI⟩ := hI
          obtain rfl : l12 = false := hi
          obtain ⟨rfl, rfl, rfl, -⟩ : l13 = false ∧ l14 = false ∧ l15 = false ∧ True := hus
          simp only [sel_f] at hI
          obtain ⟨rfl, hb, hA⟩ := hI
          refine lin_yield (.int .i64 p) rfl (by go_simp; first | done | with_reducible rfl | assumption) ?_
          exact hK.out _ _ ⟨l8, l9, l10, l11, true, false, false, false, by kernel_rfl, by kernel_rfl, hb, (hA)⟩
        refine lin_cons [8, 9, 10, 11, 12] [14, 15] rfl (by kernel_rfl) (by kernel_rfl) ?_ ?_
        · intro L ac Wn hI hi hds hus Kc hK
          obtain ⟨l8, l9, l10, l11, l12, l13, l14, l15, rfl, hI⟩ := hI
          obtain rfl : l13 = false := hi
          obtain ⟨rfl, rfl, rfl, rfl, rfl, -⟩ : l8 = true ∧ l9 = true ∧ l10 = true ∧ l11 = true ∧ l12 = true ∧ True := hds
          obtain ⟨rfl, rfl, -⟩ : l14 = false ∧ l15 = false ∧ True := hus
          simp only [sel_t, sel_f] at hI
          obtain ⟨rfl, hb, hA⟩ := hI
          go_simp
          go_fit (ryceil_any _ m s e p (by omega) (by omega) (by omega) z2 o2 e2 HK.out.2)
          rintro e V ⟨rfl, hq⟩
          exact hK.out _ _ ⟨true, true, true, true, true, true, false, false, by kernel_rfl, by kernel_rfl, (below_next hb hq), (hA.below hq)⟩
        refine lin_cons [8, 9, 10, 11, 12, 13] [15] rfl (by kernel_rfl) (by kernel_rfl) ?_ ?_
        · intro L ac Wn hI hi hds hus Kc hK
          obtain ⟨l8, l9, l10, l11, l12, l13, l14, l15, rfl, hI⟩ := hI
          obtain rfl : l14 = false := hi
          obtain ⟨rfl, rfl, rfl, rfl, rfl, rfl, -⟩ : l8 = true ∧ l9 = true ∧ l10 = true ∧ l11 = true ∧ l12 = true ∧ l13 = true ∧ True := hds
          obtain ⟨rfl, -⟩ : l15 = false ∧ True := hus
          simp only [sel_t, sel_f] at hI
          obtain ⟨rfl, hb, hA⟩ := hI
          refine lin_yield (.bool true) rfl (by go_simp; first | done | with_reducible rfl | assumption) ?_
          exact hK.out _ _ ⟨true, true, true, true, true, true, true, false, by kernel_rfl, by kernel_rfl, hb, (hA)⟩
        refine lin_cons [8, 9, 10, 11, 12, 13, 14] [] rfl (by kernel_rfl) (by kernel_rfl) ?_ lin_nil
        intro L ac Wn hI hi hds hus Kc hK
        obtain ⟨l8, l9, l10, l11, l12, l13, l14, l15, rfl, hI⟩ := hI
        obtain rfl : l15 = false := hi
        obtain ⟨rfl, rfl, rfl, rfl, rfl, rfl, rfl, -⟩ : l8 = true ∧ l9 = true ∧ l10 = true ∧ l11 = true ∧ l12 = true ∧ l13 = true ∧ l14 = true ∧ True := hds
        simp only [sel_t, sel_f] at hI
        obtain ⟨rfl, hb, hA⟩ := hI
        refine lin_yield (.bool true) rfl (by go_simp; first | done | with_reducible rfl | assumption) ?_
        exact hK.out _ _ ⟨true, true, true, true, true, true, true, true, by kernel_rfl, by kernel_rfl, hb, (hA)⟩
      refine bar_of [8, 9, 10, 11, 12, 13, 14, 15] rfl (by kernel_rfl) ?_
      intro L ac Wn hI hds Kc hK
      obtain ⟨l8, l9, l10, l11, l12, l13, l14, l15, rfl, hI⟩ := hI
      obtain ⟨rfl, rfl, rfl, rfl, rfl, rfl, rfl, rfl, -⟩ : l8 = true ∧ l9 = true ∧ l10 = true ∧ l11 = true ∧ l12 = true ∧ l13 = true ∧ l14 = true ∧ l15 = true ∧ True := hds
      simp only [sel_t] at hI
      obtain ⟨rfl, hb, hA⟩ := hI
      refine lin_yield (.bool true) rfl (by go_simp; first | done | with_reducible rfl | assumption) ?_
      refine hK.out _ _ (fun fu hf => ?_)
      clear hK Kc
      refine lin_seg 20 [17, 18, 19] 19 (fun L ac Wn => ∃ l17 l18 : Bool, L = #[true, true, true, true, true, true, true, true, true, true, true, true, true, true, true, true, true, l17, l18, false] ∧ ac = { tmps := #[.agg #[.bool m, .string s, .int .i64 e], .int .i64 p, .pointer (some ⟨w.heap.size, 0, none⟩), undef, .bool false, .agg #[.bool m, .string s, .int .i64 e], .slice (some ⟨w.heap.size + 1, 0, none⟩) 1 1, .bool false, .bool false, .int .i64 p, .bool false, .bool false, .bool false, .int .i64 p, .bool false, .bool false, undef, .agg #[.bool m, .string s, .int .i64 e], .int .i64 p, .agg #[.bool z1, .string o1, .int .i64 e1], .agg #[.bool m, .string s, .int .i64 e], .int .i64 p, .agg #[.bool z1, .string o1, .int .i64 e1], .bool true, .bool true, .agg #[.bool m, .string s, .int .i64 e], .int .i64 p, .agg #[.bool z2, .string o2, .int .i64 e2], .agg #[.bool m, .string s, .int .i64 e], .int .i64 p, .agg #[.bool z2, .string o2, .int .i64 e2], .bool true, .bool true, .bool true, sel l17 (.bool true) (undef), sel l18 (.bool true) (undef)], defers := [] } ∧ Below (w.heap.size) w Wn ∧ (Nk Wn (w.heap.size) m s e)) (by kernel_rfl) (by kernel_rfl) (by kernel_rfl) (by kernel_rfl) hf ?_ ?_ ?_ (by kernel_rfl) ?_ (by decide)
      · exact ⟨false, false, by kernel_rfl, by kernel_rfl, hb, hA⟩
      · rintro L ac Wn ⟨l17, l18, rfl, _⟩
        kernel_rfl
      · refine (seg_all (b := 19) [17, 18] ?_ : ∀ j ∈ [17, 18, 19], j ≠ 19 → _)
        refine lin_cons [] [18] rfl (by kernel_rfl) (by kernel_rfl) ?_ ?_
        · intro L ac Wn hI hi hds hus Kc hK
          obtain ⟨l17, l18, rfl, hI⟩ := hI
          obtain rfl : l17 = false := hi
          obtain ⟨rfl, -⟩ : l18 = false ∧ True := hus
          simp only [sel_f] at hI
          obtain ⟨rfl, hb, hA⟩ := hI
          go_simp
          go_fit (yawake_any _)
          rintro e V ⟨rfl, hq⟩
          exact hK.out _ _ ⟨true, false, by kernel_rfl, by kernel_rfl, (below_next hb hq), (hA.below hq)⟩
        refine lin_cons [17] [] rfl (by kernel_rfl) (by kernel_rfl) ?_ lin_nil
        intro L ac Wn hI hi hds hus Kc hK
        obtain ⟨l17, l18, rfl, hI⟩ := hI
        obtain rfl : l18 = false := hi
        obtain ⟨rfl, -⟩ : l17 = true ∧ True := hds
        simp only [sel_t, sel_f] at hI
        obtain ⟨rfl, hb, hA⟩ := hI
        refine lin_yield (.bool true) rfl (by go_simp; first | done | with_reducible rfl | assumption) ?_
        exact hK.out _ _ ⟨true, true, by kernel_rfl, by kernel_rfl, hb, (hA)⟩
      refine bar_of [17, 18] rfl (by kernel_rfl) ?_
      intro L ac Wn hI hds Kc hK
      obtain ⟨l17, l18, rfl, hI⟩ := hI
      obtain ⟨rfl, rfl, -⟩ : l17 = true ∧ l18 = true ∧ True := hds
      simp only [sel_t] at hI
      obtain ⟨rfl, hb, hA⟩ := hI
      refine lin_yield (.bool true) rfl (by go_simp; first | done | with_reducible rfl | assumption) ?_
      refine hK.out _ _ (fun fu hf => wpAnyH_done (by kernel_rfl) ?_ _)
      clear hK Kc hf
      go_wp2
      go_ret
      exact ⟨rfl, hb⟩
end Go.Proofs.YtpahmnifkinpiaaGreatDoor
