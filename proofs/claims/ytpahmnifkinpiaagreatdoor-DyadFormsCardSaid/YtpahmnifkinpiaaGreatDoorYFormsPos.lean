/- DyadForms, a number not below 0; walked. -/
import Derived.Test.YtpahmnifkinpiaaGreatDoorYFormsL
namespace Go.Proofs.YtpahmnifkinpiaaGreatDoor
open Go.RowKit Go.Shelf

set_option maxRecDepth 100000 in
set_option maxHeartbeats 6400000 in
theorem forms_pos (w : World) (m : Bool) (s : ByteArray) (e : Int) (hbd : s.size ≤ 60 ∧ -500 ≤ e ∧ e ≤ 500) (HR : Hid (longD 60 500 [(m, s, e)] = false)) (n : Int) (hn' : -9223372036854775808 ≤ n ∧ n ≤ 9223372036854775807) (by' : Int) (hb1 : -500 ≤ by' ∧ by' ≤ 500) (c : Int) (kc : sg (wv m s) = c) (hc : ¬c < 0) :
    Calls Tryz.prog 3 #[nu m s e, .int .i64 n, .int .i64 by'] w (Ret (.bool true) w) := by
  have d1 : decide (by' < -500) = false := decide_eq_false (by omega)
  have d2 : decide (500 < by') = false := decide_eq_false (by omega)
  have d3 : decide (c < 0) = false := decide_eq_false (by omega)
  have hsame : nv m s e = nv false s e := size_pos (by rw [kc]; omega)
  obtain ⟨n1, t1, f1, k1⟩ := df_some (.ofIntWithPrec n 0)
  obtain ⟨n2, t2, f2, k2⟩ := df_some (nv m s by')
  obtain ⟨n3, t3, f3, k3⟩ := df_some (nv m s e)
  obtain ⟨n4, t4, f4, k4⟩ := df_some (nv (!m) s e)
  obtain ⟨n6, t6, f6, k6⟩ := df_some (nv m s (e + by'))
  have k5 : df (nv false s e) = nu n3 t3 f3 := by rw [← hsame]; exact k3
  have HD := Lib.hid (And.intro k1 (And.intro k2 (And.intro k3 (And.intro k4 (And.intro k5 (And.intro k6 kc))))))
  have hsz : s.size ≤ 60 := hbd.1
  clear k1 k2 k3 k4 k5 k6 kc hsame
  unfold nu
  go_enter Tryz.func3, Tryz.ntmps3
  go_wp2_with fail
  have hb := ((Below.refl w.heap.size w).alloc (Nat.le_refl _) (Obj.cells #[Value.bool m, Value.string s, Value.int IntKind.i64 e] 25)).alloc (by rw [World.size_alloc]; omega) (Obj.cells #[Value.bool m, Value.string s, Value.int IntKind.i64 e] 25)
  have hA := (Nk.new w m s e).alloc (Obj.cells #[Value.bool m, Value.string s, Value.int IntKind.i64 e] 25)
  have hrow := NAt.new (w.alloc (Obj.cells #[Value.bool m, Value.string s, Value.int IntKind.i64 e] 25)) 25 [(m, s, e)] #[.bool m, .string s, .int .i64 e] rfl
  rw [World.size_alloc] at hrow
  generalize ((w.alloc (Obj.cells #[Value.bool m, Value.string s, Value.int IntKind.i64 e] 25)).alloc (Obj.cells #[Value.bool m, Value.string s, Value.int IntKind.i64 e] 25)) = W0 at *
  refine (longd_any _ 60 500 (by omega) _ [(m, s, e)] 1 1 rfl (by omega) hrow).mono ?_
  rintro e1 W ⟨rfl, hq⟩
  replace hb := below_next hb hq
  replace hA := hA.below hq
  clear hq hrow
  rw [HR.out]
  obtain ⟨hA0, hA1, hA2⟩ := hA.cells
  go_wp2_with fail
  refine (ryform_any _ m s e (by omega) (by omega) n3 t3 f3 HD.out.2.2.1).mono ?_
  rintro e1 W1 ⟨rfl, hq⟩
  replace hb := below_next hb hq
  replace hA := hA.below hq
  clear hq hA0 hA1 hA2
  obtain ⟨hA0, hA1, hA2⟩ := (hA.alloc (Obj.cells #[Value.bool n3, Value.string t3, Value.int IntKind.i64 f3] 25)).cells
  go_wp2_with fail
  have hS := Nk.new W1 n3 t3 f3
  have hAS := hA.lt
  replace hA := hA.alloc (Obj.cells #[Value.bool n3, Value.string t3, Value.int IntKind.i64 f3] 25)
  replace hb := hb.alloc hb.size (Obj.cells #[Value.bool n3, Value.string t3, Value.int IntKind.i64 f3] 25)
  generalize (W1.alloc (Obj.cells #[Value.bool n3, Value.string t3, Value.int IntKind.i64 f3] 25)) = W2 at *
  generalize W1.heap.size = Q at *
  refine (rysign_any _ m s e (by omega) c HD.out.2.2.2.2.2.2).mono ?_
  rintro e1 W3 ⟨rfl, hq⟩
  replace hb := below_next hb hq
  replace hA := hA.below hq
  replace hS := hS.below hq
  clear hq hA0 hA1 hA2
  obtain ⟨hA0, hA1, hA2⟩ := hA.cells
  go_wp2_with fail
  refine region_segs (n := 56) #[false, false, false, false, false, false, false, false, false, false, false, false, false, false, false, false, false, false, false, false, false, false, false, false, false, false, false, false, false, false, false, false, false, false, false, false, false, false, false, false, false, false, false, false, false, false, false, false, false, false, false, false, false, false, false, false] (by kernel_rfl) (by kernel_rfl) (by kernel_rfl) ?_
  intro f hf
  refine lin_seg 56 [0, 1, 2, 3, 4, 5] 5 (fun L ac Wn => ∃ l0 l1 l2 l3 l4 : Bool, L = #[l0, l1, l2, l3, l4, false, false, false, false, false, false, false, false, false, false, false, false, false, false, false, false, false, false, false, false, false, false, false, false, false, false, false, false, false, false, false, false, false, false, false, false, false, false, false, false, false, false, false, false, false, false, false, false, false, false, false] ∧ ac = { tmps := #[.agg #[.bool m, .string s, .int .i64 e], .int .i64 n, .int .i64 by', .pointer (some ⟨w.heap.size, 0, none⟩), undef, undef, .bool false, .pointer (some ⟨Q, 0, none⟩), .agg #[.bool m, .string s, .int .i64 e], .slice (some ⟨w.heap.size + 1, 0, none⟩) 1 1, .bool false, .bool false, .int .i64 by', .bool false, .bool false, .bool false, .int .i64 by', .bool false, .bool false, undef, .agg #[.bool m, .string s, .int .i64 e], .agg #[.bool n3, .string t3, .int .i64 f3], .agg #[.bool m, .string s, .int .i64 e], .int .i64 c, .bool false, undef, undef, sel l0 (.int .i64 n) (undef), sel l1 (.agg #[.bool n1, .string t1, .int .i64 f1]) (undef), sel l2 (.int .i64 n) (undef), sel l3 (.agg #[.bool n1, .string t1, .int .i64 f1]) (undef), sel l4 (.bool true) (undef), undef, undef, undef, undef, undef, undef, undef, undef, undef, undef, undef, undef, undef, undef, undef, undef, undef, undef, undef, undef, undef, undef, undef, undef, undef, undef, undef, undef, undef, undef, undef, undef, undef, undef, undef, undef, undef, undef, undef, undef, undef, undef, undef, undef, undef, undef, undef, undef, undef, undef], defers := [] } ∧ Below (w.heap.size) w Wn ∧ (Nk Wn (w.heap.size) m s e) ∧ (Nk Wn Q n3 t3 f3)) (by kernel_rfl) (by kernel_rfl) (by kernel_rfl) (by kernel_rfl) hf ?_ ?_ ?_ (by kernel_rfl) ?_ (by decide)
  · exact ⟨false, false, false, false, false, by kernel_rfl, by kernel_rfl, hb.drew, hA.drew, hS.drew⟩
  · rintro L ac Wn ⟨l0, l1, l2, l3, l4, rfl, _⟩
    kernel_rfl
  · refine (seg_all (b := 5) [0, 1, 2, 3, 4] ?_ : ∀ j ∈ [0, 1, 2, 3, 4, 5], j ≠ 5 → _)
    refine lin_cons [] [1, 3, 4] rfl (by kernel_rfl) (by kernel_rfl) ?_ ?_
    · intro L ac Wn hI hi hds hus Kc hK
      obtain ⟨l0, l1, l2, l3, l4, rfl, hI⟩ := hI
      obtain rfl : l0 = false := hi
      obtain ⟨rfl, rfl, rfl, -⟩ : l1 = false ∧ l3 = false ∧ l4 = false ∧ True := hus
      simp only [sel_f] at hI
      obtain ⟨rfl, hb, hA, hS⟩ := hI
      refine lin_yield (.int .i64 n) rfl (by go_simp; first | done | with_reducible rfl) ?_
      exact hK.out _ _ ⟨true, false, l2, false, false, by kernel_rfl, by kernel_rfl, hb, (hA), (hS)⟩
    refine lin_cons [0] [3, 4] rfl (by kernel_rfl) (by kernel_rfl) ?_ ?_
    · intro L ac Wn hI hi hds hus Kc hK
      obtain ⟨l0, l1, l2, l3, l4, rfl, hI⟩ := hI
      obtain rfl : l1 = false := hi
      obtain ⟨rfl, -⟩ : l0 = true ∧ True := hds
      obtain ⟨rfl, rfl, -⟩ : l3 = false ∧ l4 = false ∧ True := hus
      simp only [sel_t, sel_f] at hI
      obtain ⟨rfl, hb, hA, hS⟩ := hI
      go_simp
      go_fit (yof_any _ n hn'.1 hn'.2 n1 t1 f1 HD.out.1)
      rintro e V ⟨rfl, hq⟩
      exact hK.out _ _ ⟨true, true, l2, false, false, by kernel_rfl, by kernel_rfl, (below_next hb hq), (hA.below hq), (hS.below hq)⟩
    refine lin_cons [] [3, 4] rfl (by kernel_rfl) (by kernel_rfl) ?_ ?_
    · intro L ac Wn hI hi hds hus Kc hK
      obtain ⟨l0, l1, l2, l3, l4, rfl, hI⟩ := hI
      obtain rfl : l2 = false := hi
      obtain ⟨rfl, rfl, -⟩ : l3 = false ∧ l4 = false ∧ True := hus
      simp only [sel_f] at hI
      obtain ⟨rfl, hb, hA, hS⟩ := hI
      refine lin_yield (.int .i64 n) rfl (by go_simp; first | done | with_reducible rfl) ?_
      exact hK.out _ _ ⟨l0, l1, true, false, false, by kernel_rfl, by kernel_rfl, hb, (hA), (hS)⟩
    refine lin_cons [0, 1, 2] [4] rfl (by kernel_rfl) (by kernel_rfl) ?_ ?_
    · intro L ac Wn hI hi hds hus Kc hK
      obtain ⟨l0, l1, l2, l3, l4, rfl, hI⟩ := hI
      obtain rfl : l3 = false := hi
      obtain ⟨rfl, rfl, rfl, -⟩ : l0 = true ∧ l1 = true ∧ l2 = true ∧ True := hds
      obtain ⟨rfl, -⟩ : l4 = false ∧ True := hus
      simp only [sel_t, sel_f] at hI
      obtain ⟨rfl, hb, hA, hS⟩ := hI
      go_simp
      go_fit (ryof_any _ n hn'.1 hn'.2 n1 t1 f1 HD.out.1)
      rintro e V ⟨rfl, hq⟩
      exact hK.out _ _ ⟨true, true, true, true, false, by kernel_rfl, by kernel_rfl, (below_next hb hq), (hA.below hq), (hS.below hq)⟩
    refine lin_cons [0, 1, 2, 3] [] rfl (by kernel_rfl) (by kernel_rfl) ?_ lin_nil
    intro L ac Wn hI hi hds hus Kc hK
    obtain ⟨l0, l1, l2, l3, l4, rfl, hI⟩ := hI
    obtain rfl : l4 = false := hi
    obtain ⟨rfl, rfl, rfl, rfl, -⟩ : l0 = true ∧ l1 = true ∧ l2 = true ∧ l3 = true ∧ True := hds
    simp only [sel_t, sel_f] at hI
    obtain ⟨rfl, hb, hA, hS⟩ := hI
    refine lin_yield (.bool true) rfl (by go_simp; first | done | with_reducible rfl) ?_
    exact hK.out _ _ ⟨true, true, true, true, true, by kernel_rfl, by kernel_rfl, hb, (hA), (hS)⟩
  refine bar_of [0, 1, 2, 3, 4] rfl (by kernel_rfl) ?_
  intro L ac Wn hI hds Kc hK
  obtain ⟨l0, l1, l2, l3, l4, rfl, hI⟩ := hI
  obtain ⟨rfl, rfl, rfl, rfl, rfl, -⟩ : l0 = true ∧ l1 = true ∧ l2 = true ∧ l3 = true ∧ l4 = true ∧ True := hds
  simp only [sel_t] at hI
  obtain ⟨rfl, hb, hA, hS⟩ := hI
  refine lin_yield (.bool true) rfl (by go_simp; first | done | with_reducible rfl) ?_
  refine hK.out _ _ (fun f hf => ?_)
  clear hK Kc
  refine lin_seg 56 [6, 7, 8, 9, 10, 11, 12, 13, 14, 15, 16] 16 (fun L ac Wn => ∃ l6 l7 l8 l9 l10 l11 l12 l13 l14 l15 : Bool, L = #[true, true, true, true, true, true, l6, l7, l8, l9, l10, l11, l12, l13, l14, l15, false, false, false, false, false, false, false, false, false, false, false, false, false, false, false, false, false, false, false, false, false, false, false, false, false, false, false, false, false, false, false, false, false, false, false, false, false, false, false, false] ∧ ac = { tmps := #[.agg #[.bool m, .string s, .int .i64 e], .int .i64 n, .int .i64 by', .pointer (some ⟨w.heap.size, 0, none⟩), undef, undef, .bool false, .pointer (some ⟨Q, 0, none⟩), .agg #[.bool m, .string s, .int .i64 e], .slice (some ⟨w.heap.size + 1, 0, none⟩) 1 1, .bool false, .bool false, .int .i64 by', .bool false, .bool false, .bool false, .int .i64 by', .bool false, .bool false, undef, .agg #[.bool m, .string s, .int .i64 e], .agg #[.bool n3, .string t3, .int .i64 f3], .agg #[.bool m, .string s, .int .i64 e], .int .i64 c, .bool false, undef, undef, .int .i64 n, .agg #[.bool n1, .string t1, .int .i64 f1], .int .i64 n, .agg #[.bool n1, .string t1, .int .i64 f1], .bool true, .bool true, sel l6 (.pointer (some ⟨w.heap.size, 0, none⟩)) (undef), sel l7 (.agg #[.bool m, .string s]) (undef), sel l8 (.int .i64 by') (undef), sel l9 (.agg #[.bool n2, .string t2, .int .i64 f2]) (undef), sel l10 (.pointer (some ⟨w.heap.size, 0, none⟩)) (undef), sel l11 (.agg #[.bool m, .string s]) (undef), sel l12 (.int .i64 by') (undef), sel l13 (.agg #[.bool n2, .string t2, .int .i64 f2]) (undef), sel l14 (.bool true) (undef), sel l15 (.bool true) (undef), undef, undef, undef, undef, undef, undef, undef, undef, undef, undef, undef, undef, undef, undef, undef, undef, undef, undef, undef, undef, undef, undef, undef, undef, undef, undef, undef, undef, undef, undef, undef, undef, undef, undef, undef, undef, undef, undef, undef], defers := [] } ∧ Below (w.heap.size) w Wn ∧ (Nk Wn (w.heap.size) m s e) ∧ (Nk Wn Q n3 t3 f3)) (by kernel_rfl) (by kernel_rfl) (by kernel_rfl) (by kernel_rfl) hf ?_ ?_ ?_ (by kernel_rfl) ?_ (by decide)
  · exact ⟨false, false, false, false, false, false, false, false, false, false, by kernel_rfl, by kernel_rfl, hb, hA, hS⟩
  · rintro L ac Wn ⟨l6, l7, l8, l9, l10, l11, l12, l13, l14, l15, rfl, _⟩
    kernel_rfl
  · refine (seg_all (b := 16) [6, 7, 8, 9, 10, 11, 12, 13, 14, 15] ?_ : ∀ j ∈ [6, 7, 8, 9, 10, 11, 12, 13, 14, 15, 16], j ≠ 16 → _)
    refine lin_cons [] [7, 9, 13, 14, 15] rfl (by kernel_rfl) (by kernel_rfl) ?_ ?_
    · intro L ac Wn hI hi hds hus Kc hK
      obtain ⟨l6, l7, l8, l9, l10, l11, l12, l13, l14, l15, rfl, hI⟩ := hI
      obtain rfl : l6 = false := hi
      obtain ⟨rfl, rfl, rfl, rfl, rfl, -⟩ : l7 = false ∧ l9 = false ∧ l13 = false ∧ l14 = false ∧ l15 = false ∧ True := hus
      simp only [sel_f] at hI
      obtain ⟨rfl, hb, hA, hS⟩ := hI
      refine lin_yield (.pointer (some ⟨w.heap.size, 0, none⟩)) rfl (by go_simp; first | done | with_reducible rfl) ?_
      exact hK.out _ _ ⟨true, false, l8, false, l10, l11, l12, false, false, false, by kernel_rfl, by kernel_rfl, hb, (hA), (hS)⟩
    refine lin_cons [6] [9, 13, 14, 15] rfl (by kernel_rfl) (by kernel_rfl) ?_ ?_
    · intro L ac Wn hI hi hds hus Kc hK
      obtain ⟨l6, l7, l8, l9, l10, l11, l12, l13, l14, l15, rfl, hI⟩ := hI
      obtain rfl : l7 = false := hi
      obtain ⟨rfl, -⟩ : l6 = true ∧ True := hds
      obtain ⟨rfl, rfl, rfl, rfl, -⟩ : l9 = false ∧ l13 = false ∧ l14 = false ∧ l15 = false ∧ True := hus
      simp only [sel_t, sel_f] at hI
      obtain ⟨rfl, hb, hA, hS⟩ := hI
      obtain ⟨q0, q1, q2, q3, q4, q5⟩ := (hA).facts
      refine lin_yield (.agg #[.bool m, .string s]) rfl (by go_simp; first | done | with_reducible rfl) ?_
      exact hK.out _ _ ⟨true, true, l8, false, l10, l11, l12, false, false, false, by kernel_rfl, by kernel_rfl, hb, (hA), (hS)⟩
    refine lin_cons [] [9, 13, 14, 15] rfl (by kernel_rfl) (by kernel_rfl) ?_ ?_
    · intro L ac Wn hI hi hds hus Kc hK
      obtain ⟨l6, l7, l8, l9, l10, l11, l12, l13, l14, l15, rfl, hI⟩ := hI
      obtain rfl : l8 = false := hi
      obtain ⟨rfl, rfl, rfl, rfl, -⟩ : l9 = false ∧ l13 = false ∧ l14 = false ∧ l15 = false ∧ True := hus
      simp only [sel_f] at hI
      obtain ⟨rfl, hb, hA, hS⟩ := hI
      refine lin_yield (.int .i64 by') rfl (by go_simp; first | done | with_reducible rfl) ?_
      exact hK.out _ _ ⟨l6, l7, true, false, l10, l11, l12, false, false, false, by kernel_rfl, by kernel_rfl, hb, (hA), (hS)⟩
    refine lin_cons [6, 7, 8] [13, 14, 15] rfl (by kernel_rfl) (by kernel_rfl) ?_ ?_
    · intro L ac Wn hI hi hds hus Kc hK
      obtain ⟨l6, l7, l8, l9, l10, l11, l12, l13, l14, l15, rfl, hI⟩ := hI
      obtain rfl : l9 = false := hi
      obtain ⟨rfl, rfl, rfl, -⟩ : l6 = true ∧ l7 = true ∧ l8 = true ∧ True := hds
      obtain ⟨rfl, rfl, rfl, -⟩ : l13 = false ∧ l14 = false ∧ l15 = false ∧ True := hus
      simp only [sel_t, sel_f] at hI
      obtain ⟨rfl, hb, hA, hS⟩ := hI
      go_simp
      go_fit (ymake_any _ m s by' (by omega) (by omega) n2 t2 f2 HD.out.2.1)
      rintro e V ⟨rfl, hq⟩
      exact hK.out _ _ ⟨true, true, true, true, l10, l11, l12, false, false, false, by kernel_rfl, by kernel_rfl, (below_next hb hq), (hA.below hq), (hS.below hq)⟩
    refine lin_cons [] [11, 13, 14, 15] rfl (by kernel_rfl) (by kernel_rfl) ?_ ?_
    · intro L ac Wn hI hi hds hus Kc hK
      obtain ⟨l6, l7, l8, l9, l10, l11, l12, l13, l14, l15, rfl, hI⟩ := hI
      obtain rfl : l10 = false := hi
      obtain ⟨rfl, rfl, rfl, rfl, -⟩ : l11 = false ∧ l13 = false ∧ l14 = false ∧ l15 = false ∧ True := hus
      simp only [sel_f] at hI
      obtain ⟨rfl, hb, hA, hS⟩ := hI
      refine lin_yield (.pointer (some ⟨w.heap.size, 0, none⟩)) rfl (by go_simp; first | done | with_reducible rfl) ?_
      exact hK.out _ _ ⟨l6, l7, l8, l9, true, false, l12, false, false, false, by kernel_rfl, by kernel_rfl, hb, (hA), (hS)⟩
    refine lin_cons [10] [13, 14, 15] rfl (by kernel_rfl) (by kernel_rfl) ?_ ?_
    · intro L ac Wn hI hi hds hus Kc hK
      obtain ⟨l6, l7, l8, l9, l10, l11, l12, l13, l14, l15, rfl, hI⟩ := hI
      obtain rfl : l11 = false := hi
      obtain ⟨rfl, -⟩ : l10 = true ∧ True := hds
      obtain ⟨rfl, rfl, rfl, -⟩ : l13 = false ∧ l14 = false ∧ l15 = false ∧ True := hus
      simp only [sel_t, sel_f] at hI
      obtain ⟨rfl, hb, hA, hS⟩ := hI
      obtain ⟨q0, q1, q2, q3, q4, q5⟩ := (hA).facts
      refine lin_yield (.agg #[.bool m, .string s]) rfl (by go_simp; first | done | with_reducible rfl) ?_
      exact hK.out _ _ ⟨l6, l7, l8, l9, true, true, l12, false, false, false, by kernel_rfl, by kernel_rfl, hb, (hA), (hS)⟩
    refine lin_cons [] [13, 14, 15] rfl (by kernel_rfl) (by kernel_rfl) ?_ ?_
    · intro L ac Wn hI hi hds hus Kc hK
      obtain ⟨l6, l7, l8, l9, l10, l11, l12, l13, l14, l15, rfl, hI⟩ := hI
      obtain rfl : l12 = false := hi
      obtain ⟨rfl, rfl, rfl, -⟩ : l13 = false ∧ l14 = false ∧ l15 = false ∧ True := hus
      simp only [sel_f] at hI
      obtain ⟨rfl, hb, hA, hS⟩ := hI
      refine lin_yield (.int .i64 by') rfl (by go_simp; first | done | with_reducible rfl) ?_
      exact hK.out _ _ ⟨l6, l7, l8, l9, l10, l11, true, false, false, false, by kernel_rfl, by kernel_rfl, hb, (hA), (hS)⟩
    refine lin_cons [6, 7, 8, 9, 10, 11, 12] [14, 15] rfl (by kernel_rfl) (by kernel_rfl) ?_ ?_
    · intro L ac Wn hI hi hds hus Kc hK
      obtain ⟨l6, l7, l8, l9, l10, l11, l12, l13, l14, l15, rfl, hI⟩ := hI
      obtain rfl : l13 = false := hi
      obtain ⟨rfl, rfl, rfl, rfl, rfl, rfl, rfl, -⟩ : l6 = true ∧ l7 = true ∧ l8 = true ∧ l9 = true ∧ l10 = true ∧ l11 = true ∧ l12 = true ∧ True := hds
      obtain ⟨rfl, rfl, -⟩ : l14 = false ∧ l15 = false ∧ True := hus
      simp only [sel_t, sel_f] at hI
      obtain ⟨rfl, hb, hA, hS⟩ := hI
      go_simp
      go_fit (rmake_any _ m s by' (by omega) (by omega) n2 t2 f2 HD.out.2.1)
      rintro e V ⟨rfl, hq⟩
      exact hK.out _ _ ⟨true, true, true, true, true, true, true, true, false, false, by kernel_rfl, by kernel_rfl, (below_next hb hq), (hA.below hq), (hS.below hq)⟩
    refine lin_cons [6, 7, 8, 9, 10, 11, 12, 13] [15] rfl (by kernel_rfl) (by kernel_rfl) ?_ ?_
    · intro L ac Wn hI hi hds hus Kc hK
      obtain ⟨l6, l7, l8, l9, l10, l11, l12, l13, l14, l15, rfl, hI⟩ := hI
      obtain rfl : l14 = false := hi
      obtain ⟨rfl, rfl, rfl, rfl, rfl, rfl, rfl, rfl, -⟩ : l6 = true ∧ l7 = true ∧ l8 = true ∧ l9 = true ∧ l10 = true ∧ l11 = true ∧ l12 = true ∧ l13 = true ∧ True := hds
      obtain ⟨rfl, -⟩ : l15 = false ∧ True := hus
      simp only [sel_t, sel_f] at hI
      obtain ⟨rfl, hb, hA, hS⟩ := hI
      refine lin_yield (.bool true) rfl (by go_simp; first | done | with_reducible rfl) ?_
      exact hK.out _ _ ⟨true, true, true, true, true, true, true, true, true, false, by kernel_rfl, by kernel_rfl, hb, (hA), (hS)⟩
    refine lin_cons [6, 7, 8, 9, 10, 11, 12, 13, 14] [] rfl (by kernel_rfl) (by kernel_rfl) ?_ lin_nil
    intro L ac Wn hI hi hds hus Kc hK
    obtain ⟨l6, l7, l8, l9, l10, l11, l12, l13, l14, l15, rfl, hI⟩ := hI
    obtain rfl : l15 = false := hi
    obtain ⟨rfl, rfl, rfl, rfl, rfl, rfl, rfl, rfl, rfl, -⟩ : l6 = true ∧ l7 = true ∧ l8 = true ∧ l9 = true ∧ l10 = true ∧ l11 = true ∧ l12 = true ∧ l13 = true ∧ l14 = true ∧ True := hds
    simp only [sel_t, sel_f] at hI
    obtain ⟨rfl, hb, hA, hS⟩ := hI
    refine lin_yield (.bool true) rfl (by go_simp; first | done | with_reducible rfl) ?_
    exact hK.out _ _ ⟨true, true, true, true, true, true, true, true, true, true, by kernel_rfl, by kernel_rfl, hb, (hA), (hS)⟩
  refine bar_of [6, 7, 8, 9, 10, 11, 12, 13, 14, 15] rfl (by kernel_rfl) ?_
  intro L ac Wn hI hds Kc hK
  obtain ⟨l6, l7, l8, l9, l10, l11, l12, l13, l14, l15, rfl, hI⟩ := hI
  obtain ⟨rfl, rfl, rfl, rfl, rfl, rfl, rfl, rfl, rfl, rfl, -⟩ : l6 = true ∧ l7 = true ∧ l8 = true ∧ l9 = true ∧ l10 = true ∧ l11 = true ∧ l12 = true ∧ l13 = true ∧ l14 = true ∧ l15 = true ∧ True := hds
  simp only [sel_t] at hI
  obtain ⟨rfl, hb, hA, hS⟩ := hI
  refine lin_yield (.bool true) rfl (by go_simp; first | done | with_reducible rfl) ?_
  refine hK.out _ _ (fun f hf => ?_)
  clear hK Kc
  refine lin_seg 56 [17, 18, 19, 20, 21, 22, 23] 23 (fun L ac Wn => ∃ l17 l18 l19 l20 l21 l22 : Bool, L = #[true, true, true, true, true, true, true, true, true, true, true, true, true, true, true, true, true, l17, l18, l19, l20, l21, l22, false, false, false, false, false, false, false, false, false, false, false, false, false, false, false, false, false, false, false, false, false, false, false, false, false, false, false, false, false, false, false, false, false] ∧ ac = { tmps := #[.agg #[.bool m, .string s, .int .i64 e], .int .i64 n, .int .i64 by', .pointer (some ⟨w.heap.size, 0, none⟩), undef, undef, .bool false, .pointer (some ⟨Q, 0, none⟩), .agg #[.bool m, .string s, .int .i64 e], .slice (some ⟨w.heap.size + 1, 0, none⟩) 1 1, .bool false, .bool false, .int .i64 by', .bool false, .bool false, .bool false, .int .i64 by', .bool false, .bool false, undef, .agg #[.bool m, .string s, .int .i64 e], .agg #[.bool n3, .string t3, .int .i64 f3], .agg #[.bool m, .string s, .int .i64 e], .int .i64 c, .bool false, undef, undef, .int .i64 n, .agg #[.bool n1, .string t1, .int .i64 f1], .int .i64 n, .agg #[.bool n1, .string t1, .int .i64 f1], .bool true, .bool true, .pointer (some ⟨w.heap.size, 0, none⟩), .agg #[.bool m, .string s], .int .i64 by', .agg #[.bool n2, .string t2, .int .i64 f2], .pointer (some ⟨w.heap.size, 0, none⟩), .agg #[.bool m, .string s], .int .i64 by', .agg #[.bool n2, .string t2, .int .i64 f2], .bool true, .bool true, .bool true, sel l17 (.agg #[.bool m, .string s, .int .i64 e]) (undef), sel l18 (.agg #[.bool n3, .string t3, .int .i64 f3]) (undef), sel l19 (.agg #[.bool m, .string s, .int .i64 e]) (undef), sel l20 (.agg #[.bool n3, .string t3, .int .i64 f3]) (undef), sel l21 (.bool true) (undef), sel l22 (.bool true) (undef), undef, undef, undef, undef, undef, undef, undef, undef, undef, undef, undef, undef, undef, undef, undef, undef, undef, undef, undef, undef, undef, undef, undef, undef, undef, undef, undef, undef, undef, undef, undef, undef], defers := [] } ∧ Below (w.heap.size) w Wn ∧ (Nk Wn (w.heap.size) m s e) ∧ (Nk Wn Q n3 t3 f3)) (by kernel_rfl) (by kernel_rfl) (by kernel_rfl) (by kernel_rfl) hf ?_ ?_ ?_ (by kernel_rfl) ?_ (by decide)
  · exact ⟨false, false, false, false, false, false, by kernel_rfl, by kernel_rfl, hb, hA, hS⟩
  · rintro L ac Wn ⟨l17, l18, l19, l20, l21, l22, rfl, _⟩
    kernel_rfl
  · refine (seg_all (b := 23) [17, 18, 19, 20, 21, 22] ?_ : ∀ j ∈ [17, 18, 19, 20, 21, 22, 23], j ≠ 23 → _)
    refine lin_cons [] [18, 20, 21, 22] rfl (by kernel_rfl) (by kernel_rfl) ?_ ?_
    · intro L ac Wn hI hi hds hus Kc hK
      obtain ⟨l17, l18, l19, l20, l21, l22, rfl, hI⟩ := hI
      obtain rfl : l17 = false := hi
      obtain ⟨rfl, rfl, rfl, rfl, -⟩ : l18 = false ∧ l20 = false ∧ l21 = false ∧ l22 = false ∧ True := hus
      simp only [sel_f] at hI
      obtain ⟨rfl, hb, hA, hS⟩ := hI
      obtain ⟨q0, q1, q2, q3, q4, q5⟩ := (hA).facts
      refine lin_yield (.agg #[.bool m, .string s, .int .i64 e]) rfl (by go_simp; first | done | with_reducible rfl) ?_
      exact hK.out _ _ ⟨true, false, l19, false, false, false, by kernel_rfl, by kernel_rfl, hb, (hA), (hS)⟩
    refine lin_cons [17] [20, 21, 22] rfl (by kernel_rfl) (by kernel_rfl) ?_ ?_
    · intro L ac Wn hI hi hds hus Kc hK
      obtain ⟨l17, l18, l19, l20, l21, l22, rfl, hI⟩ := hI
      obtain rfl : l18 = false := hi
      obtain ⟨rfl, -⟩ : l17 = true ∧ True := hds
      obtain ⟨rfl, rfl, rfl, -⟩ : l20 = false ∧ l21 = false ∧ l22 = false ∧ True := hus
      simp only [sel_t, sel_f] at hI
      obtain ⟨rfl, hb, hA, hS⟩ := hI
      go_simp
      go_fit (yform_any _ m s e (by omega) (by omega) n3 t3 f3 HD.out.2.2.1)
      rintro e V ⟨rfl, hq⟩
      exact hK.out _ _ ⟨true, true, l19, false, false, false, by kernel_rfl, by kernel_rfl, (below_next hb hq), (hA.below hq), (hS.below hq)⟩
    refine lin_cons [] [20, 21, 22] rfl (by kernel_rfl) (by kernel_rfl) ?_ ?_
    · intro L ac Wn hI hi hds hus Kc hK
      obtain ⟨l17, l18, l19, l20, l21, l22, rfl, hI⟩ := hI
      obtain rfl : l19 = false := hi
      obtain ⟨rfl, rfl, rfl, -⟩ : l20 = false ∧ l21 = false ∧ l22 = false ∧ True := hus
      simp only [sel_f] at hI
      obtain ⟨rfl, hb, hA, hS⟩ := hI
      obtain ⟨q0, q1, q2, q3, q4, q5⟩ := (hA).facts
      refine lin_yield (.agg #[.bool m, .string s, .int .i64 e]) rfl (by go_simp; first | done | with_reducible rfl) ?_
      exact hK.out _ _ ⟨l17, l18, true, false, false, false, by kernel_rfl, by kernel_rfl, hb, (hA), (hS)⟩
    refine lin_cons [17, 18, 19] [21, 22] rfl (by kernel_rfl) (by kernel_rfl) ?_ ?_
    · intro L ac Wn hI hi hds hus Kc hK
      obtain ⟨l17, l18, l19, l20, l21, l22, rfl, hI⟩ := hI
      obtain rfl : l20 = false := hi
      obtain ⟨rfl, rfl, rfl, -⟩ : l17 = true ∧ l18 = true ∧ l19 = true ∧ True := hds
      obtain ⟨rfl, rfl, -⟩ : l21 = false ∧ l22 = false ∧ True := hus
      simp only [sel_t, sel_f] at hI
      obtain ⟨rfl, hb, hA, hS⟩ := hI
      go_simp
      go_fit (ryform_any _ m s e (by omega) (by omega) n3 t3 f3 HD.out.2.2.1)
      rintro e V ⟨rfl, hq⟩
      exact hK.out _ _ ⟨true, true, true, true, false, false, by kernel_rfl, by kernel_rfl, (below_next hb hq), (hA.below hq), (hS.below hq)⟩
    refine lin_cons [17, 18, 19, 20] [22] rfl (by kernel_rfl) (by kernel_rfl) ?_ ?_
    · intro L ac Wn hI hi hds hus Kc hK
      obtain ⟨l17, l18, l19, l20, l21, l22, rfl, hI⟩ := hI
      obtain rfl : l21 = false := hi
      obtain ⟨rfl, rfl, rfl, rfl, -⟩ : l17 = true ∧ l18 = true ∧ l19 = true ∧ l20 = true ∧ True := hds
      obtain ⟨rfl, -⟩ : l22 = false ∧ True := hus
      simp only [sel_t, sel_f] at hI
      obtain ⟨rfl, hb, hA, hS⟩ := hI
      refine lin_yield (.bool true) rfl (by go_simp; first | done | with_reducible rfl) ?_
      exact hK.out _ _ ⟨true, true, true, true, true, false, by kernel_rfl, by kernel_rfl, hb, (hA), (hS)⟩
    refine lin_cons [17, 18, 19, 20, 21] [] rfl (by kernel_rfl) (by kernel_rfl) ?_ lin_nil
    intro L ac Wn hI hi hds hus Kc hK
    obtain ⟨l17, l18, l19, l20, l21, l22, rfl, hI⟩ := hI
    obtain rfl : l22 = false := hi
    obtain ⟨rfl, rfl, rfl, rfl, rfl, -⟩ : l17 = true ∧ l18 = true ∧ l19 = true ∧ l20 = true ∧ l21 = true ∧ True := hds
    simp only [sel_t, sel_f] at hI
    obtain ⟨rfl, hb, hA, hS⟩ := hI
    refine lin_yield (.bool true) rfl (by go_simp; first | done | with_reducible rfl) ?_
    exact hK.out _ _ ⟨true, true, true, true, true, true, by kernel_rfl, by kernel_rfl, hb, (hA), (hS)⟩
  refine bar_of [17, 18, 19, 20, 21, 22] rfl (by kernel_rfl) ?_
  intro L ac Wn hI hds Kc hK
  obtain ⟨l17, l18, l19, l20, l21, l22, rfl, hI⟩ := hI
  obtain ⟨rfl, rfl, rfl, rfl, rfl, rfl, -⟩ : l17 = true ∧ l18 = true ∧ l19 = true ∧ l20 = true ∧ l21 = true ∧ l22 = true ∧ True := hds
  simp only [sel_t] at hI
  obtain ⟨rfl, hb, hA, hS⟩ := hI
  refine lin_yield (.bool true) rfl (by go_simp; first | done | with_reducible rfl) ?_
  refine hK.out _ _ (fun f hf => ?_)
  clear hK Kc
  refine lin_seg 56 [24, 25, 26, 27, 28, 29, 30] 30 (fun L ac Wn => ∃ l24 l25 l26 l27 l28 l29 : Bool, L = #[true, true, true, true, true, true, true, true, true, true, true, true, true, true, true, true, true, true, true, true, true, true, true, true, l24, l25, l26, l27, l28, l29, false, false, false, false, false, false, false, false, false, false, false, false, false, false, false, false, false, false, false, false, false, false, false, false, false, false] ∧ ac = { tmps := #[.agg #[.bool m, .string s, .int .i64 e], .int .i64 n, .int .i64 by', .pointer (some ⟨w.heap.size, 0, none⟩), undef, undef, .bool false, .pointer (some ⟨Q, 0, none⟩), .agg #[.bool m, .string s, .int .i64 e], .slice (some ⟨w.heap.size + 1, 0, none⟩) 1 1, .bool false, .bool false, .int .i64 by', .bool false, .bool false, .bool false, .int .i64 by', .bool false, .bool false, undef, .agg #[.bool m, .string s, .int .i64 e], .agg #[.bool n3, .string t3, .int .i64 f3], .agg #[.bool m, .string s, .int .i64 e], .int .i64 c, .bool false, undef, undef, .int .i64 n, .agg #[.bool n1, .string t1, .int .i64 f1], .int .i64 n, .agg #[.bool n1, .string t1, .int .i64 f1], .bool true, .bool true, .pointer (some ⟨w.heap.size, 0, none⟩), .agg #[.bool m, .string s], .int .i64 by', .agg #[.bool n2, .string t2, .int .i64 f2], .pointer (some ⟨w.heap.size, 0, none⟩), .agg #[.bool m, .string s], .int .i64 by', .agg #[.bool n2, .string t2, .int .i64 f2], .bool true, .bool true, .bool true, .agg #[.bool m, .string s, .int .i64 e], .agg #[.bool n3, .string t3, .int .i64 f3], .agg #[.bool m, .string s, .int .i64 e], .agg #[.bool n3, .string t3, .int .i64 f3], .bool true, .bool true, .bool true, sel l24 (.agg #[.bool m, .string s, .int .i64 e]) (undef), sel l25 (.int .i64 c) (undef), sel l26 (.agg #[.bool m, .string s, .int .i64 e]) (undef), sel l27 (.int .i64 c) (undef), sel l28 (.bool true) (undef), sel l29 (.bool true) (undef), undef, undef, undef, undef, undef, undef, undef, undef, undef, undef, undef, undef, undef, undef, undef, undef, undef, undef, undef, undef, undef, undef, undef, undef, undef], defers := [] } ∧ Below (w.heap.size) w Wn ∧ (Nk Wn (w.heap.size) m s e) ∧ (Nk Wn Q n3 t3 f3)) (by kernel_rfl) (by kernel_rfl) (by kernel_rfl) (by kernel_rfl) hf ?_ ?_ ?_ (by kernel_rfl) ?_ (by decide)
  · exact ⟨false, false, false, false, false, false, by kernel_rfl, by kernel_rfl, hb, hA, hS⟩
  · rintro L ac Wn ⟨l24, l25, l26, l27, l28, l29, rfl, _⟩
    kernel_rfl
  · refine (seg_all (b := 30) [24, 25, 26, 27, 28, 29] ?_ : ∀ j ∈ [24, 25, 26, 27, 28, 29, 30], j ≠ 30 → _)
    refine lin_cons [] [25, 27, 28, 29] rfl (by kernel_rfl) (by kernel_rfl) ?_ ?_
    · intro L ac Wn hI hi hds hus Kc hK
      obtain ⟨l24, l25, l26, l27, l28, l29, rfl, hI⟩ := hI
      obtain rfl : l24 = false := hi
      obtain ⟨rfl, rfl, rfl, rfl, -⟩ : l25 = false ∧ l27 = false ∧ l28 = false ∧ l29 = false ∧ True := hus
      simp only [sel_f] at hI
      obtain ⟨rfl, hb, hA, hS⟩ := hI
      obtain ⟨q0, q1, q2, q3, q4, q5⟩ := (hA).facts
      refine lin_yield (.agg #[.bool m, .string s, .int .i64 e]) rfl (by go_simp; first | done | with_reducible rfl) ?_
      exact hK.out _ _ ⟨true, false, l26, false, false, false, by kernel_rfl, by kernel_rfl, hb, (hA), (hS)⟩
    refine lin_cons [24] [27, 28, 29] rfl (by kernel_rfl) (by kernel_rfl) ?_ ?_
    · intro L ac Wn hI hi hds hus Kc hK
      obtain ⟨l24, l25, l26, l27, l28, l29, rfl, hI⟩ := hI
      obtain rfl : l25 = false := hi
      obtain ⟨rfl, -⟩ : l24 = true ∧ True := hds
      obtain ⟨rfl, rfl, rfl, -⟩ : l27 = false ∧ l28 = false ∧ l29 = false ∧ True := hus
      simp only [sel_t, sel_f] at hI
      obtain ⟨rfl, hb, hA, hS⟩ := hI
      go_simp
      go_fit (ysign_any _ m s e (by omega) c HD.out.2.2.2.2.2.2)
      rintro e V ⟨rfl, hq⟩
      exact hK.out _ _ ⟨true, true, l26, false, false, false, by kernel_rfl, by kernel_rfl, (below_next hb hq), (hA.below hq), (hS.below hq)⟩
    refine lin_cons [] [27, 28, 29] rfl (by kernel_rfl) (by kernel_rfl) ?_ ?_
    · intro L ac Wn hI hi hds hus Kc hK
      obtain ⟨l24, l25, l26, l27, l28, l29, rfl, hI⟩ := hI
      obtain rfl : l26 = false := hi
      obtain ⟨rfl, rfl, rfl, -⟩ : l27 = false ∧ l28 = false ∧ l29 = false ∧ True := hus
      simp only [sel_f] at hI
      obtain ⟨rfl, hb, hA, hS⟩ := hI
      obtain ⟨q0, q1, q2, q3, q4, q5⟩ := (hA).facts
      refine lin_yield (.agg #[.bool m, .string s, .int .i64 e]) rfl (by go_simp; first | done | with_reducible rfl) ?_
      exact hK.out _ _ ⟨l24, l25, true, false, false, false, by kernel_rfl, by kernel_rfl, hb, (hA), (hS)⟩
    refine lin_cons [24, 25, 26] [28, 29] rfl (by kernel_rfl) (by kernel_rfl) ?_ ?_
    · intro L ac Wn hI hi hds hus Kc hK
      obtain ⟨l24, l25, l26, l27, l28, l29, rfl, hI⟩ := hI
      obtain rfl : l27 = false := hi
      obtain ⟨rfl, rfl, rfl, -⟩ : l24 = true ∧ l25 = true ∧ l26 = true ∧ True := hds
      obtain ⟨rfl, rfl, -⟩ : l28 = false ∧ l29 = false ∧ True := hus
      simp only [sel_t, sel_f] at hI
      obtain ⟨rfl, hb, hA, hS⟩ := hI
      go_simp
      go_fit (rysign_any _ m s e (by omega) c HD.out.2.2.2.2.2.2)
      rintro e V ⟨rfl, hq⟩
      exact hK.out _ _ ⟨true, true, true, true, false, false, by kernel_rfl, by kernel_rfl, (below_next hb hq), (hA.below hq), (hS.below hq)⟩
    refine lin_cons [24, 25, 26, 27] [29] rfl (by kernel_rfl) (by kernel_rfl) ?_ ?_
    · intro L ac Wn hI hi hds hus Kc hK
      obtain ⟨l24, l25, l26, l27, l28, l29, rfl, hI⟩ := hI
      obtain rfl : l28 = false := hi
      obtain ⟨rfl, rfl, rfl, rfl, -⟩ : l24 = true ∧ l25 = true ∧ l26 = true ∧ l27 = true ∧ True := hds
      obtain ⟨rfl, -⟩ : l29 = false ∧ True := hus
      simp only [sel_t, sel_f] at hI
      obtain ⟨rfl, hb, hA, hS⟩ := hI
      refine lin_yield (.bool true) rfl (by go_simp; first | done | with_reducible rfl) ?_
      exact hK.out _ _ ⟨true, true, true, true, true, false, by kernel_rfl, by kernel_rfl, hb, (hA), (hS)⟩
    refine lin_cons [24, 25, 26, 27, 28] [] rfl (by kernel_rfl) (by kernel_rfl) ?_ lin_nil
    intro L ac Wn hI hi hds hus Kc hK
    obtain ⟨l24, l25, l26, l27, l28, l29, rfl, hI⟩ := hI
    obtain rfl : l29 = false := hi
    obtain ⟨rfl, rfl, rfl, rfl, rfl, -⟩ : l24 = true ∧ l25 = true ∧ l26 = true ∧ l27 = true ∧ l28 = true ∧ True := hds
    simp only [sel_t, sel_f] at hI
    obtain ⟨rfl, hb, hA, hS⟩ := hI
    refine lin_yield (.bool true) rfl (by go_simp; first | done | with_reducible rfl) ?_
    exact hK.out _ _ ⟨true, true, true, true, true, true, by kernel_rfl, by kernel_rfl, hb, (hA), (hS)⟩
  refine bar_of [24, 25, 26, 27, 28, 29] rfl (by kernel_rfl) ?_
  intro L ac Wn hI hds Kc hK
  obtain ⟨l24, l25, l26, l27, l28, l29, rfl, hI⟩ := hI
  obtain ⟨rfl, rfl, rfl, rfl, rfl, rfl, -⟩ : l24 = true ∧ l25 = true ∧ l26 = true ∧ l27 = true ∧ l28 = true ∧ l29 = true ∧ True := hds
  simp only [sel_t] at hI
  obtain ⟨rfl, hb, hA, hS⟩ := hI
  refine lin_yield (.bool true) rfl (by go_simp; first | done | with_reducible rfl) ?_
  refine hK.out _ _ (fun f hf => ?_)
  clear hK Kc
  refine lin_seg 56 [31, 32, 33, 34, 35, 36, 37] 37 (fun L ac Wn => ∃ l31 l32 l33 l34 l35 l36 : Bool, L = #[true, true, true, true, true, true, true, true, true, true, true, true, true, true, true, true, true, true, true, true, true, true, true, true, true, true, true, true, true, true, true, l31, l32, l33, l34, l35, l36, false, false, false, false, false, false, false, false, false, false, false, false, false, false, false, false, false, false, false] ∧ ac = { tmps := #[.agg #[.bool m, .string s, .int .i64 e], .int .i64 n, .int .i64 by', .pointer (some ⟨w.heap.size, 0, none⟩), undef, undef, .bool false, .pointer (some ⟨Q, 0, none⟩), .agg #[.bool m, .string s, .int .i64 e], .slice (some ⟨w.heap.size + 1, 0, none⟩) 1 1, .bool false, .bool false, .int .i64 by', .bool false, .bool false, .bool false, .int .i64 by', .bool false, .bool false, undef, .agg #[.bool m, .string s, .int .i64 e], .agg #[.bool n3, .string t3, .int .i64 f3], .agg #[.bool m, .string s, .int .i64 e], .int .i64 c, .bool false, undef, undef, .int .i64 n, .agg #[.bool n1, .string t1, .int .i64 f1], .int .i64 n, .agg #[.bool n1, .string t1, .int .i64 f1], .bool true, .bool true, .pointer (some ⟨w.heap.size, 0, none⟩), .agg #[.bool m, .string s], .int .i64 by', .agg #[.bool n2, .string t2, .int .i64 f2], .pointer (some ⟨w.heap.size, 0, none⟩), .agg #[.bool m, .string s], .int .i64 by', .agg #[.bool n2, .string t2, .int .i64 f2], .bool true, .bool true, .bool true, .agg #[.bool m, .string s, .int .i64 e], .agg #[.bool n3, .string t3, .int .i64 f3], .agg #[.bool m, .string s, .int .i64 e], .agg #[.bool n3, .string t3, .int .i64 f3], .bool true, .bool true, .bool true, .agg #[.bool m, .string s, .int .i64 e], .int .i64 c, .agg #[.bool m, .string s, .int .i64 e], .int .i64 c, .bool true, .bool true, .bool true, sel l31 (.agg #[.bool m, .string s, .int .i64 e]) (undef), sel l32 (.agg #[.bool n4, .string t4, .int .i64 f4]) (undef), sel l33 (.agg #[.bool m, .string s, .int .i64 e]) (undef), sel l34 (.agg #[.bool n4, .string t4, .int .i64 f4]) (undef), sel l35 (.bool true) (undef), sel l36 (.bool true) (undef), undef, undef, undef, undef, undef, undef, undef, undef, undef, undef, undef, undef, undef, undef, undef, undef, undef, undef], defers := [] } ∧ Below (w.heap.size) w Wn ∧ (Nk Wn (w.heap.size) m s e) ∧ (Nk Wn Q n3 t3 f3)) (by kernel_rfl) (by kernel_rfl) (by kernel_rfl) (by kernel_rfl) hf ?_ ?_ ?_ (by kernel_rfl) ?_ (by decide)
  · exact ⟨false, false, false, false, false, false, by kernel_rfl, by kernel_rfl, hb, hA, hS⟩
  · rintro L ac Wn ⟨l31, l32, l33, l34, l35, l36, rfl, _⟩
    kernel_rfl
  · refine (seg_all (b := 37) [31, 32, 33, 34, 35, 36] ?_ : ∀ j ∈ [31, 32, 33, 34, 35, 36, 37], j ≠ 37 → _)
    refine lin_cons [] [32, 34, 35, 36] rfl (by kernel_rfl) (by kernel_rfl) ?_ ?_
    · intro L ac Wn hI hi hds hus Kc hK
      obtain ⟨l31, l32, l33, l34, l35, l36, rfl, hI⟩ := hI
      obtain rfl : l31 = false := hi
      obtain ⟨rfl, rfl, rfl, rfl, -⟩ : l32 = false ∧ l34 = false ∧ l35 = false ∧ l36 = false ∧ True := hus
      simp only [sel_f] at hI
      obtain ⟨rfl, hb, hA, hS⟩ := hI
      obtain ⟨q0, q1, q2, q3, q4, q5⟩ := (hA).facts
      refine lin_yield (.agg #[.bool m, .string s, .int .i64 e]) rfl (by go_simp; first | done | with_reducible rfl) ?_
      exact hK.out _ _ ⟨true, false, l33, false, false, false, by kernel_rfl, by kernel_rfl, hb, (hA), (hS)⟩
    refine lin_cons [31] [34, 35, 36] rfl (by kernel_rfl) (by kernel_rfl) ?_ ?_
    · intro L ac Wn hI hi hds hus Kc hK
      obtain ⟨l31, l32, l33, l34, l35, l36, rfl, hI⟩ := hI
      obtain rfl : l32 = false := hi
      obtain ⟨rfl, -⟩ : l31 = true ∧ True := hds
      obtain ⟨rfl, rfl, rfl, -⟩ : l34 = false ∧ l35 = false ∧ l36 = false ∧ True := hus
      simp only [sel_t, sel_f] at hI
      obtain ⟨rfl, hb, hA, hS⟩ := hI
      go_simp
      go_fit (yneg_any _ m s e (by omega) (by omega) n4 t4 f4 HD.out.2.2.2.1)
      rintro e V ⟨rfl, hq⟩
      exact hK.out _ _ ⟨true, true, l33, false, false, false, by kernel_rfl, by kernel_rfl, (below_next hb hq), (hA.below hq), (hS.below hq)⟩
    refine lin_cons [] [34, 35, 36] rfl (by kernel_rfl) (by kernel_rfl) ?_ ?_
    · intro L ac Wn hI hi hds hus Kc hK
      obtain ⟨l31, l32, l33, l34, l35, l36, rfl, hI⟩ := hI
      obtain rfl : l33 = false := hi
      obtain ⟨rfl, rfl, rfl, -⟩ : l34 = false ∧ l35 = false ∧ l36 = false ∧ True := hus
      simp only [sel_f] at hI
      obtain ⟨rfl, hb, hA, hS⟩ := hI
      obtain ⟨q0, q1, q2, q3, q4, q5⟩ := (hA).facts
      refine lin_yield (.agg #[.bool m, .string s, .int .i64 e]) rfl (by go_simp; first | done | with_reducible rfl) ?_
      exact hK.out _ _ ⟨l31, l32, true, false, false, false, by kernel_rfl, by kernel_rfl, hb, (hA), (hS)⟩
    refine lin_cons [31, 32, 33] [35, 36] rfl (by kernel_rfl) (by kernel_rfl) ?_ ?_
    · intro L ac Wn hI hi hds hus Kc hK
      obtain ⟨l31, l32, l33, l34, l35, l36, rfl, hI⟩ := hI
      obtain rfl : l34 = false := hi
      obtain ⟨rfl, rfl, rfl, -⟩ : l31 = true ∧ l32 = true ∧ l33 = true ∧ True := hds
      obtain ⟨rfl, rfl, -⟩ : l35 = false ∧ l36 = false ∧ True := hus
      simp only [sel_t, sel_f] at hI
      obtain ⟨rfl, hb, hA, hS⟩ := hI
      go_simp
      go_fit (ryneg_any _ m s e (by omega) (by omega) n4 t4 f4 HD.out.2.2.2.1)
      rintro e V ⟨rfl, hq⟩
      exact hK.out _ _ ⟨true, true, true, true, false, false, by kernel_rfl, by kernel_rfl, (below_next hb hq), (hA.below hq), (hS.below hq)⟩
    refine lin_cons [31, 32, 33, 34] [36] rfl (by kernel_rfl) (by kernel_rfl) ?_ ?_
    · intro L ac Wn hI hi hds hus Kc hK
      obtain ⟨l31, l32, l33, l34, l35, l36, rfl, hI⟩ := hI
      obtain rfl : l35 = false := hi
      obtain ⟨rfl, rfl, rfl, rfl, -⟩ : l31 = true ∧ l32 = true ∧ l33 = true ∧ l34 = true ∧ True := hds
      obtain ⟨rfl, -⟩ : l36 = false ∧ True := hus
      simp only [sel_t, sel_f] at hI
      obtain ⟨rfl, hb, hA, hS⟩ := hI
      refine lin_yield (.bool true) rfl (by go_simp; first | done | with_reducible rfl) ?_
      exact hK.out _ _ ⟨true, true, true, true, true, false, by kernel_rfl, by kernel_rfl, hb, (hA), (hS)⟩
    refine lin_cons [31, 32, 33, 34, 35] [] rfl (by kernel_rfl) (by kernel_rfl) ?_ lin_nil
    intro L ac Wn hI hi hds hus Kc hK
    obtain ⟨l31, l32, l33, l34, l35, l36, rfl, hI⟩ := hI
    obtain rfl : l36 = false := hi
    obtain ⟨rfl, rfl, rfl, rfl, rfl, -⟩ : l31 = true ∧ l32 = true ∧ l33 = true ∧ l34 = true ∧ l35 = true ∧ True := hds
    simp only [sel_t, sel_f] at hI
    obtain ⟨rfl, hb, hA, hS⟩ := hI
    refine lin_yield (.bool true) rfl (by go_simp; first | done | with_reducible rfl) ?_
    exact hK.out _ _ ⟨true, true, true, true, true, true, by kernel_rfl, by kernel_rfl, hb, (hA), (hS)⟩
  refine bar_of [31, 32, 33, 34, 35, 36] rfl (by kernel_rfl) ?_
  intro L ac Wn hI hds Kc hK
  obtain ⟨l31, l32, l33, l34, l35, l36, rfl, hI⟩ := hI
  obtain ⟨rfl, rfl, rfl, rfl, rfl, rfl, -⟩ : l31 = true ∧ l32 = true ∧ l33 = true ∧ l34 = true ∧ l35 = true ∧ l36 = true ∧ True := hds
  simp only [sel_t] at hI
  obtain ⟨rfl, hb, hA, hS⟩ := hI
  refine lin_yield (.bool true) rfl (by go_simp; first | done | with_reducible rfl) ?_
  refine hK.out _ _ (fun f hf => ?_)
  clear hK Kc
  refine lin_seg 56 [38, 39, 40, 41, 42, 43] 43 (fun L ac Wn => ∃ l38 l39 l40 l41 l42 : Bool, L = #[true, true, true, true, true, true, true, true, true, true, true, true, true, true, true, true, true, true, true, true, true, true, true, true, true, true, true, true, true, true, true, true, true, true, true, true, true, true, l38, l39, l40, l41, l42, false, false, false, false, false, false, false, false, false, false, false, false, false] ∧ ac = { tmps := #[.agg #[.bool m, .string s, .int .i64 e], .int .i64 n, .int .i64 by', .pointer (some ⟨w.heap.size, 0, none⟩), undef, undef, .bool false, .pointer (some ⟨Q, 0, none⟩), .agg #[.bool m, .string s, .int .i64 e], .slice (some ⟨w.heap.size + 1, 0, none⟩) 1 1, .bool false, .bool false, .int .i64 by', .bool false, .bool false, .bool false, .int .i64 by', .bool false, .bool false, undef, .agg #[.bool m, .string s, .int .i64 e], .agg #[.bool n3, .string t3, .int .i64 f3], .agg #[.bool m, .string s, .int .i64 e], .int .i64 c, .bool false, undef, undef, .int .i64 n, .agg #[.bool n1, .string t1, .int .i64 f1], .int .i64 n, .agg #[.bool n1, .string t1, .int .i64 f1], .bool true, .bool true, .pointer (some ⟨w.heap.size, 0, none⟩), .agg #[.bool m, .string s], .int .i64 by', .agg #[.bool n2, .string t2, .int .i64 f2], .pointer (some ⟨w.heap.size, 0, none⟩), .agg #[.bool m, .string s], .int .i64 by', .agg #[.bool n2, .string t2, .int .i64 f2], .bool true, .bool true, .bool true, .agg #[.bool m, .string s, .int .i64 e], .agg #[.bool n3, .string t3, .int .i64 f3], .agg #[.bool m, .string s, .int .i64 e], .agg #[.bool n3, .string t3, .int .i64 f3], .bool true, .bool true, .bool true, .agg #[.bool m, .string s, .int .i64 e], .int .i64 c, .agg #[.bool m, .string s, .int .i64 e], .int .i64 c, .bool true, .bool true, .bool true, .agg #[.bool m, .string s, .int .i64 e], .agg #[.bool n4, .string t4, .int .i64 f4], .agg #[.bool m, .string s, .int .i64 e], .agg #[.bool n4, .string t4, .int .i64 f4], .bool true, .bool true, .bool true, sel l38 (.agg #[.bool m, .string s, .int .i64 e]) (undef), sel l39 (.agg #[.bool n3, .string t3, .int .i64 f3]) (undef), sel l40 (.agg #[.bool n3, .string t3, .int .i64 f3]) (undef), sel l41 (.bool true) (undef), sel l42 (.bool true) (undef), undef, undef, undef, undef, undef, undef, undef, undef, undef, undef, undef, undef], defers := [] } ∧ Below (w.heap.size) w Wn ∧ (Nk Wn (w.heap.size) m s e) ∧ (Nk Wn Q n3 t3 f3)) (by kernel_rfl) (by kernel_rfl) (by kernel_rfl) (by kernel_rfl) hf ?_ ?_ ?_ (by kernel_rfl) ?_ (by decide)
  · exact ⟨false, false, false, false, false, by kernel_rfl, by kernel_rfl, hb, hA, hS⟩
  · rintro L ac Wn ⟨l38, l39, l40, l41, l42, rfl, _⟩
    kernel_rfl
  · refine (seg_all (b := 43) [38, 39, 40, 41, 42] ?_ : ∀ j ∈ [38, 39, 40, 41, 42, 43], j ≠ 43 → _)
    refine lin_cons [] [39, 41, 42] rfl (by kernel_rfl) (by kernel_rfl) ?_ ?_
    · intro L ac Wn hI hi hds hus Kc hK
      obtain ⟨l38, l39, l40, l41, l42, rfl, hI⟩ := hI
      obtain rfl : l38 = false := hi
      obtain ⟨rfl, rfl, rfl, -⟩ : l39 = false ∧ l41 = false ∧ l42 = false ∧ True := hus
      simp only [sel_f] at hI
      obtain ⟨rfl, hb, hA, hS⟩ := hI
      obtain ⟨q0, q1, q2, q3, q4, q5⟩ := (hA).facts
      refine lin_yield (.agg #[.bool m, .string s, .int .i64 e]) rfl (by go_simp; first | done | with_reducible rfl) ?_
      exact hK.out _ _ ⟨true, false, l40, false, false, by kernel_rfl, by kernel_rfl, hb, (hA), (hS)⟩
    refine lin_cons [38] [41, 42] rfl (by kernel_rfl) (by kernel_rfl) ?_ ?_
    · intro L ac Wn hI hi hds hus Kc hK
      obtain ⟨l38, l39, l40, l41, l42, rfl, hI⟩ := hI
      obtain rfl : l39 = false := hi
      obtain ⟨rfl, -⟩ : l38 = true ∧ True := hds
      obtain ⟨rfl, rfl, -⟩ : l41 = false ∧ l42 = false ∧ True := hus
      simp only [sel_t, sel_f] at hI
      obtain ⟨rfl, hb, hA, hS⟩ := hI
      go_simp
      go_fit (yabs_any _ m s e (by omega) (by omega) n3 t3 f3 HD.out.2.2.2.2.1)
      rintro e V ⟨rfl, hq⟩
      exact hK.out _ _ ⟨true, true, l40, false, false, by kernel_rfl, by kernel_rfl, (below_next hb hq), (hA.below hq), (hS.below hq)⟩
    refine lin_cons [] [41, 42] rfl (by kernel_rfl) (by kernel_rfl) ?_ ?_
    · intro L ac Wn hI hi hds hus Kc hK
      obtain ⟨l38, l39, l40, l41, l42, rfl, hI⟩ := hI
      obtain rfl : l40 = false := hi
      obtain ⟨rfl, rfl, -⟩ : l41 = false ∧ l42 = false ∧ True := hus
      simp only [sel_f] at hI
      obtain ⟨rfl, hb, hA, hS⟩ := hI
      obtain ⟨q0, q1, q2, q3, q4, q5⟩ := (hS).facts
      refine lin_yield (.agg #[.bool n3, .string t3, .int .i64 f3]) rfl (by go_simp; first | done | with_reducible rfl) ?_
      exact hK.out _ _ ⟨l38, l39, true, false, false, by kernel_rfl, by kernel_rfl, hb, (hA), (hS)⟩
    refine lin_cons [38, 39, 40] [42] rfl (by kernel_rfl) (by kernel_rfl) ?_ ?_
    · intro L ac Wn hI hi hds hus Kc hK
      obtain ⟨l38, l39, l40, l41, l42, rfl, hI⟩ := hI
      obtain rfl : l41 = false := hi
      obtain ⟨rfl, rfl, rfl, -⟩ : l38 = true ∧ l39 = true ∧ l40 = true ∧ True := hds
      obtain ⟨rfl, -⟩ : l42 = false ∧ True := hus
      simp only [sel_t, sel_f] at hI
      obtain ⟨rfl, hb, hA, hS⟩ := hI
      refine lin_yield (.bool true) rfl (by go_simp; first | done | with_reducible rfl) ?_
      exact hK.out _ _ ⟨true, true, true, true, false, by kernel_rfl, by kernel_rfl, hb, (hA), (hS)⟩
    refine lin_cons [38, 39, 40, 41] [] rfl (by kernel_rfl) (by kernel_rfl) ?_ lin_nil
    intro L ac Wn hI hi hds hus Kc hK
    obtain ⟨l38, l39, l40, l41, l42, rfl, hI⟩ := hI
    obtain rfl : l42 = false := hi
    obtain ⟨rfl, rfl, rfl, rfl, -⟩ : l38 = true ∧ l39 = true ∧ l40 = true ∧ l41 = true ∧ True := hds
    simp only [sel_t, sel_f] at hI
    obtain ⟨rfl, hb, hA, hS⟩ := hI
    refine lin_yield (.bool true) rfl (by go_simp; first | done | with_reducible rfl) ?_
    exact hK.out _ _ ⟨true, true, true, true, true, by kernel_rfl, by kernel_rfl, hb, (hA), (hS)⟩
  refine bar_of [38, 39, 40, 41, 42] rfl (by kernel_rfl) ?_
  intro L ac Wn hI hds Kc hK
  obtain ⟨l38, l39, l40, l41, l42, rfl, hI⟩ := hI
  obtain ⟨rfl, rfl, rfl, rfl, rfl, -⟩ : l38 = true ∧ l39 = true ∧ l40 = true ∧ l41 = true ∧ l42 = true ∧ True := hds
  simp only [sel_t] at hI
  obtain ⟨rfl, hb, hA, hS⟩ := hI
  refine lin_yield (.bool true) rfl (by go_simp; first | done | with_reducible rfl) ?_
  refine hK.out _ _ (fun f hf => ?_)
  clear hK Kc
  refine lin_seg 56 [44, 45, 46, 47, 48, 49, 50, 51, 52] 52 (fun L ac Wn => ∃ l44 l45 l46 l47 l48 l49 l50 l51 : Bool, L = #[true, true, true, true, true, true, true, true, true, true, true, true, true, true, true, true, true, true, true, true, true, true, true, true, true, true, true, true, true, true, true, true, true, true, true, true, true, true, true, true, true, true, true, true, l44, l45, l46, l47, l48, l49, l50, l51, false, false, false, false] ∧ ac = { tmps := #[.agg #[.bool m, .string s, .int .i64 e], .int .i64 n, .int .i64 by', .pointer (some ⟨w.heap.size, 0, none⟩), undef, undef, .bool false, .pointer (some ⟨Q, 0, none⟩), .agg #[.bool m, .string s, .int .i64 e], .slice (some ⟨w.heap.size + 1, 0, none⟩) 1 1, .bool false, .bool false, .int .i64 by', .bool false, .bool false, .bool false, .int .i64 by', .bool false, .bool false, undef, .agg #[.bool m, .string s, .int .i64 e], .agg #[.bool n3, .string t3, .int .i64 f3], .agg #[.bool m, .string s, .int .i64 e], .int .i64 c, .bool false, undef, undef, .int .i64 n, .agg #[.bool n1, .string t1, .int .i64 f1], .int .i64 n, .agg #[.bool n1, .string t1, .int .i64 f1], .bool true, .bool true, .pointer (some ⟨w.heap.size, 0, none⟩), .agg #[.bool m, .string s], .int .i64 by', .agg #[.bool n2, .string t2, .int .i64 f2], .pointer (some ⟨w.heap.size, 0, none⟩), .agg #[.bool m, .string s], .int .i64 by', .agg #[.bool n2, .string t2, .int .i64 f2], .bool true, .bool true, .bool true, .agg #[.bool m, .string s, .int .i64 e], .agg #[.bool n3, .string t3, .int .i64 f3], .agg #[.bool m, .string s, .int .i64 e], .agg #[.bool n3, .string t3, .int .i64 f3], .bool true, .bool true, .bool true, .agg #[.bool m, .string s, .int .i64 e], .int .i64 c, .agg #[.bool m, .string s, .int .i64 e], .int .i64 c, .bool true, .bool true, .bool true, .agg #[.bool m, .string s, .int .i64 e], .agg #[.bool n4, .string t4, .int .i64 f4], .agg #[.bool m, .string s, .int .i64 e], .agg #[.bool n4, .string t4, .int .i64 f4], .bool true, .bool true, .bool true, .agg #[.bool m, .string s, .int .i64 e], .agg #[.bool n3, .string t3, .int .i64 f3], .agg #[.bool n3, .string t3, .int .i64 f3], .bool true, .bool true, .bool true, sel l44 (.agg #[.bool m, .string s, .int .i64 e]) (undef), sel l45 (.int .i64 by') (undef), sel l46 (.agg #[.bool n6, .string t6, .int .i64 f6]) (undef), sel l47 (.agg #[.bool m, .string s, .int .i64 e]) (undef), sel l48 (.int .i64 by') (undef), sel l49 (.agg #[.bool n6, .string t6, .int .i64 f6]) (undef), sel l50 (.bool true) (undef), sel l51 (.bool true) (undef), undef, undef, undef], defers := [] } ∧ Below (w.heap.size) w Wn ∧ (Nk Wn (w.heap.size) m s e) ∧ (Nk Wn Q n3 t3 f3)) (by kernel_rfl) (by kernel_rfl) (by kernel_rfl) (by kernel_rfl) hf ?_ ?_ ?_ (by kernel_rfl) ?_ (by decide)
  · exact ⟨false, false, false, false, false, false, false, false, by kernel_rfl, by kernel_rfl, hb, hA, hS⟩
  · rintro L ac Wn ⟨l44, l45, l46, l47, l48, l49, l50, l51, rfl, _⟩
    kernel_rfl
  · refine (seg_all (b := 52) [44, 45, 46, 47, 48, 49, 50, 51] ?_ : ∀ j ∈ [44, 45, 46, 47, 48, 49, 50, 51, 52], j ≠ 52 → _)
    refine lin_cons [] [46, 49, 50, 51] rfl (by kernel_rfl) (by kernel_rfl) ?_ ?_
    · intro L ac Wn hI hi hds hus Kc hK
      obtain ⟨l44, l45, l46, l47, l48, l49, l50, l51, rfl, hI⟩ := hI
      obtain rfl : l44 = false := hi
      obtain ⟨rfl, rfl, rfl, rfl, -⟩ : l46 = false ∧ l49 = false ∧ l50 = false ∧ l51 = false ∧ True := hus
      simp only [sel_f] at hI
      obtain ⟨rfl, hb, hA, hS⟩ := hI
      obtain ⟨q0, q1, q2, q3, q4, q5⟩ := (hA).facts
      refine lin_yield (.agg #[.bool m, .string s, .int .i64 e]) rfl (by go_simp; first | done | with_reducible rfl) ?_
      exact hK.out _ _ ⟨true, l45, false, l47, l48, false, false, false, by kernel_rfl, by kernel_rfl, hb, (hA), (hS)⟩
    refine lin_cons [] [46, 49, 50, 51] rfl (by kernel_rfl) (by kernel_rfl) ?_ ?_
    · intro L ac Wn hI hi hds hus Kc hK
      obtain ⟨l44, l45, l46, l47, l48, l49, l50, l51, rfl, hI⟩ := hI
      obtain rfl : l45 = false := hi
      obtain ⟨rfl, rfl, rfl, rfl, -⟩ : l46 = false ∧ l49 = false ∧ l50 = false ∧ l51 = false ∧ True := hus
      simp only [sel_f] at hI
      obtain ⟨rfl, hb, hA, hS⟩ := hI
      refine lin_yield (.int .i64 by') rfl (by go_simp; first | done | with_reducible rfl) ?_
      exact hK.out _ _ ⟨l44, true, false, l47, l48, false, false, false, by kernel_rfl, by kernel_rfl, hb, (hA), (hS)⟩
    refine lin_cons [44, 45] [49, 50, 51] rfl (by kernel_rfl) (by kernel_rfl) ?_ ?_
    · intro L ac Wn hI hi hds hus Kc hK
      obtain ⟨l44, l45, l46, l47, l48, l49, l50, l51, rfl, hI⟩ := hI
      obtain rfl : l46 = false := hi
      obtain ⟨rfl, rfl, -⟩ : l44 = true ∧ l45 = true ∧ True := hds
      obtain ⟨rfl, rfl, rfl, -⟩ : l49 = false ∧ l50 = false ∧ l51 = false ∧ True := hus
      simp only [sel_t, sel_f] at hI
      obtain ⟨rfl, hb, hA, hS⟩ := hI
      go_simp
      go_fit (yshift_any _ m s e by' (by omega) (by omega) (by omega) n6 t6 f6 HD.out.2.2.2.2.2.1)
      rintro e V ⟨rfl, hq⟩
      exact hK.out _ _ ⟨true, true, true, l47, l48, false, false, false, by kernel_rfl, by kernel_rfl, (below_next hb hq), (hA.below hq), (hS.below hq)⟩
    refine lin_cons [] [49, 50, 51] rfl (by kernel_rfl) (by kernel_rfl) ?_ ?_
    · intro L ac Wn hI hi hds hus Kc hK
      obtain ⟨l44, l45, l46, l47, l48, l49, l50, l51, rfl, hI⟩ := hI
      obtain rfl : l47 = false := hi
      obtain ⟨rfl, rfl, rfl, -⟩ : l49 = false ∧ l50 = false ∧ l51 = false ∧ True := hus
      simp only [sel_f] at hI
      obtain ⟨rfl, hb, hA, hS⟩ := hI
      obtain ⟨q0, q1, q2, q3, q4, q5⟩ := (hA).facts
      refine lin_yield (.agg #[.bool m, .string s, .int .i64 e]) rfl (by go_simp; first | done | with_reducible rfl) ?_
      exact hK.out _ _ ⟨l44, l45, l46, true, l48, false, false, false, by kernel_rfl, by kernel_rfl, hb, (hA), (hS)⟩
    refine lin_cons [] [49, 50, 51] rfl (by kernel_rfl) (by kernel_rfl) ?_ ?_
    · intro L ac Wn hI hi hds hus Kc hK
      obtain ⟨l44, l45, l46, l47, l48, l49, l50, l51, rfl, hI⟩ := hI
      obtain rfl : l48 = false := hi
      obtain ⟨rfl, rfl, rfl, -⟩ : l49 = false ∧ l50 = false ∧ l51 = false ∧ True := hus
      simp only [sel_f] at hI
      obtain ⟨rfl, hb, hA, hS⟩ := hI
      refine lin_yield (.int .i64 by') rfl (by go_simp; first | done | with_reducible rfl) ?_
      exact hK.out _ _ ⟨l44, l45, l46, l47, true, false, false, false, by kernel_rfl, by kernel_rfl, hb, (hA), (hS)⟩
    refine lin_cons [44, 45, 46, 47, 48] [50, 51] rfl (by kernel_rfl) (by kernel_rfl) ?_ ?_
    · intro L ac Wn hI hi hds hus Kc hK
      obtain ⟨l44, l45, l46, l47, l48, l49, l50, l51, rfl, hI⟩ := hI
      obtain rfl : l49 = false := hi
      obtain ⟨rfl, rfl, rfl, rfl, rfl, -⟩ : l44 = true ∧ l45 = true ∧ l46 = true ∧ l47 = true ∧ l48 = true ∧ True := hds
      obtain ⟨rfl, rfl, -⟩ : l50 = false ∧ l51 = false ∧ True := hus
      simp only [sel_t, sel_f] at hI
      obtain ⟨rfl, hb, hA, hS⟩ := hI
      go_simp
      go_fit (ryshift_any _ m s e by' (by omega) (by omega) (by omega) n6 t6 f6 HD.out.2.2.2.2.2.1)
      rintro e V ⟨rfl, hq⟩
      exact hK.out _ _ ⟨true, true, true, true, true, true, false, false, by kernel_rfl, by kernel_rfl, (below_next hb hq), (hA.below hq), (hS.below hq)⟩
    refine lin_cons [44, 45, 46, 47, 48, 49] [51] rfl (by kernel_rfl) (by kernel_rfl) ?_ ?_
    · intro L ac Wn hI hi hds hus Kc hK
      obtain ⟨l44, l45, l46, l47, l48, l49, l50, l51, rfl, hI⟩ := hI
      obtain rfl : l50 = false := hi
      obtain ⟨rfl, rfl, rfl, rfl, rfl, rfl, -⟩ : l44 = true ∧ l45 = true ∧ l46 = true ∧ l47 = true ∧ l48 = true ∧ l49 = true ∧ True := hds
      obtain ⟨rfl, -⟩ : l51 = false ∧ True := hus
      simp only [sel_t, sel_f] at hI
      obtain ⟨rfl, hb, hA, hS⟩ := hI
      refine lin_yield (.bool true) rfl (by go_simp; first | done | with_reducible rfl) ?_
      exact hK.out _ _ ⟨true, true, true, true, true, true, true, false, by kernel_rfl, by kernel_rfl, hb, (hA), (hS)⟩
    refine lin_cons [44, 45, 46, 47, 48, 49, 50] [] rfl (by kernel_rfl) (by kernel_rfl) ?_ lin_nil
    intro L ac Wn hI hi hds hus Kc hK
    obtain ⟨l44, l45, l46, l47, l48, l49, l50, l51, rfl, hI⟩ := hI
    obtain rfl : l51 = false := hi
    obtain ⟨rfl, rfl, rfl, rfl, rfl, rfl, rfl, -⟩ : l44 = true ∧ l45 = true ∧ l46 = true ∧ l47 = true ∧ l48 = true ∧ l49 = true ∧ l50 = true ∧ True := hds
    simp only [sel_t, sel_f] at hI
    obtain ⟨rfl, hb, hA, hS⟩ := hI
    refine lin_yield (.bool true) rfl (by go_simp; first | done | with_reducible rfl) ?_
    exact hK.out _ _ ⟨true, true, true, true, true, true, true, true, by kernel_rfl, by kernel_rfl, hb, (hA), (hS)⟩
  refine bar_of [44, 45, 46, 47, 48, 49, 50, 51] rfl (by kernel_rfl) ?_
  intro L ac Wn hI hds Kc hK
  obtain ⟨l44, l45, l46, l47, l48, l49, l50, l51, rfl, hI⟩ := hI
  obtain ⟨rfl, rfl, rfl, rfl, rfl, rfl, rfl, rfl, -⟩ : l44 = true ∧ l45 = true ∧ l46 = true ∧ l47 = true ∧ l48 = true ∧ l49 = true ∧ l50 = true ∧ l51 = true ∧ True := hds
  simp only [sel_t] at hI
  obtain ⟨rfl, hb, hA, hS⟩ := hI
  refine lin_yield (.bool true) rfl (by go_simp; first | done | with_reducible rfl) ?_
  refine hK.out _ _ (fun f hf => ?_)
  clear hK Kc
  refine lin_seg 56 [53, 54, 55] 55 (fun L ac Wn => ∃ l53 l54 : Bool, L = #[true, true, true, true, true, true, true, true, true, true, true, true, true, true, true, true, true, true, true, true, true, true, true, true, true, true, true, true, true, true, true, true, true, true, true, true, true, true, true, true, true, true, true, true, true, true, true, true, true, true, true, true, true, l53, l54, false] ∧ ac = { tmps := #[.agg #[.bool m, .string s, .int .i64 e], .int .i64 n, .int .i64 by', .pointer (some ⟨w.heap.size, 0, none⟩), undef, undef, .bool false, .pointer (some ⟨Q, 0, none⟩), .agg #[.bool m, .string s, .int .i64 e], .slice (some ⟨w.heap.size + 1, 0, none⟩) 1 1, .bool false, .bool false, .int .i64 by', .bool false, .bool false, .bool false, .int .i64 by', .bool false, .bool false, undef, .agg #[.bool m, .string s, .int .i64 e], .agg #[.bool n3, .string t3, .int .i64 f3], .agg #[.bool m, .string s, .int .i64 e], .int .i64 c, .bool false, undef, undef, .int .i64 n, .agg #[.bool n1, .string t1, .int .i64 f1], .int .i64 n, .agg #[.bool n1, .string t1, .int .i64 f1], .bool true, .bool true, .pointer (some ⟨w.heap.size, 0, none⟩), .agg #[.bool m, .string s], .int .i64 by', .agg #[.bool n2, .string t2, .int .i64 f2], .pointer (some ⟨w.heap.size, 0, none⟩), .agg #[.bool m, .string s], .int .i64 by', .agg #[.bool n2, .string t2, .int .i64 f2], .bool true, .bool true, .bool true, .agg #[.bool m, .string s, .int .i64 e], .agg #[.bool n3, .string t3, .int .i64 f3], .agg #[.bool m, .string s, .int .i64 e], .agg #[.bool n3, .string t3, .int .i64 f3], .bool true, .bool true, .bool true, .agg #[.bool m, .string s, .int .i64 e], .int .i64 c, .agg #[.bool m, .string s, .int .i64 e], .int .i64 c, .bool true, .bool true, .bool true, .agg #[.bool m, .string s, .int .i64 e], .agg #[.bool n4, .string t4, .int .i64 f4], .agg #[.bool m, .string s, .int .i64 e], .agg #[.bool n4, .string t4, .int .i64 f4], .bool true, .bool true, .bool true, .agg #[.bool m, .string s, .int .i64 e], .agg #[.bool n3, .string t3, .int .i64 f3], .agg #[.bool n3, .string t3, .int .i64 f3], .bool true, .bool true, .bool true, .agg #[.bool m, .string s, .int .i64 e], .int .i64 by', .agg #[.bool n6, .string t6, .int .i64 f6], .agg #[.bool m, .string s, .int .i64 e], .int .i64 by', .agg #[.bool n6, .string t6, .int .i64 f6], .bool true, .bool true, .bool true, sel l53 (.bool true) (undef), sel l54 (.bool true) (undef)], defers := [] } ∧ Below (w.heap.size) w Wn ∧ (Nk Wn (w.heap.size) m s e) ∧ (Nk Wn Q n3 t3 f3)) (by kernel_rfl) (by kernel_rfl) (by kernel_rfl) (by kernel_rfl) hf ?_ ?_ ?_ (by kernel_rfl) ?_ (by decide)
  · exact ⟨false, false, by kernel_rfl, by kernel_rfl, hb, hA, hS⟩
  · rintro L ac Wn ⟨l53, l54, rfl, _⟩
    kernel_rfl
  · refine (seg_all (b := 55) [53, 54] ?_ : ∀ j ∈ [53, 54, 55], j ≠ 55 → _)
    refine lin_cons [] [54] rfl (by kernel_rfl) (by kernel_rfl) ?_ ?_
    · intro L ac Wn hI hi hds hus Kc hK
      obtain ⟨l53, l54, rfl, hI⟩ := hI
      obtain rfl : l53 = false := hi
      obtain ⟨rfl, -⟩ : l54 = false ∧ True := hus
      simp only [sel_f] at hI
      obtain ⟨rfl, hb, hA, hS⟩ := hI
      go_simp
      go_fit (yawake_any _)
      rintro e V ⟨rfl, hq⟩
      exact hK.out _ _ ⟨true, false, by kernel_rfl, by kernel_rfl, (below_next hb hq), (hA.below hq), (hS.below hq)⟩
    refine lin_cons [53] [] rfl (by kernel_rfl) (by kernel_rfl) ?_ lin_nil
    intro L ac Wn hI hi hds hus Kc hK
    obtain ⟨l53, l54, rfl, hI⟩ := hI
    obtain rfl : l54 = false := hi
    obtain ⟨rfl, -⟩ : l53 = true ∧ True := hds
    simp only [sel_t, sel_f] at hI
    obtain ⟨rfl, hb, hA, hS⟩ := hI
    refine lin_yield (.bool true) rfl (by go_simp; first | done | with_reducible rfl) ?_
    exact hK.out _ _ ⟨true, true, by kernel_rfl, by kernel_rfl, hb, (hA), (hS)⟩
  refine bar_of [53, 54] rfl (by kernel_rfl) ?_
  intro L ac Wn hI hds Kc hK
  obtain ⟨l53, l54, rfl, hI⟩ := hI
  obtain ⟨rfl, rfl, -⟩ : l53 = true ∧ l54 = true ∧ True := hds
  simp only [sel_t] at hI
  obtain ⟨rfl, hb, hA, hS⟩ := hI
  refine lin_yield (.bool true) rfl (by go_simp; first | done | with_reducible rfl) ?_
  refine hK.out _ _ (fun f hf => wpAnyH_done (by kernel_rfl) ?_ _)
  clear hK Kc hf
  go_wp2
  go_ret
  exact ⟨rfl, hb⟩
end Go.Proofs.YtpahmnifkinpiaaGreatDoor
