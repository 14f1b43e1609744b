/- DyadGrid: a number that is 0; walked. -/
import Derived.Test.YtpahmnifkinpiaaGreatDoorYGrid0
import Derived.Test.YtpahmnifkinpiaaGreatDoorYAwake
import Derived.Test.YtpahmnifkinpiaaGreatDoorYFormsL
import Derived.Test.YtpahmnifkinpiaaGreatDoorHL
namespace Go.Proofs.YtpahmnifkinpiaaGreatDoor
open Go.RowKit Go.Shelf

set_option maxRecDepth 100000 in
set_option maxHeartbeats 6400000 in
theorem grid_on0 (w : World) (m : Bool) (s : ByteArray) (e : Int) (hbd : s.size ≤ 150 ∧ -500 ≤ e ∧ e ≤ 500) (HR : Hid (longD 150 500 [(m, s, e)] = false)) (p : Int) (hp : -1000 ≤ p ∧ p ≤ 1000) (c1 c2 : Int) (HK : Hid (df ((nv m s e).roundDown p) = nu false ⟨#[]⟩ 0 ∧ df (ceilD (nv m s e) p) = nu false ⟨#[]⟩ 0 ∧ df (nv m s e) = nu false ⟨#[]⟩ 0 ∧ dsg (nv false ⟨#[]⟩ 0 - nv m s e) = c1 ∧ dsg (nv m s e - nv false ⟨#[]⟩ 0) = c2 ∧ True ∧ df (nv false ⟨#[1]⟩ (0 + -p)) = nu false ⟨#[1]⟩ (-p))) (HO : Hid (Ok3 ⟨#[]⟩ 0 ∧ Ok3 ⟨#[]⟩ 0 ∧ Ok3 ⟨#[]⟩ 0 ∧ Ok3 s e)) (h01 : decide (0 < c1) = false) (h02 : decide (0 < c2) = false)  :
    Calls Tryz.prog 9 #[nu m s e, .int .i64 p] w (Ret (.bool true) w) := by
  have d1 : decide (p < -1000) = false := decide_eq_false (by omega)
  have d2 : decide (1000 < p) = false := decide_eq_false (by omega)
  have hnp : IntKind.i64.wrap (-p) = -p := by rw [IntKind.wrap_i64]; omega
  have hsz : s.size ≤ 150 := hbd.1
  unfold nu
  go_enter Tryz.func9, Tryz.ntmps9
  go_wp2_with fail
  have hb := ((Below.refl w.heap.size w).alloc (Nat.le_refl _) (Obj.cells #[Value.bool m, Value.string s, Value.int IntKind.i64 e] 25)).alloc (by rw [World.size_alloc]; omega) (Obj.cells #[Value.bool m, Value.string s, Value.int IntKind.i64 e] 25)
  have hA := (Nk.new w m s e).alloc (Obj.cells #[Value.bool m, Value.string s, Value.int IntKind.i64 e] 25)
  have hrow := NAt.new (w.alloc (Obj.cells #[Value.bool m, Value.string s, Value.int IntKind.i64 e] 25)) 25 [(m, s, e)] #[.bool m, .string s, .int .i64 e] rfl
  rw [World.size_alloc] at hrow
  generalize ((w.alloc (Obj.cells #[Value.bool m, Value.string s, Value.int IntKind.i64 e] 25)).alloc (Obj.cells #[Value.bool m, Value.string s, Value.int IntKind.i64 e] 25)) = W0 at *
  refine (longd_any _ 150 500 (by omega) _ [(m, s, e)] 1 1 rfl (by omega) hrow).mono ?_
  rintro e9 W ⟨rfl, hq⟩
  replace hb := below_next hb hq
  replace hA := hA.below hq
  clear hq hrow
  rw [HR.out]
  obtain ⟨hA0, hA1, hA2⟩ := hA.cells
  go_wp2_with fail
  refine region_segs (n := 10) #[false, false, false, false, false, false, false, false, false, false] (by kernel_rfl) (by kernel_rfl) (by kernel_rfl) ?_
  intro fu hf
  refine lin_seg 10 [0, 1, 2, 3, 4, 5, 6, 7, 8, 9] 9 (fun L ac Wn => ∃ l0 l1 l2 l3 l4 l5 l6 l7 l8 : Bool, L = #[l0, l1, l2, l3, l4, l5, l6, l7, l8, false] ∧ ∃ p5 p6 : Nat, ac = { tmps := #[.agg #[.bool m, .string s, .int .i64 e], .int .i64 p, .pointer (some ⟨w.heap.size, 0, none⟩), undef, .bool false, sel l6 (.pointer (some ⟨p5, 0, none⟩)) (undef), sel l7 (.pointer (some ⟨p6, 0, none⟩)) (undef), undef, undef, undef, .agg #[.bool m, .string s, .int .i64 e], .slice (some ⟨w.heap.size + 1, 0, none⟩) 1 1, .bool false, .bool false, .int .i64 p, .bool false, .bool false, .bool false, .int .i64 p, .bool false, .bool false, undef, sel l0 (.agg #[.bool m, .string s, .int .i64 e]) (undef), sel l1 (.int .i64 p) (undef), sel l2 (.agg #[.bool false, .string ⟨#[]⟩, .int .i64 0]) (undef), sel l3 (.agg #[.bool m, .string s, .int .i64 e]) (undef), sel l4 (.int .i64 p) (undef), sel l5 (.agg #[.bool false, .string ⟨#[]⟩, .int .i64 0]) (undef), undef, undef, undef, undef, undef, undef, undef, undef, undef, undef, undef, undef, undef, undef, undef, undef, undef, undef, undef, undef, undef, undef, undef, undef, undef, undef, undef, undef, undef, undef, undef, undef, undef, undef, undef, undef, undef, undef, undef, undef, undef, undef, undef, undef, undef, undef, undef, undef, undef, undef, undef, undef, undef, undef, undef, undef, undef, undef, undef, undef, undef, undef, undef, undef, undef, undef, undef, undef, undef], defers := [] } ∧ Below (w.heap.size) w Wn ∧ (Nk Wn (w.heap.size) m s e) ∧ (On l6 → Off l8 → Nk Wn p5 false ⟨#[]⟩ 0) ∧ (On l8 → Nk Wn p5 false ⟨#[]⟩ 0) ∧ (On l7 → Nk Wn p6 false ⟨#[]⟩ 0) ∧ (On l6 → w.heap.size ≤ p5) ∧ (On l7 → w.heap.size ≤ p6) ∧ (On l6 → w.heap.size ≠ p5) ∧ (On l6 → On l7 → p6 ≠ p5) ∧ (On l7 → w.heap.size ≠ p6)) (by kernel_rfl) (by kernel_rfl) (by kernel_rfl) (by kernel_rfl) hf ?_ ?_ ?_ (by kernel_rfl) ?_ (by decide)
  · exact ⟨false, false, false, false, false, false, false, false, false, by kernel_rfl, 0, 0, by kernel_rfl, hb.drew, hA.drew, (fun h _ => not_ft h), (fun h => not_ft h), (fun h => not_ft h), (fun h => not_ft h), (fun h => not_ft h), (fun h => not_ft h), (fun h _ => not_ft h), (fun h => not_ft h)⟩
  · rintro L ac Wn ⟨l0, l1, l2, l3, l4, l5, l6, l7, l8, rfl, _⟩
    kernel_rfl
  · refine (seg_all (b := 9) [0, 1, 2, 3, 4, 5, 6, 7, 8] ?_ : ∀ j ∈ [0, 1, 2, 3, 4, 5, 6, 7, 8, 9], j ≠ 9 → _)
    refine lin_cons [] [2, 5, 8] rfl (by kernel_rfl) (by kernel_rfl) ?_ ?_
    · intro L ac Wn hI hi hds hus Kc hK
      obtain ⟨l0, l1, l2, l3, l4, l5, l6, l7, l8, rfl, hI⟩ := hI
      obtain rfl : l0 = false := hi
      obtain ⟨rfl, rfl, rfl, -⟩ : l2 = false ∧ l5 = false ∧ l8 = false ∧ True := hus
      simp only [sel_f] at hI
      obtain ⟨p5, p6, rfl, hb, hA, hF, hF', hC, dF, dC, nFA, nFC, nCA⟩ := hI
      obtain ⟨q0, q1, q2, q3, q4, q5⟩ := (hA).facts
      refine lin_yield (.agg #[.bool m, .string s, .int .i64 e]) rfl (by go_simp; first | done | with_reducible rfl | assumption) ?_
      exact hK.out _ _ ⟨true, l1, false, l3, l4, false, l6, l7, false, by kernel_rfl, p5, p6, by kernel_rfl, hb, (hA), (fun z0 z1 => (hF z0 z1)), (fun h => not_ft h), (fun z0 => (hC z0)), (fun z0 => (dF z0)), (fun z0 => (dC z0)), (fun z0 => (nFA z0)), (fun z0 z1 => (nFC z0 z1)), (fun z0 => (nCA z0))⟩
    refine lin_cons [] [2, 5, 8] rfl (by kernel_rfl) (by kernel_rfl) ?_ ?_
    · intro L ac Wn hI hi hds hus Kc hK
      obtain ⟨l0, l1, l2, l3, l4, l5, l6, l7, l8, rfl, hI⟩ := hI
      obtain rfl : l1 = false := hi
      obtain ⟨rfl, rfl, rfl, -⟩ : l2 = false ∧ l5 = false ∧ l8 = false ∧ True := hus
      simp only [sel_f] at hI
      obtain ⟨p5, p6, rfl, hb, hA, hF, hF', hC, dF, dC, nFA, nFC, nCA⟩ := hI
      refine lin_yield (.int .i64 p) rfl (by go_simp; first | done | with_reducible rfl | assumption) ?_
      exact hK.out _ _ ⟨l0, true, false, l3, l4, false, l6, l7, false, by kernel_rfl, p5, p6, by kernel_rfl, hb, (hA), (fun z0 z1 => (hF z0 z1)), (fun h => not_ft h), (fun z0 => (hC z0)), (fun z0 => (dF z0)), (fun z0 => (dC z0)), (fun z0 => (nFA z0)), (fun z0 z1 => (nFC z0 z1)), (fun z0 => (nCA z0))⟩
    refine lin_cons [0, 1] [5, 8] rfl (by kernel_rfl) (by kernel_rfl) ?_ ?_
    · intro L ac Wn hI hi hds hus Kc hK
      obtain ⟨l0, l1, l2, l3, l4, l5, l6, l7, l8, rfl, hI⟩ := hI
      obtain rfl : l2 = false := hi
      obtain ⟨rfl, rfl, -⟩ : l0 = true ∧ l1 = true ∧ True := hds
      obtain ⟨rfl, rfl, -⟩ : l5 = false ∧ l8 = false ∧ True := hus
      simp only [sel_t, sel_f] at hI
      obtain ⟨p5, p6, rfl, hb, hA, hF, hF', hC, dF, dC, nFA, nFC, nCA⟩ := hI
      go_simp
      go_fit (yfloor_any _ m s e p (by omega) (by omega) (by omega) (false) (⟨#[]⟩) (0) HK.out.1)
      rintro e V ⟨rfl, hq⟩
      exact hK.out _ _ ⟨true, true, true, l3, l4, false, l6, l7, false, by kernel_rfl, p5, p6, by kernel_rfl, (below_next hb hq), (hA.below hq), (fun z0 z1 => (hF z0 z1).below hq), (fun h => not_ft h), (fun z0 => (hC z0).below hq), (fun z0 => (dF z0)), (fun z0 => (dC z0)), (fun z0 => (nFA z0)), (fun z0 z1 => (nFC z0 z1)), (fun z0 => (nCA z0))⟩
    refine lin_cons [] [5, 8] rfl (by kernel_rfl) (by kernel_rfl) ?_ ?_
    · intro L ac Wn hI hi hds hus Kc hK
      obtain ⟨l0, l1, l2, l3, l4, l5, l6, l7, l8, rfl, hI⟩ := hI
      obtain rfl : l3 = false := hi
      obtain ⟨rfl, rfl, -⟩ : l5 = false ∧ l8 = false ∧ True := hus
      simp only [sel_f] at hI
      obtain ⟨p5, p6, rfl, hb, hA, hF, hF', hC, dF, dC, nFA, nFC, nCA⟩ := hI
      obtain ⟨q0, q1, q2, q3, q4, q5⟩ := (hA).facts
      refine lin_yield (.agg #[.bool m, .string s, .int .i64 e]) rfl (by go_simp; first | done | with_reducible rfl | assumption) ?_
      exact hK.out _ _ ⟨l0, l1, l2, true, l4, false, l6, l7, false, by kernel_rfl, p5, p6, by kernel_rfl, hb, (hA), (fun z0 z1 => (hF z0 z1)), (fun h => not_ft h), (fun z0 => (hC z0)), (fun z0 => (dF z0)), (fun z0 => (dC z0)), (fun z0 => (nFA z0)), (fun z0 z1 => (nFC z0 z1)), (fun z0 => (nCA z0))⟩
    refine lin_cons [] [5, 8] rfl (by kernel_rfl) (by kernel_rfl) ?_ ?_
    · intro L ac Wn hI hi hds hus Kc hK
      obtain ⟨l0, l1, l2, l3, l4, l5, l6, l7, l8, rfl, hI⟩ := hI
      obtain rfl : l4 = false := hi
      obtain ⟨rfl, rfl, -⟩ : l5 = false ∧ l8 = false ∧ True := hus
      simp only [sel_f] at hI
      obtain ⟨p5, p6, rfl, hb, hA, hF, hF', hC, dF, dC, nFA, nFC, nCA⟩ := hI
      refine lin_yield (.int .i64 p) rfl (by go_simp; first | done | with_reducible rfl | assumption) ?_
      exact hK.out _ _ ⟨l0, l1, l2, l3, true, false, l6, l7, false, by kernel_rfl, p5, p6, by kernel_rfl, hb, (hA), (fun z0 z1 => (hF z0 z1)), (fun h => not_ft h), (fun z0 => (hC z0)), (fun z0 => (dF z0)), (fun z0 => (dC z0)), (fun z0 => (nFA z0)), (fun z0 z1 => (nFC z0 z1)), (fun z0 => (nCA z0))⟩
    refine lin_cons [0, 1, 2, 3, 4] [8] rfl (by kernel_rfl) (by kernel_rfl) ?_ ?_
    · intro L ac Wn hI hi hds hus Kc hK
      obtain ⟨l0, l1, l2, l3, l4, l5, l6, l7, l8, rfl, hI⟩ := hI
      obtain rfl : l5 = false := hi
      obtain ⟨rfl, rfl, rfl, rfl, rfl, -⟩ : l0 = true ∧ l1 = true ∧ l2 = true ∧ l3 = true ∧ l4 = true ∧ True := hds
      obtain ⟨rfl, -⟩ : l8 = false ∧ True := hus
      simp only [sel_t, sel_f] at hI
      obtain ⟨p5, p6, rfl, hb, hA, hF, hF', hC, dF, dC, nFA, nFC, nCA⟩ := hI
      go_simp
      go_fit (use_yceil (by omega) (by omega) (by omega) HK.out.2.1)
      rintro e V ⟨rfl, hq⟩
      exact hK.out _ _ ⟨true, true, true, true, true, true, l6, l7, false, by kernel_rfl, p5, p6, by kernel_rfl, (below_next hb hq), (hA.below hq), (fun z0 z1 => (hF z0 z1).below hq), (fun h => not_ft h), (fun z0 => (hC z0).below hq), (fun z0 => (dF z0)), (fun z0 => (dC z0)), (fun z0 => (nFA z0)), (fun z0 z1 => (nFC z0 z1)), (fun z0 => (nCA z0))⟩
    refine lin_cons [] [8] rfl (by kernel_rfl) (by kernel_rfl) ?_ ?_
    · intro L ac Wn hI hi hds hus Kc hK
      obtain ⟨l0, l1, l2, l3, l4, l5, l6, l7, l8, rfl, hI⟩ := hI
      obtain rfl : l6 = false := hi
      obtain ⟨rfl, -⟩ : l8 = false ∧ True := hus
      simp only [sel_f] at hI
      obtain ⟨p5, p6, rfl, hb, hA, hF, hF', hC, dF, dC, nFA, nFC, nCA⟩ := hI
      go_simp
      exact hK.out _ _ ⟨l0, l1, l2, l3, l4, l5, true, l7, false, by kernel_rfl, _, p6, by kernel_rfl, (hb.alloc hb.size _), (hA.alloc _), (fun z0 z1 => Nk.new _ _ _ _), (fun h => not_ft h), (fun z0 => (hC z0).alloc _), (fun z0 => hb.size), (fun z0 => (dC z0)), (fun z0 => Nat.ne_of_lt ((hA).lt)), (fun z0 z1 => Nat.ne_of_lt ((hC z1).lt)), (fun z0 => (nCA z0))⟩
    refine lin_cons [] [8] rfl (by kernel_rfl) (by kernel_rfl) ?_ ?_
    · intro L ac Wn hI hi hds hus Kc hK
      obtain ⟨l0, l1, l2, l3, l4, l5, l6, l7, l8, rfl, hI⟩ := hI
      obtain rfl : l7 = false := hi
      obtain ⟨rfl, -⟩ : l8 = false ∧ True := hus
      simp only [sel_f] at hI
      obtain ⟨p5, p6, rfl, hb, hA, hF, hF', hC, dF, dC, nFA, nFC, nCA⟩ := hI
      go_simp
      exact hK.out _ _ ⟨l0, l1, l2, l3, l4, l5, l6, true, false, by kernel_rfl, p5, _, by kernel_rfl, (hb.alloc hb.size _), (hA.alloc _), (fun z0 z1 => (hF z0 z1).alloc _), (fun h => not_ft h), (fun z0 => Nk.new _ _ _ _), (fun z0 => (dF z0)), (fun z0 => hb.size), (fun z0 => (nFA z0)), (fun z0 z1 => Nat.ne_of_gt ((hF z0 rfl).lt)), (fun z0 => Nat.ne_of_lt ((hA).lt))⟩
    refine lin_cons [0, 1, 2, 3, 4, 5, 6, 7] [] rfl (by kernel_rfl) (by kernel_rfl) ?_ lin_nil
    intro L ac Wn hI hi hds hus Kc hK
    obtain ⟨l0, l1, l2, l3, l4, l5, l6, l7, l8, rfl, hI⟩ := hI
    obtain rfl : l8 = false := hi
    obtain ⟨rfl, rfl, rfl, rfl, rfl, rfl, rfl, rfl, -⟩ : l0 = true ∧ l1 = true ∧ l2 = true ∧ l3 = true ∧ l4 = true ∧ l5 = true ∧ l6 = true ∧ l7 = true ∧ True := hds
    simp only [sel_t] at hI
    obtain ⟨p5, p6, rfl, hb, hA, hF, hF', hC, dF, dC, nFA, nFC, nCA⟩ := hI
    obtain ⟨q0, q1, q2, q3, q4, q5⟩ := (hF rfl rfl).facts
    have edF := dF rfl
    have edC := dC rfl
    have enFA := nFA rfl
    have enFC := nFC rfl rfl
    have enCA := nCA rfl
    go_simp
    exact hK.out _ _ ⟨true, true, true, true, true, true, true, true, true, by kernel_rfl, p5, p6, by kernel_rfl, (((hb.setCell (p := ⟨p5, 0, none⟩) (by show w.heap.size ≤ p5; omega) (.bool false)).setCell (p := ⟨p5, 1, none⟩) (by show w.heap.size ≤ p5; omega) (.string ⟨#[]⟩)).setCell (p := ⟨p5, 2, none⟩) (by show w.heap.size ≤ p5; omega) (.int .i64 0)), ((((hA).far (p := ⟨p5, 0, none⟩) (by show w.heap.size ≠ p5; omega) (.bool false)).far (p := ⟨p5, 1, none⟩) (by show w.heap.size ≠ p5; omega) (.string ⟨#[]⟩)).far (p := ⟨p5, 2, none⟩) (by show w.heap.size ≠ p5; omega) (.int .i64 0)), (fun _ h => not_tf h), (fun _ => (hF rfl rfl).set3 (false) (⟨#[]⟩) (0)), (fun z0 => ((((hC z0)).far (p := ⟨p5, 0, none⟩) (by show p6 ≠ p5; omega) (.bool false)).far (p := ⟨p5, 1, none⟩) (by show p6 ≠ p5; omega) (.string ⟨#[]⟩)).far (p := ⟨p5, 2, none⟩) (by show p6 ≠ p5; omega) (.int .i64 0)), (fun z0 => (dF z0)), (fun z0 => (dC z0)), (fun z0 => (nFA z0)), (fun z0 z1 => (nFC z0 z1)), (fun z0 => (nCA z0))⟩
  refine bar_of [0, 1, 2, 3, 4, 5, 6, 7, 8] rfl (by kernel_rfl) ?_
  intro L ac Wn hI hds Kc hK
  obtain ⟨l0, l1, l2, l3, l4, l5, l6, l7, l8, rfl, hI⟩ := hI
  obtain ⟨rfl, rfl, rfl, rfl, rfl, rfl, rfl, rfl, rfl, -⟩ : l0 = true ∧ l1 = true ∧ l2 = true ∧ l3 = true ∧ l4 = true ∧ l5 = true ∧ l6 = true ∧ l7 = true ∧ l8 = true ∧ True := hds
  simp only [sel_t] at hI
  obtain ⟨p5, p6, rfl, hb, hA, hF, hF', hC, dF, dC, nFA, nFC, nCA⟩ := hI
  clear hF
  replace hF' := hF' rfl
  replace hC := hC rfl
  replace dF := dF rfl
  replace dC := dC rfl
  replace nFA := nFA rfl
  replace nFC := nFC rfl rfl
  replace nCA := nCA rfl
  have hF := hF'
  clear hF'
  obtain ⟨q0, q1, q2, q3, q4, q5⟩ := (hC).facts
  go_simp
  replace hA := (((hA).far (p := ⟨p6, 0, none⟩) (by show w.heap.size ≠ p6; omega) (.bool false)).far (p := ⟨p6, 1, none⟩) (by show w.heap.size ≠ p6; omega) (.string ⟨#[]⟩)).far (p := ⟨p6, 2, none⟩) (by show w.heap.size ≠ p6; omega) (.int .i64 0)
  replace hF := (((hF).far (p := ⟨p6, 0, none⟩) (by show p5 ≠ p6; omega) (.bool false)).far (p := ⟨p6, 1, none⟩) (by show p5 ≠ p6; omega) (.string ⟨#[]⟩)).far (p := ⟨p6, 2, none⟩) (by show p5 ≠ p6; omega) (.int .i64 0)
  replace hC := (hC).set3 (false) (⟨#[]⟩) (0)
  replace hb := (((hb.setCell (p := ⟨p6, 0, none⟩) (by show w.heap.size ≤ p6; omega) (.bool false)).setCell (p := ⟨p6, 1, none⟩) (by show w.heap.size ≤ p6; omega) (.string ⟨#[]⟩)).setCell (p := ⟨p6, 2, none⟩) (by show w.heap.size ≤ p6; omega) (.int .i64 0))
  refine hK.out _ _ (fun fu hf => wpAnyH_done (by kernel_rfl) ?_ _)
  clear hK Kc hf
  generalize (((Wn.setCell ⟨p6, 0, none⟩ (.bool false)).setCell ⟨p6, 1, none⟩ (.string ⟨#[]⟩)).setCell ⟨p6, 2, none⟩ (.int .i64 0)) = W1 at *
  clear q0 q1 q2 q3 q4 q5 hA0 hA1 hA2
  obtain ⟨hA0, hA1, hA2⟩ := hA.cells
  go_wp2_with fail
  refine (use_yform HO.out.2.2.2 HK.out.2.2.1).mono ?_
  rintro e9 W2 ⟨rfl, hq⟩
  replace hb := below_next hb hq
  replace hA := hA.below hq
  replace hF := hF.below hq
  replace hC := hC.below hq
  clear hq hA0 hA1 hA2
  have hX := Nk.new W2 (false) (⟨#[]⟩) (0)
  replace hA := hA.alloc (Obj.cells #[Value.bool false, Value.string ⟨#[]⟩, Value.int IntKind.i64 0] 25)
  replace hF := hF.alloc (Obj.cells #[Value.bool false, Value.string ⟨#[]⟩, Value.int IntKind.i64 0] 25)
  replace hC := hC.alloc (Obj.cells #[Value.bool false, Value.string ⟨#[]⟩, Value.int IntKind.i64 0] 25)
  replace hb := hb.alloc hb.size (Obj.cells #[Value.bool false, Value.string ⟨#[]⟩, Value.int IntKind.i64 0] 25)
  go_wp2_with fail
  generalize (W2.alloc (Obj.cells #[Value.bool false, Value.string ⟨#[]⟩, Value.int IntKind.i64 0] 25)) = W3 at *
  generalize W2.heap.size = QX at *
  refine (yof_any _ 1 (by omega) (by omega) false ⟨#[1]⟩ 0 (by kernel_rfl)).mono ?_
  rintro e9 W4 ⟨rfl, hq⟩
  replace hb := below_next hb hq
  replace hA := hA.below hq
  replace hF := hF.below hq
  replace hC := hC.below hq
  replace hX := hX.below hq
  clear hq
  go_wp2_with fail
  refine (yshift_any _ false ⟨#[1]⟩ 0 (-p) (by decide) (by omega) (by omega) false ⟨#[1]⟩ (-p) HK.out.2.2.2.2.2.2).mono ?_
  rintro e9 W5 ⟨rfl, hq⟩
  replace hb := below_next hb hq
  replace hA := hA.below hq
  replace hF := hF.below hq
  replace hC := hC.below hq
  replace hX := hX.below hq
  clear hq
  have hS := Nk.new W5 false ⟨#[1]⟩ (-p)
  replace hA := hA.alloc (Obj.cells #[Value.bool false, Value.string { data := #[1] }, Value.int IntKind.i64 (-p)] 25)
  replace hF := hF.alloc (Obj.cells #[Value.bool false, Value.string { data := #[1] }, Value.int IntKind.i64 (-p)] 25)
  replace hC := hC.alloc (Obj.cells #[Value.bool false, Value.string { data := #[1] }, Value.int IntKind.i64 (-p)] 25)
  replace hX := hX.alloc (Obj.cells #[Value.bool false, Value.string { data := #[1] }, Value.int IntKind.i64 (-p)] 25)
  replace hb := hb.alloc hb.size (Obj.cells #[Value.bool false, Value.string { data := #[1] }, Value.int IntKind.i64 (-p)] 25)
  go_wp2_with fail
  generalize (W5.alloc (Obj.cells #[Value.bool false, Value.string { data := #[1] }, Value.int IntKind.i64 (-p)] 25)) = W6 at *
  generalize W5.heap.size = QS at *
  refine region_segs (n := 28) #[false, false, false, false, false, false, false, false, false, false, false, false, false, false, false, false, false, false, false, false, false, false, false, false, false, false, false, false] (by kernel_rfl) (by kernel_rfl) (by kernel_rfl) ?_
  intro fu hf
  refine lin_seg 28 [0, 1, 2, 3, 4] 4 (fun L ac Wn => ∃ l0 l1 l2 l3 : Bool, L = #[l0, l1, l2, l3, false, false, false, false, false, false, false, false, false, false, false, false, false, false, false, false, false, false, false, false, false, false, false, false] ∧ ac = { tmps := #[.agg #[.bool m, .string s, .int .i64 e], .int .i64 p, .pointer (some ⟨w.heap.size, 0, none⟩), undef, .bool false, .pointer (some ⟨p5, 0, none⟩), .pointer (some ⟨p6, 0, none⟩), .pointer (some ⟨QX, 0, none⟩), .bool true, .pointer (some ⟨QS, 0, none⟩), .agg #[.bool m, .string s, .int .i64 e], .slice (some ⟨w.heap.size + 1, 0, none⟩) 1 1, .bool false, .bool false, .int .i64 p, .bool false, .bool false, .bool false, .int .i64 p, .bool false, .bool false, undef, .agg #[.bool m, .string s, .int .i64 e], .int .i64 p, .agg #[.bool false, .string { data := #[] }, .int .i64 0], .agg #[.bool m, .string s, .int .i64 e], .int .i64 p, .agg #[.bool false, .string { data := #[] }, .int .i64 0], .agg #[.bool m, .string s, .int .i64 e], .agg #[.bool false, .string { data := #[] }, .int .i64 0], .agg #[.bool false, .string { data := #[] }, .int .i64 0], .agg #[.bool false, .string { data := #[] }, .int .i64 0], .bool true, .bool true, undef, undef, undef, undef, undef, .bool true, .agg #[.bool false, .string { data := #[1] }, .int .i64 0], .int .i64 p, .int .i64 (-p), .agg #[.bool false, .string { data := #[1] }, .int .i64 (-p)], sel l0 (.agg #[.bool false, .string ⟨#[]⟩, .int .i64 0]) (undef), sel l1 (.agg #[.bool m, .string s, .int .i64 e]) (undef), sel l2 (.int .i64 c1) (undef), sel l3 (.bool false) (undef), undef, undef, undef, undef, undef, undef, undef, undef, undef, undef, undef, undef, undef, undef, undef, undef, undef, undef, undef, undef, undef, undef, undef, undef, undef, undef, undef, undef, undef, undef, undef, undef, undef, undef, undef, undef, undef, undef, undef, undef, undef, undef, undef, undef, undef, undef, undef, undef, undef], defers := [] } ∧ Below (w.heap.size) w Wn ∧ (Nk Wn (w.heap.size) m s e) ∧ (Nk Wn p5 false ⟨#[]⟩ 0) ∧ (Nk Wn p6 false ⟨#[]⟩ 0) ∧ (Nk Wn QX false ⟨#[]⟩ 0) ∧ (Nk Wn QS false ⟨#[1]⟩ (-p))) (by kernel_rfl) (by kernel_rfl) (by kernel_rfl) (by kernel_rfl) hf ?_ ?_ ?_ (by kernel_rfl) ?_ (by decide)
  · exact ⟨false, false, false, false, by kernel_rfl, by kernel_rfl, hb.drew, hA.drew, hF.drew, hC.drew, hX.drew, hS.drew⟩
  · rintro L ac Wn ⟨l0, l1, l2, l3, rfl, _⟩
    kernel_rfl
  · refine (seg_all (b := 4) [0, 1, 2, 3] ?_ : ∀ j ∈ [0, 1, 2, 3, 4], j ≠ 4 → _)
    refine lin_cons [] [2, 3] rfl (by kernel_rfl) (by kernel_rfl) ?_ ?_
    · intro L ac Wn hI hi hds hus Kc hK
      obtain ⟨l0, l1, l2, l3, rfl, hI⟩ := hI
      obtain rfl : l0 = false := hi
      obtain ⟨rfl, rfl, -⟩ : l2 = false ∧ l3 = false ∧ True := hus
      simp only [sel_f] at hI
      obtain ⟨rfl, hb, hA, hF, hC, hX, hS⟩ := hI
      obtain ⟨q0, q1, q2, q3, q4, q5⟩ := (hF).facts
      refine lin_yield (.agg #[.bool false, .string ⟨#[]⟩, .int .i64 0]) rfl (by go_simp; first | done | with_reducible rfl | assumption) ?_
      exact hK.out _ _ ⟨true, l1, false, false, by kernel_rfl, by kernel_rfl, hb, (hA), (hF), (hC), (hX), (hS)⟩
    refine lin_cons [] [2, 3] rfl (by kernel_rfl) (by kernel_rfl) ?_ ?_
    · intro L ac Wn hI hi hds hus Kc hK
      obtain ⟨l0, l1, l2, l3, rfl, hI⟩ := hI
      obtain rfl : l1 = false := hi
      obtain ⟨rfl, rfl, -⟩ : l2 = false ∧ l3 = false ∧ True := hus
      simp only [sel_f] at hI
      obtain ⟨rfl, hb, hA, hF, hC, hX, hS⟩ := hI
      obtain ⟨q0, q1, q2, q3, q4, q5⟩ := (hA).facts
      refine lin_yield (.agg #[.bool m, .string s, .int .i64 e]) rfl (by go_simp; first | done | with_reducible rfl | assumption) ?_
      exact hK.out _ _ ⟨l0, true, false, false, by kernel_rfl, by kernel_rfl, hb, (hA), (hF), (hC), (hX), (hS)⟩
    refine lin_cons [0, 1] [3] rfl (by kernel_rfl) (by kernel_rfl) ?_ ?_
    · intro L ac Wn hI hi hds hus Kc hK
      obtain ⟨l0, l1, l2, l3, rfl, hI⟩ := hI
      obtain rfl : l2 = false := hi
      obtain ⟨rfl, rfl, -⟩ : l0 = true ∧ l1 = true ∧ True := hds
      obtain ⟨rfl, -⟩ : l3 = false ∧ True := hus
      simp only [sel_t, sel_f] at hI
      obtain ⟨rfl, hb, hA, hF, hC, hX, hS⟩ := hI
      go_simp
      go_fit (use_ycmp HO.out.1 HO.out.2.2.2 c1 HK.out.2.2.2.1)
      rintro e V ⟨rfl, hq⟩
      exact hK.out _ _ ⟨true, true, true, false, by kernel_rfl, by kernel_rfl, (below_next hb hq), (hA.below hq), (hF.below hq), (hC.below hq), (hX.below hq), (hS.below hq)⟩
    refine lin_cons [0, 1, 2] [] rfl (by kernel_rfl) (by kernel_rfl) ?_ lin_nil
    intro L ac Wn hI hi hds hus Kc hK
    obtain ⟨l0, l1, l2, l3, rfl, hI⟩ := hI
    obtain rfl : l3 = false := hi
    obtain ⟨rfl, rfl, rfl, -⟩ : l0 = true ∧ l1 = true ∧ l2 = true ∧ True := hds
    simp only [sel_t, sel_f] at hI
    obtain ⟨rfl, hb, hA, hF, hC, hX, hS⟩ := hI
    refine lin_yield (.bool false) rfl (by go_simp; first | done | with_reducible rfl | assumption) ?_
    exact hK.out _ _ ⟨true, true, true, true, by kernel_rfl, by kernel_rfl, hb, (hA), (hF), (hC), (hX), (hS)⟩
  refine bar_of [0, 1, 2, 3] rfl (by kernel_rfl) ?_
  intro L ac Wn hI hds Kc hK
  obtain ⟨l0, l1, l2, l3, rfl, hI⟩ := hI
  obtain ⟨rfl, rfl, rfl, rfl, -⟩ : l0 = true ∧ l1 = true ∧ l2 = true ∧ l3 = true ∧ True := hds
  simp only [sel_t] at hI
  obtain ⟨rfl, hb, hA, hF, hC, hX, hS⟩ := hI
  refine lin_yield (.bool false) rfl (by go_simp; first | done | with_reducible rfl | assumption) ?_
  refine hK.out _ _ (fun fu hf => ?_)
  clear hK Kc
  refine lin_seg 28 [5, 6, 7, 8, 9, 10] 10 (fun L ac Wn => ∃ l5 l6 l7 l8 l9 : Bool, L = #[true, true, true, true, true, l5, l6, l7, l8, l9, false, false, false, false, false, false, false, false, false, false, false, false, false, false, false, false, false, false] ∧ ac = { tmps := #[.agg #[.bool m, .string s, .int .i64 e], .int .i64 p, .pointer (some ⟨w.heap.size, 0, none⟩), undef, .bool false, .pointer (some ⟨p5, 0, none⟩), .pointer (some ⟨p6, 0, none⟩), .pointer (some ⟨QX, 0, none⟩), .bool true, .pointer (some ⟨QS, 0, none⟩), .agg #[.bool m, .string s, .int .i64 e], .slice (some ⟨w.heap.size + 1, 0, none⟩) 1 1, .bool false, .bool false, .int .i64 p, .bool false, .bool false, .bool false, .int .i64 p, .bool false, .bool false, undef, .agg #[.bool m, .string s, .int .i64 e], .int .i64 p, .agg #[.bool false, .string { data := #[] }, .int .i64 0], .agg #[.bool m, .string s, .int .i64 e], .int .i64 p, .agg #[.bool false, .string { data := #[] }, .int .i64 0], .agg #[.bool m, .string s, .int .i64 e], .agg #[.bool false, .string { data := #[] }, .int .i64 0], .agg #[.bool false, .string { data := #[] }, .int .i64 0], .agg #[.bool false, .string { data := #[] }, .int .i64 0], .bool true, .bool true, undef, undef, undef, undef, undef, .bool true, .agg #[.bool false, .string { data := #[1] }, .int .i64 0], .int .i64 p, .int .i64 (-p), .agg #[.bool false, .string { data := #[1] }, .int .i64 (-p)], .agg #[.bool false, .string ⟨#[]⟩, .int .i64 0], .agg #[.bool m, .string s, .int .i64 e], .int .i64 c1, .bool false, .bool false, sel l5 (.agg #[.bool m, .string s, .int .i64 e]) (undef), sel l6 (.agg #[.bool false, .string ⟨#[]⟩, .int .i64 0]) (undef), sel l7 (.int .i64 c2) (undef), sel l8 (.bool false) (undef), sel l9 (.bool false) (undef), undef, undef, undef, undef, undef, undef, undef, undef, undef, undef, undef, undef, undef, undef, undef, undef, undef, undef, undef, undef, undef, undef, undef, undef, undef, undef, undef, undef, undef, undef, undef, undef, undef, undef, undef, undef, undef, undef, undef, undef, undef, undef, undef], defers := [] } ∧ Below (w.heap.size) w Wn ∧ (Nk Wn (w.heap.size) m s e) ∧ (Nk Wn p5 false ⟨#[]⟩ 0) ∧ (Nk Wn p6 false ⟨#[]⟩ 0) ∧ (Nk Wn QX false ⟨#[]⟩ 0) ∧ (Nk Wn QS false ⟨#[1]⟩ (-p))) (by kernel_rfl) (by kernel_rfl) (by kernel_rfl) (by kernel_rfl) hf ?_ ?_ ?_ (by kernel_rfl) ?_ (by decide)
  · exact ⟨false, false, false, false, false, by kernel_rfl, by kernel_rfl, hb, hA, hF, hC, hX, hS⟩
  · rintro L ac Wn ⟨l5, l6, l7, l8, l9, rfl, _⟩
    kernel_rfl
  · refine (seg_all (b := 10) [5, 6, 7, 8, 9] ?_ : ∀ j ∈ [5, 6, 7, 8, 9, 10], j ≠ 10 → _)
    refine lin_cons [] [7, 8, 9] rfl (by kernel_rfl) (by kernel_rfl) ?_ ?_
    · intro L ac Wn hI hi hds hus Kc hK
      obtain ⟨l5, l6, l7, l8, l9, rfl, hI⟩ := hI
      obtain rfl : l5 = false := hi
      obtain ⟨rfl, rfl, rfl, -⟩ : l7 = false ∧ l8 = false ∧ l9 = false ∧ True := hus
      simp only [sel_f] at hI
      obtain ⟨rfl, hb, hA, hF, hC, hX, hS⟩ := hI
      obtain ⟨q0, q1, q2, q3, q4, q5⟩ := (hA).facts
      refine lin_yield (.agg #[.bool m, .string s, .int .i64 e]) rfl (by go_simp; first | done | with_reducible rfl | assumption) ?_
      exact hK.out _ _ ⟨true, l6, false, false, false, by kernel_rfl, by kernel_rfl, hb, (hA), (hF), (hC), (hX), (hS)⟩
    refine lin_cons [] [7, 8, 9] rfl (by kernel_rfl) (by kernel_rfl) ?_ ?_
    · intro L ac Wn hI hi hds hus Kc hK
      obtain ⟨l5, l6, l7, l8, l9, rfl, hI⟩ := hI
      obtain rfl : l6 = false := hi
      obtain ⟨rfl, rfl, rfl, -⟩ : l7 = false ∧ l8 = false ∧ l9 = false ∧ True := hus
      simp only [sel_f] at hI
      obtain ⟨rfl, hb, hA, hF, hC, hX, hS⟩ := hI
      obtain ⟨q0, q1, q2, q3, q4, q5⟩ := (hC).facts
      refine lin_yield (.agg #[.bool false, .string ⟨#[]⟩, .int .i64 0]) rfl (by go_simp; first | done | with_reducible rfl | assumption) ?_
      exact hK.out _ _ ⟨l5, true, false, false, false, by kernel_rfl, by kernel_rfl, hb, (hA), (hF), (hC), (hX), (hS)⟩
    refine lin_cons [5, 6] [8, 9] rfl (by kernel_rfl) (by kernel_rfl) ?_ ?_
    · intro L ac Wn hI hi hds hus Kc hK
      obtain ⟨l5, l6, l7, l8, l9, rfl, hI⟩ := hI
      obtain rfl : l7 = false := hi
      obtain ⟨rfl, rfl, -⟩ : l5 = true ∧ l6 = true ∧ True := hds
      obtain ⟨rfl, rfl, -⟩ : l8 = false ∧ l9 = false ∧ True := hus
      simp only [sel_t, sel_f] at hI
      obtain ⟨rfl, hb, hA, hF, hC, hX, hS⟩ := hI
      go_simp
      go_fit (use_ycmp HO.out.2.2.2 HO.out.2.1 c2 HK.out.2.2.2.2.1)
      rintro e V ⟨rfl, hq⟩
      exact hK.out _ _ ⟨true, true, true, false, false, by kernel_rfl, by kernel_rfl, (below_next hb hq), (hA.below hq), (hF.below hq), (hC.below hq), (hX.below hq), (hS.below hq)⟩
    refine lin_cons [5, 6, 7] [9] rfl (by kernel_rfl) (by kernel_rfl) ?_ ?_
    · intro L ac Wn hI hi hds hus Kc hK
      obtain ⟨l5, l6, l7, l8, l9, rfl, hI⟩ := hI
      obtain rfl : l8 = false := hi
      obtain ⟨rfl, rfl, rfl, -⟩ : l5 = true ∧ l6 = true ∧ l7 = true ∧ True := hds
      obtain ⟨rfl, -⟩ : l9 = false ∧ True := hus
      simp only [sel_t, sel_f] at hI
      obtain ⟨rfl, hb, hA, hF, hC, hX, hS⟩ := hI
      refine lin_yield (.bool false) rfl (by go_simp; first | done | with_reducible rfl | assumption) ?_
      exact hK.out _ _ ⟨true, true, true, true, false, by kernel_rfl, by kernel_rfl, hb, (hA), (hF), (hC), (hX), (hS)⟩
    refine lin_cons [5, 6, 7, 8] [] rfl (by kernel_rfl) (by kernel_rfl) ?_ lin_nil
    intro L ac Wn hI hi hds hus Kc hK
    obtain ⟨l5, l6, l7, l8, l9, rfl, hI⟩ := hI
    obtain rfl : l9 = false := hi
    obtain ⟨rfl, rfl, rfl, rfl, -⟩ : l5 = true ∧ l6 = true ∧ l7 = true ∧ l8 = true ∧ True := hds
    simp only [sel_t, sel_f] at hI
    obtain ⟨rfl, hb, hA, hF, hC, hX, hS⟩ := hI
    refine lin_yield (.bool false) rfl (by go_simp; first | done | with_reducible rfl | assumption) ?_
    exact hK.out _ _ ⟨true, true, true, true, true, by kernel_rfl, by kernel_rfl, hb, (hA), (hF), (hC), (hX), (hS)⟩
  refine bar_of [5, 6, 7, 8, 9] rfl (by kernel_rfl) ?_
  intro L ac Wn hI hds Kc hK
  obtain ⟨l5, l6, l7, l8, l9, rfl, hI⟩ := hI
  obtain ⟨rfl, rfl, rfl, rfl, rfl, -⟩ : l5 = true ∧ l6 = true ∧ l7 = true ∧ l8 = true ∧ l9 = true ∧ True := hds
  simp only [sel_t] at hI
  obtain ⟨rfl, hb, hA, hF, hC, hX, hS⟩ := hI
  refine lin_yield (.bool false) rfl (by go_simp; first | done | with_reducible rfl | assumption) ?_
  refine hK.out _ _ (fun fu hf => ?_)
  clear hK Kc
  refine lin_seg 28 [11, 12, 13, 14, 15, 16, 17] 17 (fun L ac Wn => ∃ l11 l12 l13 l14 l15 l16 : Bool, L = #[true, true, true, true, true, true, true, true, true, true, true, l11, l12, l13, l14, l15, l16, false, false, false, false, false, false, false, false, false, false, false] ∧ ac = { tmps := #[.agg #[.bool m, .string s, .int .i64 e], .int .i64 p, .pointer (some ⟨w.heap.size, 0, none⟩), undef, .bool false, .pointer (some ⟨p5, 0, none⟩), .pointer (some ⟨p6, 0, none⟩), .pointer (some ⟨QX, 0, none⟩), .bool true, .pointer (some ⟨QS, 0, none⟩), .agg #[.bool m, .string s, .int .i64 e], .slice (some ⟨w.heap.size + 1, 0, none⟩) 1 1, .bool false, .bool false, .int .i64 p, .bool false, .bool false, .bool false, .int .i64 p, .bool false, .bool false, undef, .agg #[.bool m, .string s, .int .i64 e], .int .i64 p, .agg #[.bool false, .string { data := #[] }, .int .i64 0], .agg #[.bool m, .string s, .int .i64 e], .int .i64 p, .agg #[.bool false, .string { data := #[] }, .int .i64 0], .agg #[.bool m, .string s, .int .i64 e], .agg #[.bool false, .string { data := #[] }, .int .i64 0], .agg #[.bool false, .string { data := #[] }, .int .i64 0], .agg #[.bool false, .string { data := #[] }, .int .i64 0], .bool true, .bool true, undef, undef, undef, undef, undef, .bool true, .agg #[.bool false, .string { data := #[1] }, .int .i64 0], .int .i64 p, .int .i64 (-p), .agg #[.bool false, .string { data := #[1] }, .int .i64 (-p)], .agg #[.bool false, .string ⟨#[]⟩, .int .i64 0], .agg #[.bool m, .string s, .int .i64 e], .int .i64 c1, .bool false, .bool false, .agg #[.bool m, .string s, .int .i64 e], .agg #[.bool false, .string ⟨#[]⟩, .int .i64 0], .int .i64 c2, .bool false, .bool false, .bool false, sel l11 (.agg #[.bool false, .string ⟨#[]⟩, .int .i64 0]) (undef), sel l12 (.agg #[.bool false, .string ⟨#[]⟩, .int .i64 0]) (undef), sel l13 (.bool true) (undef), sel l14 (.bool true) (undef), sel l15 (.bool false) (undef), sel l16 (.bool false) (undef), undef, undef, undef, undef, undef, undef, undef, undef, undef, undef, undef, undef, undef, undef, undef, undef, undef, undef, undef, undef, undef, undef, undef, undef, undef, undef, undef, undef, undef, undef, undef, undef, undef, undef, undef, undef], defers := [] } ∧ Below (w.heap.size) w Wn ∧ (Nk Wn (w.heap.size) m s e) ∧ (Nk Wn p5 false ⟨#[]⟩ 0) ∧ (Nk Wn p6 false ⟨#[]⟩ 0) ∧ (Nk Wn QX false ⟨#[]⟩ 0) ∧ (Nk Wn QS false ⟨#[1]⟩ (-p))) (by kernel_rfl) (by kernel_rfl) (by kernel_rfl) (by kernel_rfl) hf ?_ ?_ ?_ (by kernel_rfl) ?_ (by decide)
  · exact ⟨false, false, false, false, false, false, by kernel_rfl, by kernel_rfl, hb, hA, hF, hC, hX, hS⟩
  · rintro L ac Wn ⟨l11, l12, l13, l14, l15, l16, rfl, _⟩
    kernel_rfl
  · refine (seg_all (b := 17) [11, 12, 13, 14, 15, 16] ?_ : ∀ j ∈ [11, 12, 13, 14, 15, 16, 17], j ≠ 17 → _)
    refine lin_cons [] [13, 15, 16] rfl (by kernel_rfl) (by kernel_rfl) ?_ ?_
    · intro L ac Wn hI hi hds hus Kc hK
      obtain ⟨l11, l12, l13, l14, l15, l16, rfl, hI⟩ := hI
      obtain rfl : l11 = false := hi
      obtain ⟨rfl, rfl, rfl, -⟩ : l13 = false ∧ l15 = false ∧ l16 = false ∧ True := hus
      simp only [sel_f] at hI
      obtain ⟨rfl, hb, hA, hF, hC, hX, hS⟩ := hI
      obtain ⟨q0, q1, q2, q3, q4, q5⟩ := (hF).facts
      refine lin_yield (.agg #[.bool false, .string ⟨#[]⟩, .int .i64 0]) rfl (by go_simp; first | done | with_reducible rfl | assumption) ?_
      exact hK.out _ _ ⟨true, l12, false, l14, false, false, by kernel_rfl, by kernel_rfl, hb, (hA), (hF), (hC), (hX), (hS)⟩
    refine lin_cons [] [13, 15, 16] rfl (by kernel_rfl) (by kernel_rfl) ?_ ?_
    · intro L ac Wn hI hi hds hus Kc hK
      obtain ⟨l11, l12, l13, l14, l15, l16, rfl, hI⟩ := hI
      obtain rfl : l12 = false := hi
      obtain ⟨rfl, rfl, rfl, -⟩ : l13 = false ∧ l15 = false ∧ l16 = false ∧ True := hus
      simp only [sel_f] at hI
      obtain ⟨rfl, hb, hA, hF, hC, hX, hS⟩ := hI
      obtain ⟨q0, q1, q2, q3, q4, q5⟩ := (hC).facts
      refine lin_yield (.agg #[.bool false, .string ⟨#[]⟩, .int .i64 0]) rfl (by go_simp; first | done | with_reducible rfl | assumption) ?_
      exact hK.out _ _ ⟨l11, true, false, l14, false, false, by kernel_rfl, by kernel_rfl, hb, (hA), (hF), (hC), (hX), (hS)⟩
    refine lin_cons [11, 12] [15, 16] rfl (by kernel_rfl) (by kernel_rfl) ?_ ?_
    · intro L ac Wn hI hi hds hus Kc hK
      obtain ⟨l11, l12, l13, l14, l15, l16, rfl, hI⟩ := hI
      obtain rfl : l13 = false := hi
      obtain ⟨rfl, rfl, -⟩ : l11 = true ∧ l12 = true ∧ True := hds
      obtain ⟨rfl, rfl, -⟩ : l15 = false ∧ l16 = false ∧ True := hus
      simp only [sel_t, sel_f] at hI
      obtain ⟨rfl, hb, hA, hF, hC, hX, hS⟩ := hI
      refine lin_yield (.bool true) rfl (by go_simp; first | done | with_reducible rfl | assumption) ?_
      exact hK.out _ _ ⟨true, true, true, l14, false, false, by kernel_rfl, by kernel_rfl, hb, (hA), (hF), (hC), (hX), (hS)⟩
    refine lin_cons [] [15, 16] rfl (by kernel_rfl) (by kernel_rfl) ?_ ?_
    · intro L ac Wn hI hi hds hus Kc hK
      obtain ⟨l11, l12, l13, l14, l15, l16, rfl, hI⟩ := hI
      obtain rfl : l14 = false := hi
      obtain ⟨rfl, rfl, -⟩ : l15 = false ∧ l16 = false ∧ True := hus
      simp only [sel_f] at hI
      obtain ⟨rfl, hb, hA, hF, hC, hX, hS⟩ := hI
      refine lin_yield (.bool true) rfl (by go_simp; first | done | with_reducible rfl | assumption) ?_
      exact hK.out _ _ ⟨l11, l12, l13, true, false, false, by kernel_rfl, by kernel_rfl, hb, (hA), (hF), (hC), (hX), (hS)⟩
    refine lin_cons [11, 12, 13, 14] [16] rfl (by kernel_rfl) (by kernel_rfl) ?_ ?_
    · intro L ac Wn hI hi hds hus Kc hK
      obtain ⟨l11, l12, l13, l14, l15, l16, rfl, hI⟩ := hI
      obtain rfl : l15 = false := hi
      obtain ⟨rfl, rfl, rfl, rfl, -⟩ : l11 = true ∧ l12 = true ∧ l13 = true ∧ l14 = true ∧ True := hds
      obtain ⟨rfl, -⟩ : l16 = false ∧ True := hus
      simp only [sel_t, sel_f] at hI
      obtain ⟨rfl, hb, hA, hF, hC, hX, hS⟩ := hI
      refine lin_yield (.bool false) rfl (by go_simp; first | done | with_reducible rfl | assumption) ?_
      exact hK.out _ _ ⟨true, true, true, true, true, false, by kernel_rfl, by kernel_rfl, hb, (hA), (hF), (hC), (hX), (hS)⟩
    refine lin_cons [11, 12, 13, 14, 15] [] rfl (by kernel_rfl) (by kernel_rfl) ?_ lin_nil
    intro L ac Wn hI hi hds hus Kc hK
    obtain ⟨l11, l12, l13, l14, l15, l16, rfl, hI⟩ := hI
    obtain rfl : l16 = false := hi
    obtain ⟨rfl, rfl, rfl, rfl, rfl, -⟩ : l11 = true ∧ l12 = true ∧ l13 = true ∧ l14 = true ∧ l15 = true ∧ True := hds
    simp only [sel_t, sel_f] at hI
    obtain ⟨rfl, hb, hA, hF, hC, hX, hS⟩ := hI
    refine lin_yield (.bool false) rfl (by go_simp; first | done | with_reducible rfl | assumption) ?_
    exact hK.out _ _ ⟨true, true, true, true, true, true, by kernel_rfl, by kernel_rfl, hb, (hA), (hF), (hC), (hX), (hS)⟩
  refine bar_of [11, 12, 13, 14, 15, 16] rfl (by kernel_rfl) ?_
  intro L ac Wn hI hds Kc hK
  obtain ⟨l11, l12, l13, l14, l15, l16, rfl, hI⟩ := hI
  obtain ⟨rfl, rfl, rfl, rfl, rfl, rfl, -⟩ : l11 = true ∧ l12 = true ∧ l13 = true ∧ l14 = true ∧ l15 = true ∧ l16 = true ∧ True := hds
  simp only [sel_t] at hI
  obtain ⟨rfl, hb, hA, hF, hC, hX, hS⟩ := hI
  refine lin_yield (.bool false) rfl (by go_simp; first | done | with_reducible rfl | assumption) ?_
  refine hK.out _ _ (fun fu hf => ?_)
  clear hK Kc
  refine lin_seg 28 [18, 19, 20, 21, 22, 23, 24, 25, 26, 27] 27 (fun L ac Wn => ∃ l18 l19 l20 l21 l22 l23 l24 l25 l26 : Bool, L = #[true, true, true, true, true, true, true, true, true, true, true, true, true, true, true, true, true, true, l18, l19, l20, l21, l22, l23, l24, l25, l26, false] ∧ ac = { tmps := #[.agg #[.bool m, .string s, .int .i64 e], .int .i64 p, .pointer (some ⟨w.heap.size, 0, none⟩), undef, .bool false, .pointer (some ⟨p5, 0, none⟩), .pointer (some ⟨p6, 0, none⟩), .pointer (some ⟨QX, 0, none⟩), .bool true, .pointer (some ⟨QS, 0, none⟩), .agg #[.bool m, .string s, .int .i64 e], .slice (some ⟨w.heap.size + 1, 0, none⟩) 1 1, .bool false, .bool false, .int .i64 p, .bool false, .bool false, .bool false, .int .i64 p, .bool false, .bool false, undef, .agg #[.bool m, .string s, .int .i64 e], .int .i64 p, .agg #[.bool false, .string { data := #[] }, .int .i64 0], .agg #[.bool m, .string s, .int .i64 e], .int .i64 p, .agg #[.bool false, .string { data := #[] }, .int .i64 0], .agg #[.bool m, .string s, .int .i64 e], .agg #[.bool false, .string { data := #[] }, .int .i64 0], .agg #[.bool false, .string { data := #[] }, .int .i64 0], .agg #[.bool false, .string { data := #[] }, .int .i64 0], .bool true, .bool true, undef, undef, undef, undef, undef, .bool true, .agg #[.bool false, .string { data := #[1] }, .int .i64 0], .int .i64 p, .int .i64 (-p), .agg #[.bool false, .string { data := #[1] }, .int .i64 (-p)], .agg #[.bool false, .string ⟨#[]⟩, .int .i64 0], .agg #[.bool m, .string s, .int .i64 e], .int .i64 c1, .bool false, .bool false, .agg #[.bool m, .string s, .int .i64 e], .agg #[.bool false, .string ⟨#[]⟩, .int .i64 0], .int .i64 c2, .bool false, .bool false, .bool false, .agg #[.bool false, .string ⟨#[]⟩, .int .i64 0], .agg #[.bool false, .string ⟨#[]⟩, .int .i64 0], .bool true, .bool true, .bool false, .bool false, .bool false, sel l18 (.bool true) (undef), sel l19 (.bool false) (undef), sel l20 (.bool false) (undef), sel l21 (undef) (undef), sel l22 (undef) (undef), sel l23 (undef) (undef), sel l24 (undef) (undef), sel l25 (undef) (undef), sel l26 (.bool false) (undef), undef, undef, undef, undef, undef, undef, undef, undef, undef, undef, undef, undef, undef, undef, undef, undef, undef, undef, undef, undef, undef, undef, undef, undef, undef, undef], defers := [] } ∧ Below (w.heap.size) w Wn ∧ (Nk Wn (w.heap.size) m s e) ∧ (Nk Wn p5 false ⟨#[]⟩ 0) ∧ (Nk Wn p6 false ⟨#[]⟩ 0) ∧ (Nk Wn QX false ⟨#[]⟩ 0) ∧ (Nk Wn QS false ⟨#[1]⟩ (-p))) (by kernel_rfl) (by kernel_rfl) (by kernel_rfl) (by kernel_rfl) hf ?_ ?_ ?_ (by kernel_rfl) ?_ (by decide)
  · exact ⟨false, false, false, false, false, false, false, false, false, by kernel_rfl, by kernel_rfl, hb, hA, hF, hC, hX, hS⟩
  · rintro L ac Wn ⟨l18, l19, l20, l21, l22, l23, l24, l25, l26, rfl, _⟩
    kernel_rfl
  · refine (seg_all (b := 27) [18, 19, 20, 21, 22, 23, 24, 25, 26] ?_ : ∀ j ∈ [18, 19, 20, 21, 22, 23, 24, 25, 26, 27], j ≠ 27 → _)
    refine lin_cons [] [19, 20, 21, 22, 23, 24, 25, 26] rfl (by kernel_rfl) (by kernel_rfl) ?_ ?_
    · intro L ac Wn hI hi hds hus Kc hK
      obtain ⟨l18, l19, l20, l21, l22, l23, l24, l25, l26, rfl, hI⟩ := hI
      obtain rfl : l18 = false := hi
      obtain ⟨rfl, rfl, rfl, rfl, rfl, rfl, rfl, rfl, -⟩ : l19 = false ∧ l20 = false ∧ l21 = false ∧ l22 = false ∧ l23 = false ∧ l24 = false ∧ l25 = false ∧ l26 = false ∧ True := hus
      simp only [sel_f] at hI
      obtain ⟨rfl, hb, hA, hF, hC, hX, hS⟩ := hI
      refine lin_yield (.bool true) rfl (by go_simp; first | done | with_reducible rfl | assumption) ?_
      exact hK.out _ _ ⟨true, false, false, false, false, false, false, false, false, by kernel_rfl, by kernel_rfl, hb, (hA), (hF), (hC), (hX), (hS)⟩
    refine lin_cons [18] [20, 21, 22, 23, 24, 25, 26] rfl (by kernel_rfl) (by kernel_rfl) ?_ ?_
    · intro L ac Wn hI hi hds hus Kc hK
      obtain ⟨l18, l19, l20, l21, l22, l23, l24, l25, l26, rfl, hI⟩ := hI
      obtain rfl : l19 = false := hi
      obtain ⟨rfl, -⟩ : l18 = true ∧ True := hds
      obtain ⟨rfl, rfl, rfl, rfl, rfl, rfl, rfl, -⟩ : l20 = false ∧ l21 = false ∧ l22 = false ∧ l23 = false ∧ l24 = false ∧ l25 = false ∧ l26 = false ∧ True := hus
      simp only [sel_t, sel_f] at hI
      obtain ⟨rfl, hb, hA, hF, hC, hX, hS⟩ := hI
      refine lin_yield (.bool false) rfl (by go_simp; first | done | with_reducible rfl | assumption) ?_
      exact hK.out _ _ ⟨true, true, false, false, false, false, false, false, false, by kernel_rfl, by kernel_rfl, hb, (hA), (hF), (hC), (hX), (hS)⟩
    refine lin_cons [18, 19] [21, 22, 23, 24, 25, 26] rfl (by kernel_rfl) (by kernel_rfl) ?_ ?_
    · intro L ac Wn hI hi hds hus Kc hK
      obtain ⟨l18, l19, l20, l21, l22, l23, l24, l25, l26, rfl, hI⟩ := hI
      obtain rfl : l20 = false := hi
      obtain ⟨rfl, rfl, -⟩ : l18 = true ∧ l19 = true ∧ True := hds
      obtain ⟨rfl, rfl, rfl, rfl, rfl, rfl, -⟩ : l21 = false ∧ l22 = false ∧ l23 = false ∧ l24 = false ∧ l25 = false ∧ l26 = false ∧ True := hus
      simp only [sel_t, sel_f] at hI
      obtain ⟨rfl, hb, hA, hF, hC, hX, hS⟩ := hI
      refine lin_yield (.bool false) rfl (by go_simp; first | done | with_reducible rfl | assumption) ?_
      exact hK.out _ _ ⟨true, true, true, false, false, false, false, false, false, by kernel_rfl, by kernel_rfl, hb, (hA), (hF), (hC), (hX), (hS)⟩
    refine lin_cons [18, 19, 20] [23, 25, 26] rfl (by kernel_rfl) (by kernel_rfl) ?_ ?_
    · intro L ac Wn hI hi hds hus Kc hK
      obtain ⟨l18, l19, l20, l21, l22, l23, l24, l25, l26, rfl, hI⟩ := hI
      obtain rfl : l21 = false := hi
      obtain ⟨rfl, rfl, rfl, -⟩ : l18 = true ∧ l19 = true ∧ l20 = true ∧ True := hds
      obtain ⟨rfl, rfl, rfl, -⟩ : l23 = false ∧ l25 = false ∧ l26 = false ∧ True := hus
      simp only [sel_t, sel_f] at hI
      obtain ⟨rfl, hb, hA, hF, hC, hX, hS⟩ := hI
      refine lin_skip rfl ?_
      exact hK.out _ _ ⟨true, true, true, true, l22, false, l24, false, false, by kernel_rfl, by kernel_rfl, hb, (hA), (hF), (hC), (hX), (hS)⟩
    refine lin_cons [18, 19, 20] [23, 25, 26] rfl (by kernel_rfl) (by kernel_rfl) ?_ ?_
    · intro L ac Wn hI hi hds hus Kc hK
      obtain ⟨l18, l19, l20, l21, l22, l23, l24, l25, l26, rfl, hI⟩ := hI
      obtain rfl : l22 = false := hi
      obtain ⟨rfl, rfl, rfl, -⟩ : l18 = true ∧ l19 = true ∧ l20 = true ∧ True := hds
      obtain ⟨rfl, rfl, rfl, -⟩ : l23 = false ∧ l25 = false ∧ l26 = false ∧ True := hus
      simp only [sel_t, sel_f] at hI
      obtain ⟨rfl, hb, hA, hF, hC, hX, hS⟩ := hI
      refine lin_skip rfl ?_
      exact hK.out _ _ ⟨true, true, true, l21, true, false, l24, false, false, by kernel_rfl, by kernel_rfl, hb, (hA), (hF), (hC), (hX), (hS)⟩
    refine lin_cons [18, 19, 20, 21, 22] [25, 26] rfl (by kernel_rfl) (by kernel_rfl) ?_ ?_
    · intro L ac Wn hI hi hds hus Kc hK
      obtain ⟨l18, l19, l20, l21, l22, l23, l24, l25, l26, rfl, hI⟩ := hI
      obtain rfl : l23 = false := hi
      obtain ⟨rfl, rfl, rfl, rfl, rfl, -⟩ : l18 = true ∧ l19 = true ∧ l20 = true ∧ l21 = true ∧ l22 = true ∧ True := hds
      obtain ⟨rfl, rfl, -⟩ : l25 = false ∧ l26 = false ∧ True := hus
      simp only [sel_t, sel_f] at hI
      obtain ⟨rfl, hb, hA, hF, hC, hX, hS⟩ := hI
      refine lin_skip rfl ?_
      exact hK.out _ _ ⟨true, true, true, true, true, true, l24, false, false, by kernel_rfl, by kernel_rfl, hb, (hA), (hF), (hC), (hX), (hS)⟩
    refine lin_cons [18, 19, 20] [25, 26] rfl (by kernel_rfl) (by kernel_rfl) ?_ ?_
    · intro L ac Wn hI hi hds hus Kc hK
      obtain ⟨l18, l19, l20, l21, l22, l23, l24, l25, l26, rfl, hI⟩ := hI
      obtain rfl : l24 = false := hi
      obtain ⟨rfl, rfl, rfl, -⟩ : l18 = true ∧ l19 = true ∧ l20 = true ∧ True := hds
      obtain ⟨rfl, rfl, -⟩ : l25 = false ∧ l26 = false ∧ True := hus
      simp only [sel_t, sel_f] at hI
      obtain ⟨rfl, hb, hA, hF, hC, hX, hS⟩ := hI
      refine lin_skip rfl ?_
      exact hK.out _ _ ⟨true, true, true, l21, l22, l23, true, false, false, by kernel_rfl, by kernel_rfl, hb, (hA), (hF), (hC), (hX), (hS)⟩
    refine lin_cons [18, 19, 20, 21, 22, 23, 24] [26] rfl (by kernel_rfl) (by kernel_rfl) ?_ ?_
    · intro L ac Wn hI hi hds hus Kc hK
      obtain ⟨l18, l19, l20, l21, l22, l23, l24, l25, l26, rfl, hI⟩ := hI
      obtain rfl : l25 = false := hi
      obtain ⟨rfl, rfl, rfl, rfl, rfl, rfl, rfl, -⟩ : l18 = true ∧ l19 = true ∧ l20 = true ∧ l21 = true ∧ l22 = true ∧ l23 = true ∧ l24 = true ∧ True := hds
      obtain ⟨rfl, -⟩ : l26 = false ∧ True := hus
      simp only [sel_t, sel_f] at hI
      obtain ⟨rfl, hb, hA, hF, hC, hX, hS⟩ := hI
      refine lin_skip rfl ?_
      exact hK.out _ _ ⟨true, true, true, true, true, true, true, true, false, by kernel_rfl, by kernel_rfl, hb, (hA), (hF), (hC), (hX), (hS)⟩
    refine lin_cons [18, 19, 20, 21, 22, 23, 24, 25] [] rfl (by kernel_rfl) (by kernel_rfl) ?_ lin_nil
    intro L ac Wn hI hi hds hus Kc hK
    obtain ⟨l18, l19, l20, l21, l22, l23, l24, l25, l26, rfl, hI⟩ := hI
    obtain rfl : l26 = false := hi
    obtain ⟨rfl, rfl, rfl, rfl, rfl, rfl, rfl, rfl, -⟩ : l18 = true ∧ l19 = true ∧ l20 = true ∧ l21 = true ∧ l22 = true ∧ l23 = true ∧ l24 = true ∧ l25 = true ∧ True := hds
    simp only [sel_t, sel_f] at hI
    obtain ⟨rfl, hb, hA, hF, hC, hX, hS⟩ := hI
    refine lin_yield (.bool false) rfl (by go_simp; first | done | with_reducible rfl | assumption) ?_
    exact hK.out _ _ ⟨true, true, true, true, true, true, true, true, true, by kernel_rfl, by kernel_rfl, hb, (hA), (hF), (hC), (hX), (hS)⟩
  refine bar_of [18, 19, 20, 21, 22, 23, 24, 25, 26] rfl (by kernel_rfl) ?_
  intro L ac Wn hI hds Kc hK
  obtain ⟨l18, l19, l20, l21, l22, l23, l24, l25, l26, rfl, hI⟩ := hI
  obtain ⟨rfl, rfl, rfl, rfl, rfl, rfl, rfl, rfl, rfl, -⟩ : l18 = true ∧ l19 = true ∧ l20 = true ∧ l21 = true ∧ l22 = true ∧ l23 = true ∧ l24 = true ∧ l25 = true ∧ l26 = true ∧ True := hds
  simp only [sel_t] at hI
  obtain ⟨rfl, hb, hA, hF, hC, hX, hS⟩ := hI
  refine lin_yield (.bool false) rfl (by go_simp; first | done | with_reducible rfl | assumption) ?_
  refine hK.out _ _ (fun fu hf => wpAnyH_done (by kernel_rfl) ?_ _)
  clear hK Kc hf
  obtain ⟨hF0, hF1, hF2⟩ := hF.cells
  obtain ⟨hC0, hC1, hC2⟩ := hC.cells
  go_wp2_with fail
  refine (yawake_any _).mono ?_
  rintro e9 V ⟨rfl, hq⟩
  replace hb := below_next hb hq
  clear hq
  go_wp2
  go_ret
  exact ⟨rfl, hb⟩
end Go.Proofs.YtpahmnifkinpiaaGreatDoor
