/- The document's answer for dyadic numbers: Ceil; walked. -/
import Derived.Test.YtpahmnifkinpiaaGreatDoorYR7
namespace Go.Proofs.YtpahmnifkinpiaaGreatDoor
open Go.RowKit Go.Shelf

set_option maxRecDepth 100000 in
set_option maxHeartbeats 3200000 in
theorem ryceil_any (w : World) (m : Bool) (s : ByteArray) (e p : Int) (hs : s.size ≤ 150) (he : -500 ≤ e ∧ e ≤ 500) (hp : -1000 ≤ p ∧ p ≤ 1000) (m' : Bool) (s' : ByteArray) (e' : Int) (hd : df (ceilD (nv m s e) p) = nu m' s' e') :
    Calls Tryz.prog 49 #[nu m s e, .int .i64 p] w (Ret (.agg #[.bool m', .string s', .int .i64 e']) w) := by
  obtain ⟨z1, o1, e1, k1⟩ := df_some ((nv m s e).roundDown p)
  have okF : Ok3 o1 e1 := floor_ok ⟨hs, he⟩ hp k1
  have v1 := form_nv k1
  have hwn : IntKind.i64.wrap (-p) = -p := by rw [IntKind.wrap_i64]; omega
  obtain ⟨cc, hcc⟩ : ∃ cc, dsg (nv z1 o1 e1 - nv m s e) = cc := ⟨_, rfl⟩
  unfold Ok3 at okF
  rcases grid_cases m s e p with ⟨hf, hc, Y, hY⟩ | ⟨q, hf, hc, h1, h2, hoff⟩
  · rw [hc, ← hf, k1] at hd
    obtain ⟨i1, i2, i3⟩ := nu_inj hd
    subst i1
    subst i2
    subst i3
    have h0 : cc = 0 := by rw [← hcc, v1, hf, sub_self']; rfl
    subst h0
    have HK := Lib.hid (And.intro k1 hcc)
    clear hd hcc k1 v1 hf hc hY
    unfold nu
    go_enter Tryz.func49, Tryz.ntmps49
    go_wp2_with fail
    obtain ⟨hA, hR, hb⟩ := nblk2 w m false s ⟨#[]⟩ e 0
    generalize ((w.alloc (Obj.cells #[Value.bool m, Value.string s, Value.int IntKind.i64 e] 25)).alloc (Obj.cells #[Value.bool false, Value.string { data := #[] }, Value.int IntKind.i64 0] 25)) = W0 at *
    refine (ryfloor_any _ m s e p (by omega) (by omega) (by omega) z1 o1 e1 HK.out.1).mono ?_
    rintro e9 W ⟨rfl, hq⟩
    replace hb := below_next hb hq
    replace hA := hA.below hq
    replace hR := hR.below hq
    clear hq
    obtain ⟨hA0, hA1, hA2⟩ := (hA.alloc (Obj.cells #[Value.bool z1, Value.string o1, Value.int IntKind.i64 e1] 25)).cells
    go_wp2_with fail
    have hF := Nk.new W z1 o1 e1
    have hRF := hR.lt
    replace hR := hR.alloc (Obj.cells #[Value.bool z1, Value.string o1, Value.int IntKind.i64 e1] 25)
    replace hb := hb.alloc hb.size (Obj.cells #[Value.bool z1, Value.string o1, Value.int IntKind.i64 e1] 25)
    clear hA hA0 hA1 hA2
    generalize (W.alloc (Obj.cells #[Value.bool z1, Value.string o1, Value.int IntKind.i64 e1] 25)) = W1 at *
    generalize W.heap.size = QF at *
    refine (rycmp_any _ z1 m o1 s e1 e (by omega) (by omega) (by omega) (by omega) 0 HK.out.2).mono ?_
    rintro e9 V ⟨rfl, hq⟩
    replace hb := below_next hb hq
    replace hF := hF.below hq
    replace hR := hR.below hq
    clear hq
    obtain ⟨hF0, hF1, hF2⟩ := hF.cells
    obtain ⟨hR0, hR1, hR2, hR3, hR4, hR5⟩ := hR.facts
    go_wp2
    exact ret_num rfl rfl (hR.set3 _ _ _) ⟨rfl, below_set3 hb (by omega) _ _ _ _ _ _⟩
  · have h0 : cc ≠ 0 := by
      rw [← hcc, v1, hf]
      intro h0
      have h3 := dsg_zero h0
      exact hoff q h3
    have h0b : (cc == 0) = false := by rw [beq_eq_false_iff_ne]; exact h0
    have hone : df (nv false ⟨#[1]⟩ (-p)) = nu false ⟨#[1]⟩ (-p) := df_odd (by kernel_rfl) (by kernel_rfl)
    have hsum : df (nv z1 o1 e1 + nv false ⟨#[1]⟩ (-p)) = nu m' s' e' := by
      rw [v1, hf, ← step_of q p, ← hd, hc]
      congr 1
      rw [← Dyadic.toRat_inj, Dyadic.toRat_add, Dyadic.toRat_sub]
      grind
    have HK := Lib.hid (And.intro k1 (And.intro hcc (And.intro hone hsum)))
    clear hd hcc k1 v1 hf hc hone hsum h1 h2 hoff h0
    unfold nu
    go_enter Tryz.func49, Tryz.ntmps49
    go_wp2_with fail
    obtain ⟨hA, hR, hb⟩ := nblk2 w m false s ⟨#[]⟩ e 0
    generalize ((w.alloc (Obj.cells #[Value.bool m, Value.string s, Value.int IntKind.i64 e] 25)).alloc (Obj.cells #[Value.bool false, Value.string { data := #[] }, Value.int IntKind.i64 0] 25)) = W0 at *
    refine (ryfloor_any _ m s e p (by omega) (by omega) (by omega) z1 o1 e1 HK.out.1).mono ?_
    rintro e9 W ⟨rfl, hq⟩
    replace hb := below_next hb hq
    replace hA := hA.below hq
    replace hR := hR.below hq
    clear hq
    obtain ⟨hA0, hA1, hA2⟩ := (hA.alloc (Obj.cells #[Value.bool z1, Value.string o1, Value.int IntKind.i64 e1] 25)).cells
    go_wp2_with fail
    have hF := Nk.new W z1 o1 e1
    have hRF := hR.lt
    replace hR := hR.alloc (Obj.cells #[Value.bool z1, Value.string o1, Value.int IntKind.i64 e1] 25)
    replace hb := hb.alloc hb.size (Obj.cells #[Value.bool z1, Value.string o1, Value.int IntKind.i64 e1] 25)
    clear hA hA0 hA1 hA2
    generalize (W.alloc (Obj.cells #[Value.bool z1, Value.string o1, Value.int IntKind.i64 e1] 25)) = W1 at *
    generalize W.heap.size = QF at *
    refine (rycmp_any _ z1 m o1 s e1 e (by omega) (by omega) (by omega) (by omega) cc HK.out.2.1).mono ?_
    rintro e9 V ⟨rfl, hq⟩
    replace hb := below_next hb hq
    replace hF := hF.below hq
    replace hR := hR.below hq
    clear hq
    go_wp2_with fail
    refine region_segs (n := 7) #[false, false, false, false, false, false, false] (by kernel_rfl) (by kernel_rfl) (by kernel_rfl) ?_
    intro fu hf
    refine lin_seg 7 [0, 1, 2, 3, 4, 5] 5 (fun L ac Wn => ∃ l0 l1 l2 l3 l4 : Bool, L = #[l0, l1, l2, l3, l4, false, false] ∧ ac = { tmps := #[.agg #[.bool m, .string s, .int .i64 e], .int .i64 p, .pointer (some ⟨w.heap.size, 0, none⟩), undef, .pointer (some ⟨w.heap.size + 1, 0, none⟩), .pointer (some ⟨QF, 0, none⟩), .agg #[.bool m, .string s, .int .i64 e], .int .i64 p, .agg #[.bool z1, .string o1, .int .i64 e1], .agg #[.bool z1, .string o1, .int .i64 e1], .agg #[.bool m, .string s, .int .i64 e], .int .i64 cc, .bool false, undef, sel l0 (.agg #[.bool z1, .string o1, .int .i64 e1]) (undef), sel l1 (.agg #[.bool false, .string ⟨#[1]⟩]) (undef), sel l2 (.int .i64 p) (undef), sel l3 (.int .i64 (-p)) (undef), sel l4 (.agg #[.bool false, .string ⟨#[1]⟩, .int .i64 (-p)]) (undef), undef], defers := [] } ∧ Below (w.heap.size) w Wn ∧ (Nk Wn QF z1 o1 e1) ∧ (Nk Wn (w.heap.size + 1) false ⟨#[]⟩ 0)) (by kernel_rfl) (by kernel_rfl) (by kernel_rfl) (by kernel_rfl) hf ?_ ?_ ?_ (by kernel_rfl) ?_ (by decide)
    · exact ⟨false, false, false, false, false, by kernel_rfl, by kernel_rfl, hb.drew, hF.drew, hR.drew⟩
    · rintro L ac Wn ⟨l0, l1, l2, l3, l4, rfl, _⟩
      kernel_rfl
    · refine (seg_all (b := 5) [0, 1, 2, 3, 4] ?_ : ∀ j ∈ [0, 1, 2, 3, 4, 5], j ≠ 5 → _)
      refine lin_cons [] [] rfl (by kernel_rfl) (by kernel_rfl) ?_ ?_
      · intro L ac Wn hI hi hds hus Kc hK
        obtain ⟨l0, l1, l2, l3, l4, rfl, hI⟩ := hI
        obtain rfl : l0 = false := hi
        simp only [sel_f] at hI
        obtain ⟨rfl, hb, hF, hR⟩ := hI
        obtain ⟨q0, q1, q2, q3, q4, q5⟩ := (hF).facts
        refine lin_yield (.agg #[.bool z1, .string o1, .int .i64 e1]) rfl (by go_simp; first | done | with_reducible rfl | assumption) ?_
        exact hK.out _ _ ⟨true, l1, l2, l3, l4, by kernel_rfl, by kernel_rfl, hb, (hF), (hR)⟩
      refine lin_cons [] [4] rfl (by kernel_rfl) (by kernel_rfl) ?_ ?_
      · intro L ac Wn hI hi hds hus Kc hK
        obtain ⟨l0, l1, l2, l3, l4, rfl, hI⟩ := hI
        obtain rfl : l1 = false := hi
        obtain ⟨rfl, -⟩ : l4 = false ∧ True := hus
        simp only [sel_f] at hI
        obtain ⟨rfl, hb, hF, hR⟩ := hI
        go_simp
        go_fit (rof_any _ 1 (by omega) (by omega) false ⟨#[1]⟩ (by kernel_rfl))
        rintro e V ⟨rfl, hq⟩
        exact hK.out _ _ ⟨l0, true, l2, l3, false, by kernel_rfl, by kernel_rfl, (below_next hb hq), (hF.below hq), (hR.below hq)⟩
      refine lin_cons [] [3, 4] rfl (by kernel_rfl) (by kernel_rfl) ?_ ?_
      · intro L ac Wn hI hi hds hus Kc hK
        obtain ⟨l0, l1, l2, l3, l4, rfl, hI⟩ := hI
        obtain rfl : l2 = false := hi
        obtain ⟨rfl, rfl, -⟩ : l3 = false ∧ l4 = false ∧ True := hus
        simp only [sel_f] at hI
        obtain ⟨rfl, hb, hF, hR⟩ := hI
        refine lin_yield (.int .i64 p) rfl (by go_simp; first | done | with_reducible rfl | assumption) ?_
        exact hK.out _ _ ⟨l0, l1, true, false, false, by kernel_rfl, by kernel_rfl, hb, (hF), (hR)⟩
      refine lin_cons [2] [4] rfl (by kernel_rfl) (by kernel_rfl) ?_ ?_
      · intro L ac Wn hI hi hds hus Kc hK
        obtain ⟨l0, l1, l2, l3, l4, rfl, hI⟩ := hI
        obtain rfl : l3 = false := hi
        obtain ⟨rfl, -⟩ : l2 = true ∧ True := hds
        obtain ⟨rfl, -⟩ : l4 = false ∧ True := hus
        simp only [sel_t, sel_f] at hI
        obtain ⟨rfl, hb, hF, hR⟩ := hI
        refine lin_yield (.int .i64 (-p)) rfl (by go_simp; first | done | with_reducible rfl | assumption) ?_
        exact hK.out _ _ ⟨l0, l1, true, true, false, by kernel_rfl, by kernel_rfl, hb, (hF), (hR)⟩
      refine lin_cons [1, 2, 3] [] rfl (by kernel_rfl) (by kernel_rfl) ?_ lin_nil
      intro L ac Wn hI hi hds hus Kc hK
      obtain ⟨l0, l1, l2, l3, l4, rfl, hI⟩ := hI
      obtain rfl : l4 = false := hi
      obtain ⟨rfl, rfl, rfl, -⟩ : l1 = true ∧ l2 = true ∧ l3 = true ∧ True := hds
      simp only [sel_t, sel_f] at hI
      obtain ⟨rfl, hb, hF, hR⟩ := hI
      go_simp
      go_fit (rmake_any _ false ⟨#[1]⟩ (-p) (by decide) (by omega) false ⟨#[1]⟩ (-p) HK.out.2.2.1)
      rintro e V ⟨rfl, hq⟩
      exact hK.out _ _ ⟨l0, true, true, true, true, by kernel_rfl, by kernel_rfl, (below_next hb hq), (hF.below hq), (hR.below hq)⟩
    refine bar_of [0, 1, 2, 3, 4] rfl (by kernel_rfl) ?_
    intro L ac Wn hI hds Kc hK
    obtain ⟨l0, l1, l2, l3, l4, rfl, hI⟩ := hI
    obtain ⟨rfl, rfl, rfl, rfl, rfl, -⟩ : l0 = true ∧ l1 = true ∧ l2 = true ∧ l3 = true ∧ l4 = true ∧ True := hds
    simp only [sel_t] at hI
    obtain ⟨rfl, hb, hF, hR⟩ := hI
    go_simp
    go_fit (ryplus_any _ z1 false o1 ⟨#[1]⟩ e1 (-p) (by omega) (by decide) (by omega) (by omega) m' s' e' HK.out.2.2.2)
    rintro e V ⟨rfl, hq⟩
    replace hF := hF.below hq
    replace hR := hR.below hq
    replace hb := (below_next hb hq)
    refine hK.out _ _ (fun fu hf => ?_)
    clear hK Kc
    refine lin_seg 7 [6] 6 (fun L ac Wn => L = #[true, true, true, true, true, true, false] ∧ ac = { tmps := #[.agg #[.bool m, .string s, .int .i64 e], .int .i64 p, .pointer (some ⟨w.heap.size, 0, none⟩), undef, .pointer (some ⟨w.heap.size + 1, 0, none⟩), .pointer (some ⟨QF, 0, none⟩), .agg #[.bool m, .string s, .int .i64 e], .int .i64 p, .agg #[.bool z1, .string o1, .int .i64 e1], .agg #[.bool z1, .string o1, .int .i64 e1], .agg #[.bool m, .string s, .int .i64 e], .int .i64 cc, .bool false, undef, .agg #[.bool z1, .string o1, .int .i64 e1], .agg #[.bool false, .string ⟨#[1]⟩], .int .i64 p, .int .i64 (-p), .agg #[.bool false, .string ⟨#[1]⟩, .int .i64 (-p)], .agg #[.bool m', .string s', .int .i64 e']], defers := [] } ∧ Below (w.heap.size) w Wn ∧ (Nk Wn QF z1 o1 e1) ∧ (Nk Wn (w.heap.size + 1) false ⟨#[]⟩ 0)) (by kernel_rfl) (by kernel_rfl) (by kernel_rfl) (by kernel_rfl) hf ?_ ?_ ?_ (by kernel_rfl) ?_ (by decide)
    · exact ⟨by kernel_rfl, by kernel_rfl, hb, hF, hR⟩
    · rintro L ac Wn ⟨rfl, _⟩
      kernel_rfl
    · exact (seg_all (b := 6) [] lin_nil : ∀ j ∈ [6], j ≠ 6 → _)
    refine bar_of [] rfl (by kernel_rfl) ?_
    intro L ac Wn hI hds Kc hK
    obtain ⟨rfl, hI⟩ := hI
    obtain ⟨rfl, hb, hF, hR⟩ := hI
    obtain ⟨q0, q1, q2, q3, q4, q5⟩ := (hR).facts
    go_simp
    replace hF := (((hF).far (p := ⟨w.heap.size + 1, 0, none⟩) (by show QF ≠ w.heap.size + 1; omega) (.bool m')).far (p := ⟨w.heap.size + 1, 1, none⟩) (by show QF ≠ w.heap.size + 1; omega) (.string s')).far (p := ⟨w.heap.size + 1, 2, none⟩) (by show QF ≠ w.heap.size + 1; omega) (.int .i64 e')
    replace hR := (hR).set3 (m') (s') (e')
    replace hb := (((hb.setCell (p := ⟨w.heap.size + 1, 0, none⟩) (by show w.heap.size ≤ w.heap.size + 1; omega) (.bool m')).setCell (p := ⟨w.heap.size + 1, 1, none⟩) (by show w.heap.size ≤ w.heap.size + 1; omega) (.string s')).setCell (p := ⟨w.heap.size + 1, 2, none⟩) (by show w.heap.size ≤ w.heap.size + 1; omega) (.int .i64 e'))
    refine hK.out _ _ (fun fu hf => wpAnyH_done (by kernel_rfl) ?_ _)
    clear hK Kc hf
    go_wp2
    exact ret_num rfl rfl hR ⟨rfl, hb⟩
end Go.Proofs.YtpahmnifkinpiaaGreatDoor
