/- Package ogeeref04: Floor, Ceil, walked. -/
import Derived.Test.YtpahmnifkinpiaaGreatDoorYR6
import Derived.Test.YtpahmnifkinpiaaGreatDoorHY
import Derived.Test.YtpahmnifkinpiaaGreatDoorHR
import Derived.Test.YtpahmnifkinpiaaGreatDoorHL
import Derived.Test.YtpahmnifkinpiaaGreatDoorYGrid0
namespace Go.Proofs.YtpahmnifkinpiaaGreatDoor
open Go.RowKit Go.Shelf

set_option maxRecDepth 100000 in
set_option maxHeartbeats 3200000 in
theorem ryfloor_any (w : World) (m : Bool) (s : ByteArray) (e p : Int) (hs : s.size ≤ 1000) (he : -10000 ≤ e ∧ e ≤ 10000) (hp : -10000 ≤ p ∧ p ≤ 10000) (m' : Bool) (s' : ByteArray) (e' : Int) (hd : df ((nv m s e).roundDown p) = nu m' s' e') :
    Calls Tryz.prog 47 #[nu m s e, .int .i64 p] w (Ret (.agg #[.bool m', .string s', .int .i64 e']) w) := by
  obtain ⟨m1, s1, e1, h1⟩ := df_some (nv m s e)
  have hq1 := df_exp h1 hs
  have hn1 := (df_parts h1).2.2.1
  have hwf1 := (df_parts h1).2.2.2
  rw [← hn1] at hd
  have hw : IntKind.i64.wrap (e1 + p) = e1 + p := by rw [IntKind.wrap_i64]; omega
  have hwn : IntKind.i64.wrap (-p) = -p := by rw [IntKind.wrap_i64]; omega
  have hwm : IntKind.i64.wrap (-p - e1) = -p - e1 := by rw [IntKind.wrap_i64]; omega
  have hwd : IntKind.i64.wrap (-e1 - p) = -e1 - p := by rw [IntKind.wrap_i64]; omega
  have hwe : IntKind.i64.wrap (-e1) = -e1 := by rw [IntKind.wrap_i64]; omega
  have hws : IntKind.i64.wrap (-(e1 + p)) = -(e1 + p) := by rw [IntKind.wrap_i64]; omega
  by_cases hst : 0 ≤ e1 + p
  · rw [floor_self hst, hn1, h1] at hd
    have HZ := Lib.hid h1
    obtain ⟨rfl, rfl, rfl⟩ : m1 = m' ∧ s1 = s' ∧ e1 = e' := by
      simpa [nu] using hd
    clear hd h1 hn1
    unfold nu
    go_enter Tryz.func47, Tryz.ntmps47
    go_wp2_with fail
    obtain ⟨hA, hR, hb⟩ := nblk2 w m false s ⟨#[]⟩ e 0
    generalize ((w.alloc (Obj.cells #[Value.bool m, Value.string s, Value.int IntKind.i64 e] 25)).alloc (Obj.cells #[Value.bool false, Value.string { data := #[] }, Value.int IntKind.i64 0] 25)) = W0 at *
    refine (ryform_any _ m s e (by omega) (by omega) m1 s1 e1 HZ.out).mono ?_
    rintro e W ⟨rfl, hq⟩
    replace hb := below_next hb hq
    replace hA := hA.below hq
    replace hR := hR.below hq
    clear hq
    obtain ⟨hA0, hA1, hA2, hA3, hA4, hA5⟩ := hA.facts
    obtain ⟨hR0, hR1, hR2, hR3, hR4, hR5⟩ := hR.facts
    go_wp2_with fail
    exact ret_num rfl rfl ((((hR.far (show w.heap.size + 1 ≠ w.heap.size by omega) _).far (show w.heap.size + 1 ≠ w.heap.size by omega) _).far (show w.heap.size + 1 ≠ w.heap.size by omega) _).set3 _ _ _) ⟨rfl, below_set3 (below_set3 hb (Nat.le_refl _) _ _ _ _ _ _) (by omega) _ _ _ _ _ _⟩
  · obtain ⟨k, hk⟩ : ∃ k : Nat, e1 + p = -(k : Int) := ⟨(-(e1 + p)).toNat, by omega⟩
    rw [floor_nv k hk] at hd
    obtain ⟨zd, od, ed, vd, sd⟩ := shift_nmw false ⟨#[1]⟩ k (B := 1) (K := 4000) (by decide) (by omega)
    have hvd : wv zd od = ((2 ^ k : Nat) : Int) := by
      rw [vd, show wv false ⟨#[1]⟩ = 1 by kernel_rfl]
      unfold shiftI
      rw [if_pos (by omega), Int.toNat_natCast, Int.one_mul]
    have hv0 : wv zd od ≠ 0 := by
      rw [hvd]
      exact Int.ne_of_gt (Int.ofNat_lt.2 (Nat.two_pow_pos k))
    obtain ⟨z, o, ez⟩ : ∃ z o, wf (wv m1 s1 / wv zd od) = wi z o := ⟨_, _, rfl⟩
    obtain ⟨zr, or_, er⟩ : ∃ z o, wf (wv m1 s1 % wv zd od) = wi z o := ⟨_, _, rfl⟩
    have hos : o.size ≤ 1000 := by
      obtain ⟨_, h2⟩ := wi_inj ez
      rw [← h2]
      refine Nat.le_trans (fb_size_le (k := s1.size) ?_) (by omega)
      have h3 : (wv m1 s1 / wv zd od).natAbs ≤ (wv m1 s1).natAbs := Int.natAbs_ediv_le_natAbs _ _
      have h4 := wv_abs m1 s1
      have h5 := num_lt s1
      omega
    have hd2 : df (nv z o (-p)) = nu m' s' e' := by rw [nv_of _ ez, Int.neg_neg, hvd]; exact hd
    have hsh : wf (shiftI (wv false ⟨#[1]⟩) (-(e1 + p))) = wi zd od := by rw [show -(e1 + p) = (k : Int) by omega]; exact ed
    have HZ := Lib.hid (And.intro h1 (And.intro hsh (And.intro hv0 (And.intro ez (And.intro er (And.intro hd2 hk))))))
    clear hsh hv0 ez er hd hd2 hk h1 ed vd hvd hn1 hwf1
    unfold nu
    go_enter Tryz.func47, Tryz.ntmps47
    go_wp2_with fail
    obtain ⟨hA, hR, hb⟩ := nblk2 w m false s ⟨#[]⟩ e 0
    generalize ((w.alloc (Obj.cells #[Value.bool m, Value.string s, Value.int IntKind.i64 e] 25)).alloc (Obj.cells #[Value.bool false, Value.string { data := #[] }, Value.int IntKind.i64 0] 25)) = W0 at *
    refine (ryform_any _ m s e (by omega) (by omega) m1 s1 e1 HZ.out.1).mono ?_
    rintro e W ⟨rfl, hq⟩
    replace hb := below_next hb hq
    replace hA := hA.below hq
    replace hR := hR.below hq
    clear hq
    obtain ⟨hA0, hA1, hA2, hA3, hA4, hA5⟩ := hA.facts
    obtain ⟨hR0, hR1, hR2, hR3, hR4, hR5⟩ := hR.facts
    go_wp2_with fail
    have hR' := ((hR.far (p := ⟨w.heap.size, 0, none⟩) (by show w.heap.size + 1 ≠ w.heap.size; omega) (.bool m1)).far (p := ⟨w.heap.size, 1, none⟩) (by show w.heap.size + 1 ≠ w.heap.size; omega) (.string s1)).far (p := ⟨w.heap.size, 2, none⟩) (by show w.heap.size + 1 ≠ w.heap.size; omega) (.int .i64 e1)
    have hA' := hA.set3 m1 s1 e1
    replace hb := below_set3 hb (Nat.le_refl _) 0 1 2 (.bool m1) (.string s1) (.int .i64 e1)
    clear hA0 hA1 hA2 hA3 hA4 hA5 hR0 hR1 hR2 hR3 hR4 hR5 hA hR
    generalize (((W.setCell ⟨w.heap.size, 0, none⟩ (.bool m1)).setCell ⟨w.heap.size, 1, none⟩ (.string s1)).setCell ⟨w.heap.size, 2, none⟩ (.int .i64 e1)) = W1 at *
    have hR := hR'
    have hA := hA'
    clear hA' hR'
    refine region_segs (n := 19) #[false, false, false, false, false, false, false, false, false, false, false, false, false, false, false, false, false, false, false] (by kernel_rfl) (by kernel_rfl) (by kernel_rfl) ?_
    intro fu hf
    refine lin_seg 19 [0, 1, 2, 3, 4, 5, 6, 7, 8, 9, 10, 11, 12, 13, 14, 15, 16, 17, 18] 18 (fun L ac Wn => ∃ l0 l1 l2 l3 l4 l5 l6 l7 l8 l9 l10 l11 l12 l13 l14 l15 l16 l17 : Bool, L = #[l0, l1, l2, l3, l4, l5, l6, l7, l8, l9, l10, l11, l12, l13, l14, l15, l16, l17, false] ∧ ∃ p5 p6 : Nat, ac = { tmps := #[.agg #[.bool m, .string s, .int .i64 e], .int .i64 p, .pointer (some ⟨w.heap.size, 0, none⟩), undef, .pointer (some ⟨w.heap.size + 1, 0, none⟩), sel l14 (.pointer (some ⟨p5, 0, none⟩)) (undef), sel l15 (.pointer (some ⟨p6, 0, none⟩)) (undef), undef, .agg #[.bool m, .string s, .int .i64 e], .agg #[.bool m1, .string s1, .int .i64 e1], .pointer (some { block := w.heap.size, off := 2 }), .int .i64 e1, .int .i64 p, .int .i64 (e1 + p), .bool (decide (0 ≤ e1 + p)), undef, sel l10 (.tuple #[.agg #[.bool z, .string o], .agg #[.bool zr, .string or_], .bool true]) (undef), sel l0 (.pointer (some ⟨w.heap.size, 0, none⟩)) (undef), sel l1 (.agg #[.bool m1, .string s1]) (undef), sel l2 (.agg #[.bool false, .string ⟨#[1]⟩]) (undef), sel l3 (.pointer (some { block := w.heap.size, off := 2 })) (undef), sel l4 (.int .i64 e1) (undef), sel l5 (.int .i64 (-e1)) (undef), sel l6 (.int .i64 p) (undef), sel l7 (.int .i64 (-e1 - p)) (undef), sel l8 (.agg #[.bool zd, .string od]) (undef), sel l9 (.tuple #[.agg #[.bool z, .string o], .agg #[.bool zr, .string or_], .bool true]) (undef), sel l11 (.agg #[.bool z, .string o]) (undef), sel l12 (.agg #[.bool zr, .string or_]) (undef), sel l13 (.bool true) (undef), undef, undef, undef, undef], defers := [] } ∧ Below (w.heap.size) w Wn ∧ (Nk Wn (w.heap.size) m1 s1 e1) ∧ (Nk Wn (w.heap.size + 1) false ⟨#[]⟩ 0) ∧ (On l14 → Off l16 → Bk Wn p5 #[.bool false, .string ⟨#[]⟩]) ∧ (On l16 → Bk Wn p5 #[.bool z, .string o]) ∧ (On l15 → Off l17 → Bk Wn p6 #[.bool false, .string ⟨#[]⟩]) ∧ (On l17 → Bk Wn p6 #[.bool zr, .string or_]) ∧ (On l14 → w.heap.size ≤ p5) ∧ (On l15 → w.heap.size ≤ p6) ∧ (On l14 → w.heap.size ≠ p5) ∧ (On l14 → w.heap.size + 1 ≠ p5) ∧ (On l14 → On l15 → p6 ≠ p5) ∧ (On l15 → w.heap.size ≠ p6) ∧ (On l15 → w.heap.size + 1 ≠ p6)) (by kernel_rfl) (by kernel_rfl) (by kernel_rfl) (by kernel_rfl) hf ?_ ?_ ?_ (by kernel_rfl) ?_ (by decide)
    · exact ⟨false, false, false, false, false, false, false, false, false, false, false, false, false, false, false, false, false, false, by kernel_rfl, 0, 0, by kernel_rfl, hb.drew, hA.drew, hR.drew, (fun h _ => not_ft h), (fun h => not_ft h), (fun h _ => not_ft h), (fun h => not_ft h), (fun h => not_ft h), (fun h => not_ft h), (fun h => not_ft h), (fun h => not_ft h), (fun h _ => not_ft h), (fun h => not_ft h), (fun h => not_ft h)⟩
    · rintro L ac Wn ⟨l0, l1, l2, l3, l4, l5, l6, l7, l8, l9, l10, l11, l12, l13, l14, l15, l16, l17, rfl, _⟩
      kernel_rfl
    · refine (seg_all (b := 18) [0, 1, 2, 3, 4, 5, 6, 7, 8, 9, 10, 11, 12, 13, 14, 15, 16, 17] ?_ : ∀ j ∈ [0, 1, 2, 3, 4, 5, 6, 7, 8, 9, 10, 11, 12, 13, 14, 15, 16, 17, 18], j ≠ 18 → _)
      refine lin_cons [] [1, 9, 10, 11, 12, 13, 16, 17] rfl (by kernel_rfl) (by kernel_rfl) ?_ ?_
      · intro L ac Wn hI hi hds hus Kc hK
        obtain ⟨l0, l1, l2, l3, l4, l5, l6, l7, l8, l9, l10, l11, l12, l13, l14, l15, l16, l17, rfl, hI⟩ := hI
        obtain rfl : l0 = false := hi
        obtain ⟨rfl, rfl, rfl, rfl, rfl, rfl, rfl, rfl, -⟩ : l1 = false ∧ l9 = false ∧ l10 = false ∧ l11 = false ∧ l12 = false ∧ l13 = false ∧ l16 = false ∧ l17 = false ∧ True := hus
        simp only [sel_f] at hI
        obtain ⟨p5, p6, rfl, hb, hA, hR, hX, hX', hY, hY', dX, dY, nXA, nXR, nXY, nYA, nYR⟩ := hI
        refine lin_yield (.pointer (some ⟨w.heap.size, 0, none⟩)) rfl (by go_simp; first | done | with_reducible rfl | assumption) ?_
        exact hK.out _ _ ⟨true, false, l2, l3, l4, l5, l6, l7, l8, false, false, false, false, false, l14, l15, false, false, by kernel_rfl, p5, p6, by kernel_rfl, hb, (hA), (hR), (fun z0 z1 => (hX z0 z1)), (fun h => not_ft h), (fun z0 z1 => (hY z0 z1)), (fun h => not_ft h), (fun z0 => (dX z0)), (fun z0 => (dY z0)), (fun z0 => (nXA z0)), (fun z0 => (nXR z0)), (fun z0 z1 => (nXY z0 z1)), (fun z0 => (nYA z0)), (fun z0 => (nYR z0))⟩
      refine lin_cons [0] [9, 10, 11, 12, 13, 16, 17] rfl (by kernel_rfl) (by kernel_rfl) ?_ ?_
      · intro L ac Wn hI hi hds hus Kc hK
        obtain ⟨l0, l1, l2, l3, l4, l5, l6, l7, l8, l9, l10, l11, l12, l13, l14, l15, l16, l17, rfl, hI⟩ := hI
        obtain rfl : l1 = false := hi
        obtain ⟨rfl, -⟩ : l0 = true ∧ True := hds
        obtain ⟨rfl, rfl, rfl, rfl, rfl, rfl, rfl, -⟩ : l9 = false ∧ l10 = false ∧ l11 = false ∧ l12 = false ∧ l13 = false ∧ l16 = false ∧ l17 = false ∧ True := hus
        simp only [sel_t, sel_f] at hI
        obtain ⟨p5, p6, rfl, hb, hA, hR, hX, hX', hY, hY', dX, dY, nXA, nXR, nXY, nYA, nYR⟩ := hI
        obtain ⟨q0, q1, q2, q3, q4, q5⟩ := (hA).facts
        refine lin_yield (.agg #[.bool m1, .string s1]) rfl (by go_simp; first | done | with_reducible rfl | assumption) ?_
        exact hK.out _ _ ⟨true, true, l2, l3, l4, l5, l6, l7, l8, false, false, false, false, false, l14, l15, false, false, by kernel_rfl, p5, p6, by kernel_rfl, hb, (hA), (hR), (fun z0 z1 => (hX z0 z1)), (fun h => not_ft h), (fun z0 z1 => (hY z0 z1)), (fun h => not_ft h), (fun z0 => (dX z0)), (fun z0 => (dY z0)), (fun z0 => (nXA z0)), (fun z0 => (nXR z0)), (fun z0 z1 => (nXY z0 z1)), (fun z0 => (nYA z0)), (fun z0 => (nYR z0))⟩
      refine lin_cons [] [8, 9, 10, 11, 12, 13, 16, 17] rfl (by kernel_rfl) (by kernel_rfl) ?_ ?_
      · intro L ac Wn hI hi hds hus Kc hK
        obtain ⟨l0, l1, l2, l3, l4, l5, l6, l7, l8, l9, l10, l11, l12, l13, l14, l15, l16, l17, rfl, hI⟩ := hI
        obtain rfl : l2 = false := hi
        obtain ⟨rfl, rfl, rfl, rfl, rfl, rfl, rfl, rfl, -⟩ : l8 = false ∧ l9 = false ∧ l10 = false ∧ l11 = false ∧ l12 = false ∧ l13 = false ∧ l16 = false ∧ l17 = false ∧ True := hus
        simp only [sel_f] at hI
        obtain ⟨p5, p6, rfl, hb, hA, hR, hX, hX', hY, hY', dX, dY, nXA, nXR, nXY, nYA, nYR⟩ := hI
        go_simp
        go_fit (rof_any _ 1 (by omega) (by omega) false ⟨#[1]⟩ (by kernel_rfl))
        rintro e V ⟨rfl, hq⟩
        exact hK.out _ _ ⟨l0, l1, true, l3, l4, l5, l6, l7, false, false, false, false, false, false, l14, l15, false, false, by kernel_rfl, p5, p6, by kernel_rfl, (below_next hb hq), (hA.below hq), (hR.below hq), (fun z0 z1 => (hX z0 z1).below hq), (fun h => not_ft h), (fun z0 z1 => (hY z0 z1).below hq), (fun h => not_ft h), (fun z0 => (dX z0)), (fun z0 => (dY z0)), (fun z0 => (nXA z0)), (fun z0 => (nXR z0)), (fun z0 z1 => (nXY z0 z1)), (fun z0 => (nYA z0)), (fun z0 => (nYR z0))⟩
      refine lin_cons [] [4, 5, 7, 8, 9, 10, 11, 12, 13, 16, 17] rfl (by kernel_rfl) (by kernel_rfl) ?_ ?_
      · intro L ac Wn hI hi hds hus Kc hK
        obtain ⟨l0, l1, l2, l3, l4, l5, l6, l7, l8, l9, l10, l11, l12, l13, l14, l15, l16, l17, rfl, hI⟩ := hI
        obtain rfl : l3 = false := hi
        obtain ⟨rfl, rfl, rfl, rfl, rfl, rfl, rfl, rfl, rfl, rfl, rfl, -⟩ : l4 = false ∧ l5 = false ∧ l7 = false ∧ l8 = false ∧ l9 = false ∧ l10 = false ∧ l11 = false ∧ l12 = false ∧ l13 = false ∧ l16 = false ∧ l17 = false ∧ True := hus
        simp only [sel_f] at hI
        obtain ⟨p5, p6, rfl, hb, hA, hR, hX, hX', hY, hY', dX, dY, nXA, nXR, nXY, nYA, nYR⟩ := hI
        refine lin_yield (.pointer (some { block := w.heap.size, off := 2 })) rfl (by go_simp; first | done | with_reducible rfl | assumption) ?_
        exact hK.out _ _ ⟨l0, l1, l2, true, false, false, l6, false, false, false, false, false, false, false, l14, l15, false, false, by kernel_rfl, p5, p6, by kernel_rfl, hb, (hA), (hR), (fun z0 z1 => (hX z0 z1)), (fun h => not_ft h), (fun z0 z1 => (hY z0 z1)), (fun h => not_ft h), (fun z0 => (dX z0)), (fun z0 => (dY z0)), (fun z0 => (nXA z0)), (fun z0 => (nXR z0)), (fun z0 z1 => (nXY z0 z1)), (fun z0 => (nYA z0)), (fun z0 => (nYR z0))⟩
      refine lin_cons [3] [5, 7, 8, 9, 10, 11, 12, 13, 16, 17] rfl (by kernel_rfl) (by kernel_rfl) ?_ ?_
      · intro L ac Wn hI hi hds hus Kc hK
        obtain ⟨l0, l1, l2, l3, l4, l5, l6, l7, l8, l9, l10, l11, l12, l13, l14, l15, l16, l17, rfl, hI⟩ := hI
        obtain rfl : l4 = false := hi
        obtain ⟨rfl, -⟩ : l3 = true ∧ True := hds
        obtain ⟨rfl, rfl, rfl, rfl, rfl, rfl, rfl, rfl, rfl, rfl, -⟩ : l5 = false ∧ l7 = false ∧ l8 = false ∧ l9 = false ∧ l10 = false ∧ l11 = false ∧ l12 = false ∧ l13 = false ∧ l16 = false ∧ l17 = false ∧ True := hus
        simp only [sel_t, sel_f] at hI
        obtain ⟨p5, p6, rfl, hb, hA, hR, hX, hX', hY, hY', dX, dY, nXA, nXR, nXY, nYA, nYR⟩ := hI
        obtain ⟨q0, q1, q2, q3, q4, q5⟩ := (hA).facts
        refine lin_yield (.int .i64 e1) rfl (by go_simp; first | done | with_reducible rfl | assumption) ?_
        exact hK.out _ _ ⟨l0, l1, l2, true, true, false, l6, false, false, false, false, false, false, false, l14, l15, false, false, by kernel_rfl, p5, p6, by kernel_rfl, hb, (hA), (hR), (fun z0 z1 => (hX z0 z1)), (fun h => not_ft h), (fun z0 z1 => (hY z0 z1)), (fun h => not_ft h), (fun z0 => (dX z0)), (fun z0 => (dY z0)), (fun z0 => (nXA z0)), (fun z0 => (nXR z0)), (fun z0 z1 => (nXY z0 z1)), (fun z0 => (nYA z0)), (fun z0 => (nYR z0))⟩
      refine lin_cons [3, 4] [7, 8, 9, 10, 11, 12, 13, 16, 17] rfl (by kernel_rfl) (by kernel_rfl) ?_ ?_
      · intro L ac Wn hI hi hds hus Kc hK
        obtain ⟨l0, l1, l2, l3, l4, l5, l6, l7, l8, l9, l10, l11, l12, l13, l14, l15, l16, l17, rfl, hI⟩ := hI
        obtain rfl : l5 = false := hi
        obtain ⟨rfl, rfl, -⟩ : l3 = true ∧ l4 = true ∧ True := hds
        obtain ⟨rfl, rfl, rfl, rfl, rfl, rfl, rfl, rfl, rfl, -⟩ : l7 = false ∧ l8 = false ∧ l9 = false ∧ l10 = false ∧ l11 = false ∧ l12 = false ∧ l13 = false ∧ l16 = false ∧ l17 = false ∧ True := hus
        simp only [sel_t, sel_f] at hI
        obtain ⟨p5, p6, rfl, hb, hA, hR, hX, hX', hY, hY', dX, dY, nXA, nXR, nXY, nYA, nYR⟩ := hI
        refine lin_yield (.int .i64 (-e1)) rfl (by go_simp; first | done | with_reducible rfl | assumption) ?_
        exact hK.out _ _ ⟨l0, l1, l2, true, true, true, l6, false, false, false, false, false, false, false, l14, l15, false, false, by kernel_rfl, p5, p6, by kernel_rfl, hb, (hA), (hR), (fun z0 z1 => (hX z0 z1)), (fun h => not_ft h), (fun z0 z1 => (hY z0 z1)), (fun h => not_ft h), (fun z0 => (dX z0)), (fun z0 => (dY z0)), (fun z0 => (nXA z0)), (fun z0 => (nXR z0)), (fun z0 z1 => (nXY z0 z1)), (fun z0 => (nYA z0)), (fun z0 => (nYR z0))⟩
      refine lin_cons [] [7, 8, 9, 10, 11, 12, 13, 16, 17] rfl (by kernel_rfl) (by kernel_rfl) ?_ ?_
      · intro L ac Wn hI hi hds hus Kc hK
        obtain ⟨l0, l1, l2, l3, l4, l5, l6, l7, l8, l9, l10, l11, l12, l13, l14, l15, l16, l17, rfl, hI⟩ := hI
        obtain rfl : l6 = false := hi
        obtain ⟨rfl, rfl, rfl, rfl, rfl, rfl, rfl, rfl, rfl, -⟩ : l7 = false ∧ l8 = false ∧ l9 = false ∧ l10 = false ∧ l11 = false ∧ l12 = false ∧ l13 = false ∧ l16 = false ∧ l17 = false ∧ True := hus
        simp only [sel_f] at hI
        obtain ⟨p5, p6, rfl, hb, hA, hR, hX, hX', hY, hY', dX, dY, nXA, nXR, nXY, nYA, nYR⟩ := hI
        refine lin_yield (.int .i64 p) rfl (by go_simp; first | done | with_reducible rfl | assumption) ?_
        exact hK.out _ _ ⟨l0, l1, l2, l3, l4, l5, true, false, false, false, false, false, false, false, l14, l15, false, false, by kernel_rfl, p5, p6, by kernel_rfl, hb, (hA), (hR), (fun z0 z1 => (hX z0 z1)), (fun h => not_ft h), (fun z0 z1 => (hY z0 z1)), (fun h => not_ft h), (fun z0 => (dX z0)), (fun z0 => (dY z0)), (fun z0 => (nXA z0)), (fun z0 => (nXR z0)), (fun z0 z1 => (nXY z0 z1)), (fun z0 => (nYA z0)), (fun z0 => (nYR z0))⟩
      refine lin_cons [3, 4, 5, 6] [8, 9, 10, 11, 12, 13, 16, 17] rfl (by kernel_rfl) (by kernel_rfl) ?_ ?_
      · intro L ac Wn hI hi hds hus Kc hK
        obtain ⟨l0, l1, l2, l3, l4, l5, l6, l7, l8, l9, l10, l11, l12, l13, l14, l15, l16, l17, rfl, hI⟩ := hI
        obtain rfl : l7 = false := hi
        obtain ⟨rfl, rfl, rfl, rfl, -⟩ : l3 = true ∧ l4 = true ∧ l5 = true ∧ l6 = true ∧ True := hds
        obtain ⟨rfl, rfl, rfl, rfl, rfl, rfl, rfl, rfl, -⟩ : l8 = false ∧ l9 = false ∧ l10 = false ∧ l11 = false ∧ l12 = false ∧ l13 = false ∧ l16 = false ∧ l17 = false ∧ True := hus
        simp only [sel_t, sel_f] at hI
        obtain ⟨p5, p6, rfl, hb, hA, hR, hX, hX', hY, hY', dX, dY, nXA, nXR, nXY, nYA, nYR⟩ := hI
        refine lin_yield (.int .i64 (-e1 - p)) rfl (by go_simp; first | done | with_reducible rfl | assumption) ?_
        exact hK.out _ _ ⟨l0, l1, l2, true, true, true, true, true, false, false, false, false, false, false, l14, l15, false, false, by kernel_rfl, p5, p6, by kernel_rfl, hb, (hA), (hR), (fun z0 z1 => (hX z0 z1)), (fun h => not_ft h), (fun z0 z1 => (hY z0 z1)), (fun h => not_ft h), (fun z0 => (dX z0)), (fun z0 => (dY z0)), (fun z0 => (nXA z0)), (fun z0 => (nXR z0)), (fun z0 z1 => (nXY z0 z1)), (fun z0 => (nYA z0)), (fun z0 => (nYR z0))⟩
      refine lin_cons [2, 3, 4, 5, 6, 7] [9, 10, 11, 12, 13, 16, 17] rfl (by kernel_rfl) (by kernel_rfl) ?_ ?_
      · intro L ac Wn hI hi hds hus Kc hK
        obtain ⟨l0, l1, l2, l3, l4, l5, l6, l7, l8, l9, l10, l11, l12, l13, l14, l15, l16, l17, rfl, hI⟩ := hI
        obtain rfl : l8 = false := hi
        obtain ⟨rfl, rfl, rfl, rfl, rfl, rfl, -⟩ : l2 = true ∧ l3 = true ∧ l4 = true ∧ l5 = true ∧ l6 = true ∧ l7 = true ∧ True := hds
        obtain ⟨rfl, rfl, rfl, rfl, rfl, rfl, rfl, -⟩ : l9 = false ∧ l10 = false ∧ l11 = false ∧ l12 = false ∧ l13 = false ∧ l16 = false ∧ l17 = false ∧ True := hus
        simp only [sel_t, sel_f] at hI
        obtain ⟨p5, p6, rfl, hb, hA, hR, hX, hX', hY, hY', dX, dY, nXA, nXR, nXY, nYA, nYR⟩ := hI
        go_simp
        go_fit (rshift_any _ false ⟨#[1]⟩ (-e1 - p) (by decide) (by omega) (by omega) zd od (by rw [show -e1 - p = -(e1 + p) by omega]; exact HZ.out.2.1))
        rintro e V ⟨rfl, hq⟩
        exact hK.out _ _ ⟨l0, l1, true, true, true, true, true, true, true, false, false, false, false, false, l14, l15, false, false, by kernel_rfl, p5, p6, by kernel_rfl, (below_next hb hq), (hA.below hq), (hR.below hq), (fun z0 z1 => (hX z0 z1).below hq), (fun h => not_ft h), (fun z0 z1 => (hY z0 z1).below hq), (fun h => not_ft h), (fun z0 => (dX z0)), (fun z0 => (dY z0)), (fun z0 => (nXA z0)), (fun z0 => (nXR z0)), (fun z0 z1 => (nXY z0 z1)), (fun z0 => (nYA z0)), (fun z0 => (nYR z0))⟩
      refine lin_cons [0, 1, 2, 3, 4, 5, 6, 7, 8] [10, 11, 12, 13, 16, 17] rfl (by kernel_rfl) (by kernel_rfl) ?_ ?_
      · intro L ac Wn hI hi hds hus Kc hK
        obtain ⟨l0, l1, l2, l3, l4, l5, l6, l7, l8, l9, l10, l11, l12, l13, l14, l15, l16, l17, rfl, hI⟩ := hI
        obtain rfl : l9 = false := hi
        obtain ⟨rfl, rfl, rfl, rfl, rfl, rfl, rfl, rfl, rfl, -⟩ : l0 = true ∧ l1 = true ∧ l2 = true ∧ l3 = true ∧ l4 = true ∧ l5 = true ∧ l6 = true ∧ l7 = true ∧ l8 = true ∧ True := hds
        obtain ⟨rfl, rfl, rfl, rfl, rfl, rfl, -⟩ : l10 = false ∧ l11 = false ∧ l12 = false ∧ l13 = false ∧ l16 = false ∧ l17 = false ∧ True := hus
        simp only [sel_t, sel_f] at hI
        obtain ⟨p5, p6, rfl, hb, hA, hR, hX, hX', hY, hY', dX, dY, nXA, nXR, nXY, nYA, nYR⟩ := hI
        go_simp
        go_fit (rdiv_any _ m1 zd s1 od (by omega) (by omega) HZ.out.2.2.1 z o HZ.out.2.2.2.1 zr or_ HZ.out.2.2.2.2.1)
        rintro e V ⟨rfl, hq⟩
        exact hK.out _ _ ⟨true, true, true, true, true, true, true, true, true, true, false, false, false, false, l14, l15, false, false, by kernel_rfl, p5, p6, by kernel_rfl, (below_next hb hq), (hA.below hq), (hR.below hq), (fun z0 z1 => (hX z0 z1).below hq), (fun h => not_ft h), (fun z0 z1 => (hY z0 z1).below hq), (fun h => not_ft h), (fun z0 => (dX z0)), (fun z0 => (dY z0)), (fun z0 => (nXA z0)), (fun z0 => (nXR z0)), (fun z0 z1 => (nXY z0 z1)), (fun z0 => (nYA z0)), (fun z0 => (nYR z0))⟩
      refine lin_cons [0, 1, 2, 3, 4, 5, 6, 7, 8, 9] [11, 12, 13, 16, 17] rfl (by kernel_rfl) (by kernel_rfl) ?_ ?_
      · intro L ac Wn hI hi hds hus Kc hK
        obtain ⟨l0, l1, l2, l3, l4, l5, l6, l7, l8, l9, l10, l11, l12, l13, l14, l15, l16, l17, rfl, hI⟩ := hI
        obtain rfl : l10 = false := hi
        obtain ⟨rfl, rfl, rfl, rfl, rfl, rfl, rfl, rfl, rfl, rfl, -⟩ : l0 = true ∧ l1 = true ∧ l2 = true ∧ l3 = true ∧ l4 = true ∧ l5 = true ∧ l6 = true ∧ l7 = true ∧ l8 = true ∧ l9 = true ∧ True := hds
        obtain ⟨rfl, rfl, rfl, rfl, rfl, -⟩ : l11 = false ∧ l12 = false ∧ l13 = false ∧ l16 = false ∧ l17 = false ∧ True := hus
        simp only [sel_t, sel_f] at hI
        obtain ⟨p5, p6, rfl, hb, hA, hR, hX, hX', hY, hY', dX, dY, nXA, nXR, nXY, nYA, nYR⟩ := hI
        refine lin_yield (.tuple #[.agg #[.bool z, .string o], .agg #[.bool zr, .string or_], .bool true]) rfl (by go_simp; first | done | with_reducible rfl | assumption) ?_
        exact hK.out _ _ ⟨true, true, true, true, true, true, true, true, true, true, true, false, false, false, l14, l15, false, false, by kernel_rfl, p5, p6, by kernel_rfl, hb, (hA), (hR), (fun z0 z1 => (hX z0 z1)), (fun h => not_ft h), (fun z0 z1 => (hY z0 z1)), (fun h => not_ft h), (fun z0 => (dX z0)), (fun z0 => (dY z0)), (fun z0 => (nXA z0)), (fun z0 => (nXR z0)), (fun z0 z1 => (nXY z0 z1)), (fun z0 => (nYA z0)), (fun z0 => (nYR z0))⟩
      refine lin_cons [0, 1, 2, 3, 4, 5, 6, 7, 8, 9, 10] [16, 17] rfl (by kernel_rfl) (by kernel_rfl) ?_ ?_
      · intro L ac Wn hI hi hds hus Kc hK
        obtain ⟨l0, l1, l2, l3, l4, l5, l6, l7, l8, l9, l10, l11, l12, l13, l14, l15, l16, l17, rfl, hI⟩ := hI
        obtain rfl : l11 = false := hi
        obtain ⟨rfl, rfl, rfl, rfl, rfl, rfl, rfl, rfl, rfl, rfl, rfl, -⟩ : l0 = true ∧ l1 = true ∧ l2 = true ∧ l3 = true ∧ l4 = true ∧ l5 = true ∧ l6 = true ∧ l7 = true ∧ l8 = true ∧ l9 = true ∧ l10 = true ∧ True := hds
        obtain ⟨rfl, rfl, -⟩ : l16 = false ∧ l17 = false ∧ True := hus
        simp only [sel_t, sel_f] at hI
        obtain ⟨p5, p6, rfl, hb, hA, hR, hX, hX', hY, hY', dX, dY, nXA, nXR, nXY, nYA, nYR⟩ := hI
        refine lin_yield (.agg #[.bool z, .string o]) rfl (by go_simp; first | done | with_reducible rfl | assumption) ?_
        exact hK.out _ _ ⟨true, true, true, true, true, true, true, true, true, true, true, true, l12, l13, l14, l15, false, false, by kernel_rfl, p5, p6, by kernel_rfl, hb, (hA), (hR), (fun z0 z1 => (hX z0 z1)), (fun h => not_ft h), (fun z0 z1 => (hY z0 z1)), (fun h => not_ft h), (fun z0 => (dX z0)), (fun z0 => (dY z0)), (fun z0 => (nXA z0)), (fun z0 => (nXR z0)), (fun z0 z1 => (nXY z0 z1)), (fun z0 => (nYA z0)), (fun z0 => (nYR z0))⟩
      refine lin_cons [0, 1, 2, 3, 4, 5, 6, 7, 8, 9, 10] [17] rfl (by kernel_rfl) (by kernel_rfl) ?_ ?_
      · intro L ac Wn hI hi hds hus Kc hK
        obtain ⟨l0, l1, l2, l3, l4, l5, l6, l7, l8, l9, l10, l11, l12, l13, l14, l15, l16, l17, rfl, hI⟩ := hI
        obtain rfl : l12 = false := hi
        obtain ⟨rfl, rfl, rfl, rfl, rfl, rfl, rfl, rfl, rfl, rfl, rfl, -⟩ : l0 = true ∧ l1 = true ∧ l2 = true ∧ l3 = true ∧ l4 = true ∧ l5 = true ∧ l6 = true ∧ l7 = true ∧ l8 = true ∧ l9 = true ∧ l10 = true ∧ True := hds
        obtain ⟨rfl, -⟩ : l17 = false ∧ True := hus
        simp only [sel_t, sel_f] at hI
        obtain ⟨p5, p6, rfl, hb, hA, hR, hX, hX', hY, hY', dX, dY, nXA, nXR, nXY, nYA, nYR⟩ := hI
        refine lin_yield (.agg #[.bool zr, .string or_]) rfl (by go_simp; first | done | with_reducible rfl | assumption) ?_
        exact hK.out _ _ ⟨true, true, true, true, true, true, true, true, true, true, true, l11, true, l13, l14, l15, l16, false, by kernel_rfl, p5, p6, by kernel_rfl, hb, (hA), (hR), (fun z0 z1 => (hX z0 z1)), (fun z0 => (hX' z0)), (fun z0 z1 => (hY z0 z1)), (fun h => not_ft h), (fun z0 => (dX z0)), (fun z0 => (dY z0)), (fun z0 => (nXA z0)), (fun z0 => (nXR z0)), (fun z0 z1 => (nXY z0 z1)), (fun z0 => (nYA z0)), (fun z0 => (nYR z0))⟩
      refine lin_cons [0, 1, 2, 3, 4, 5, 6, 7, 8, 9, 10] [] rfl (by kernel_rfl) (by kernel_rfl) ?_ ?_
      · intro L ac Wn hI hi hds hus Kc hK
        obtain ⟨l0, l1, l2, l3, l4, l5, l6, l7, l8, l9, l10, l11, l12, l13, l14, l15, l16, l17, rfl, hI⟩ := hI
        obtain rfl : l13 = false := hi
        obtain ⟨rfl, rfl, rfl, rfl, rfl, rfl, rfl, rfl, rfl, rfl, rfl, -⟩ : l0 = true ∧ l1 = true ∧ l2 = true ∧ l3 = true ∧ l4 = true ∧ l5 = true ∧ l6 = true ∧ l7 = true ∧ l8 = true ∧ l9 = true ∧ l10 = true ∧ True := hds
        simp only [sel_t, sel_f] at hI
        obtain ⟨p5, p6, rfl, hb, hA, hR, hX, hX', hY, hY', dX, dY, nXA, nXR, nXY, nYA, nYR⟩ := hI
        refine lin_yield (.bool true) rfl (by go_simp; first | done | with_reducible rfl | assumption) ?_
        exact hK.out _ _ ⟨true, true, true, true, true, true, true, true, true, true, true, l11, l12, true, l14, l15, l16, l17, by kernel_rfl, p5, p6, by kernel_rfl, hb, (hA), (hR), (fun z0 z1 => (hX z0 z1)), (fun z0 => (hX' z0)), (fun z0 z1 => (hY z0 z1)), (fun z0 => (hY' z0)), (fun z0 => (dX z0)), (fun z0 => (dY z0)), (fun z0 => (nXA z0)), (fun z0 => (nXR z0)), (fun z0 z1 => (nXY z0 z1)), (fun z0 => (nYA z0)), (fun z0 => (nYR z0))⟩
      refine lin_cons [] [16, 17] rfl (by kernel_rfl) (by kernel_rfl) ?_ ?_
      · intro L ac Wn hI hi hds hus Kc hK
        obtain ⟨l0, l1, l2, l3, l4, l5, l6, l7, l8, l9, l10, l11, l12, l13, l14, l15, l16, l17, rfl, hI⟩ := hI
        obtain rfl : l14 = false := hi
        obtain ⟨rfl, rfl, -⟩ : l16 = false ∧ l17 = false ∧ True := hus
        simp only [sel_f] at hI
        obtain ⟨p5, p6, rfl, hb, hA, hR, hX, hX', hY, hY', dX, dY, nXA, nXR, nXY, nYA, nYR⟩ := hI
        go_simp
        exact hK.out _ _ ⟨l0, l1, l2, l3, l4, l5, l6, l7, l8, l9, l10, l11, l12, l13, true, l15, false, false, by kernel_rfl, _, p6, by kernel_rfl, (hb.alloc hb.size _), (hA.alloc _), (hR.alloc _), (fun z0 z1 => Bk.new _ _), (fun h => not_ft h), (fun z0 z1 => (hY z0 z1).alloc _), (fun h => not_ft h), (fun z0 => hb.size), (fun z0 => (dY z0)), (fun z0 => Nat.ne_of_lt ((hA).lt)), (fun z0 => Nat.ne_of_lt ((hR).lt)), (fun z0 z1 => Nat.ne_of_lt ((hY z1 rfl).lt)), (fun z0 => (nYA z0)), (fun z0 => (nYR z0))⟩
      refine lin_cons [] [16, 17] rfl (by kernel_rfl) (by kernel_rfl) ?_ ?_
      · intro L ac Wn hI hi hds hus Kc hK
        obtain ⟨l0, l1, l2, l3, l4, l5, l6, l7, l8, l9, l10, l11, l12, l13, l14, l15, l16, l17, rfl, hI⟩ := hI
        obtain rfl : l15 = false := hi
        obtain ⟨rfl, rfl, -⟩ : l16 = false ∧ l17 = false ∧ True := hus
        simp only [sel_f] at hI
        obtain ⟨p5, p6, rfl, hb, hA, hR, hX, hX', hY, hY', dX, dY, nXA, nXR, nXY, nYA, nYR⟩ := hI
        go_simp
        exact hK.out _ _ ⟨l0, l1, l2, l3, l4, l5, l6, l7, l8, l9, l10, l11, l12, l13, l14, true, false, false, by kernel_rfl, p5, _, by kernel_rfl, (hb.alloc hb.size _), (hA.alloc _), (hR.alloc _), (fun z0 z1 => (hX z0 z1).alloc _), (fun h => not_ft h), (fun z0 z1 => Bk.new _ _), (fun h => not_ft h), (fun z0 => (dX z0)), (fun z0 => hb.size), (fun z0 => (nXA z0)), (fun z0 => (nXR z0)), (fun z0 z1 => Nat.ne_of_gt ((hX z0 rfl).lt)), (fun z0 => Nat.ne_of_lt ((hA).lt)), (fun z0 => Nat.ne_of_lt ((hR).lt))⟩
      refine lin_cons [0, 1, 2, 3, 4, 5, 6, 7, 8, 9, 10, 11, 14, 15] [17] rfl (by kernel_rfl) (by kernel_rfl) ?_ ?_
      · intro L ac Wn hI hi hds hus Kc hK
        obtain ⟨l0, l1, l2, l3, l4, l5, l6, l7, l8, l9, l10, l11, l12, l13, l14, l15, l16, l17, rfl, hI⟩ := hI
        obtain rfl : l16 = false := hi
        obtain ⟨rfl, rfl, rfl, rfl, rfl, rfl, rfl, rfl, rfl, rfl, rfl, rfl, rfl, rfl, -⟩ : l0 = true ∧ l1 = true ∧ l2 = true ∧ l3 = true ∧ l4 = true ∧ l5 = true ∧ l6 = true ∧ l7 = true ∧ l8 = true ∧ l9 = true ∧ l10 = true ∧ l11 = true ∧ l14 = true ∧ l15 = true ∧ True := hds
        obtain ⟨rfl, -⟩ : l17 = false ∧ True := hus
        simp only [sel_t] at hI
        obtain ⟨p5, p6, rfl, hb, hA, hR, hX, hX', hY, hY', dX, dY, nXA, nXR, nXY, nYA, nYR⟩ := hI
        obtain ⟨q0, q1, q2, q3⟩ := (hX rfl rfl).facts
        have edX := dX rfl
        have edY := dY rfl
        have enXA := nXA rfl
        have enXR := nXR rfl
        have enXY := nXY rfl rfl
        have enYA := nYA rfl
        have enYR := nYR rfl
        go_simp
        exact hK.out _ _ ⟨true, true, true, true, true, true, true, true, true, true, true, true, l12, l13, true, true, true, false, by kernel_rfl, p5, p6, by kernel_rfl, ((hb.setCell (p := ⟨p5, 0, none⟩) (by show w.heap.size ≤ p5; omega) (.bool z)).setCell (p := ⟨p5, 1, none⟩) (by show w.heap.size ≤ p5; omega) (.string o)), (((hA).far (p := ⟨p5, 0, none⟩) (by show w.heap.size ≠ p5; omega) (.bool z)).far (p := ⟨p5, 1, none⟩) (by show w.heap.size ≠ p5; omega) (.string o)), (((hR).far (p := ⟨p5, 0, none⟩) (by show w.heap.size + 1 ≠ p5; omega) (.bool z)).far (p := ⟨p5, 1, none⟩) (by show w.heap.size + 1 ≠ p5; omega) (.string o)), (fun _ h => not_tf h), (fun _ => (hX rfl rfl).set_ (.bool z) (.string o)), (fun z0 z1 => (((hY z0 z1)).far (p := ⟨p5, 0, none⟩) (by show p6 ≠ p5; omega) (.bool z)).far (p := ⟨p5, 1, none⟩) (by show p6 ≠ p5; omega) (.string o)), (fun h => not_ft h), (fun z0 => (dX z0)), (fun z0 => (dY z0)), (fun z0 => (nXA z0)), (fun z0 => (nXR z0)), (fun z0 z1 => (nXY z0 z1)), (fun z0 => (nYA z0)), (fun z0 => (nYR z0))⟩
      refine lin_cons [0, 1, 2, 3, 4, 5, 6, 7, 8, 9, 10, 11, 12, 14, 15, 16] [] rfl (by kernel_rfl) (by kernel_rfl) ?_ lin_nil
      intro L ac Wn hI hi hds hus Kc hK
      obtain ⟨l0, l1, l2, l3, l4, l5, l6, l7, l8, l9, l10, l11, l12, l13, l14, l15, l16, l17, rfl, hI⟩ := hI
      obtain rfl : l17 = false := hi
      obtain ⟨rfl, rfl, rfl, rfl, rfl, rfl, rfl, rfl, rfl, rfl, rfl, rfl, rfl, rfl, rfl, rfl, -⟩ : l0 = true ∧ l1 = true ∧ l2 = true ∧ l3 = true ∧ l4 = true ∧ l5 = true ∧ l6 = true ∧ l7 = true ∧ l8 = true ∧ l9 = true ∧ l10 = true ∧ l11 = true ∧ l12 = true ∧ l14 = true ∧ l15 = true ∧ l16 = true ∧ True := hds
      simp only [sel_t] at hI
      obtain ⟨p5, p6, rfl, hb, hA, hR, hX, hX', hY, hY', dX, dY, nXA, nXR, nXY, nYA, nYR⟩ := hI
      obtain ⟨q0, q1, q2, q3⟩ := (hY rfl rfl).facts
      have edX := dX rfl
      have edY := dY rfl
      have enXA := nXA rfl
      have enXR := nXR rfl
      have enXY := nXY rfl rfl
      have enYA := nYA rfl
      have enYR := nYR rfl
      go_simp
      exact hK.out _ _ ⟨true, true, true, true, true, true, true, true, true, true, true, true, true, l13, true, true, true, true, by kernel_rfl, p5, p6, by kernel_rfl, ((hb.setCell (p := ⟨p6, 0, none⟩) (by show w.heap.size ≤ p6; omega) (.bool zr)).setCell (p := ⟨p6, 1, none⟩) (by show w.heap.size ≤ p6; omega) (.string or_)), (((hA).far (p := ⟨p6, 0, none⟩) (by show w.heap.size ≠ p6; omega) (.bool zr)).far (p := ⟨p6, 1, none⟩) (by show w.heap.size ≠ p6; omega) (.string or_)), (((hR).far (p := ⟨p6, 0, none⟩) (by show w.heap.size + 1 ≠ p6; omega) (.bool zr)).far (p := ⟨p6, 1, none⟩) (by show w.heap.size + 1 ≠ p6; omega) (.string or_)), (fun _ h => not_tf h), (fun z0 => (((hX' z0)).far (p := ⟨p6, 0, none⟩) (by show p5 ≠ p6; omega) (.bool zr)).far (p := ⟨p6, 1, none⟩) (by show p5 ≠ p6; omega) (.string or_)), (fun _ h => not_tf h), (fun _ => (hY rfl rfl).set_ (.bool zr) (.string or_)), (fun z0 => (dX z0)), (fun z0 => (dY z0)), (fun z0 => (nXA z0)), (fun z0 => (nXR z0)), (fun z0 z1 => (nXY z0 z1)), (fun z0 => (nYA z0)), (fun z0 => (nYR z0))⟩
    refine bar_of [0, 1, 2, 3, 4, 5, 6, 7, 8, 9, 10, 11, 12, 13, 14, 15, 16, 17] rfl (by kernel_rfl) ?_
    intro L ac Wn hI hds Kc hK
    obtain ⟨l0, l1, l2, l3, l4, l5, l6, l7, l8, l9, l10, l11, l12, l13, l14, l15, l16, l17, rfl, hI⟩ := hI
    obtain ⟨rfl, rfl, rfl, rfl, rfl, rfl, rfl, rfl, rfl, rfl, rfl, rfl, rfl, rfl, rfl, rfl, rfl, rfl, -⟩ : l0 = true ∧ l1 = true ∧ l2 = true ∧ l3 = true ∧ l4 = true ∧ l5 = true ∧ l6 = true ∧ l7 = true ∧ l8 = true ∧ l9 = true ∧ l10 = true ∧ l11 = true ∧ l12 = true ∧ l13 = true ∧ l14 = true ∧ l15 = true ∧ l16 = true ∧ l17 = true ∧ True := hds
    simp only [sel_t] at hI
    obtain ⟨p5, p6, rfl, hb, hA, hR, hX, hX', hY, hY', dX, dY, nXA, nXR, nXY, nYA, nYR⟩ := hI
    clear hX
    replace hX' := hX' rfl
    clear hY
    replace hY' := hY' rfl
    replace dX := dX rfl
    replace dY := dY rfl
    replace nXA := nXA rfl
    replace nXR := nXR rfl
    replace nXY := nXY rfl rfl
    replace nYA := nYA rfl
    replace nYR := nYR rfl
    have hX := hX'
    clear hX'
    have hY := hY'
    clear hY'
    refine lin_yield (.bool true) rfl (by go_simp; first | done | with_reducible rfl | assumption) ?_
    refine hK.out _ _ (fun fu hf => wpAnyH_done (by kernel_rfl) ?_ _)
    clear hK Kc hf
    obtain ⟨hX0, hX1, hX2, hX3⟩ := hX.facts
    go_wp2_with fail
    refine (rmake_any _ z o (-p) (by omega) (by omega) m' s' e' HZ.out.2.2.2.2.2.1).mono ?_
    rintro e9 V9 ⟨rfl, hq⟩
    replace hb := below_next hb hq
    replace hR := hR.below hq
    clear hq
    obtain ⟨hR0, hR1, hR2, hR3, hR4, hR5⟩ := hR.facts
    go_wp2
    exact ret_num rfl rfl (hR.set3 _ _ _) ⟨rfl, below_set3 hb (by omega) _ _ _ _ _ _⟩
end Go.Proofs.YtpahmnifkinpiaaGreatDoor
