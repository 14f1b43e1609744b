/- The document's answer for dyadic numbers: Plus, walked. -/
import Derived.Test.YtpahmnifkinpiaaGreatDoorYR3
import Derived.Test.YtpahmnifkinpiaaGreatDoorWRef8
import Derived.Test.YtpahmnifkinpiaaGreatDoorHW
namespace Go.Proofs.YtpahmnifkinpiaaGreatDoor
open Go.RowKit Go.Shelf


set_option maxRecDepth 100000 in
set_option maxHeartbeats 3200000 in
theorem ryplus_any (w : World) (m n : Bool) (s t : ByteArray) (d e : Int) (hs : s.size ≤ 2000) (ht : t.size ≤ 2000) (hd0 : -20000 ≤ d ∧ d ≤ 20000) (he : -20000 ≤ e ∧ e ≤ 20000) (m' : Bool) (s' : ByteArray) (e' : Int) (hd : df (nv m s d + nv n t e) = nu m' s' e') :
    Calls Tryz.prog 97 #[nu m s d, nu n t e] w (Ret (.agg #[.bool m', .string s', .int .i64 e']) w) := by
  obtain ⟨m1, s1, d1, h1⟩ := df_some (nv m s d)
  obtain ⟨n1, t1, e1, h2⟩ := df_some (nv n t e)
  obtain ⟨x1, x2⟩ := df_exp h1 hs
  obtain ⟨y1, y2⟩ := df_exp h2 ht
  have p1 := (df_parts h1).2.2.1
  have p2 := (df_parts h2).2.2.1
  have hd1 : -20000 ≤ d1 ∧ d1 ≤ 36000 := by omega
  have he1 : -20000 ≤ e1 ∧ e1 ≤ 36000 := by omega
  rw [← p1, ← p2] at hd
  have HF := Lib.hid (And.intro h1 (And.intro h2 hd))
  have HG := Lib.hid (And.intro (by rw [p1]; exact h1 : df (nv m1 s1 d1) = nu m1 s1 d1) (by rw [p2]; exact h2 : df (nv n1 t1 e1) = nu n1 t1 e1))
  clear h1 h2 hd x1 y1 p1 p2
  unfold nu
  go_enter Tryz.func97, Tryz.ntmps97
  go_wp2_with fail
  obtain ⟨hA, hB, hR, hb⟩ := nblk3 w m n false s t ⟨#[]⟩ d e 0
  generalize (((w.alloc (Obj.cells #[Value.bool m, Value.string s, Value.int IntKind.i64 d] 25)).alloc (Obj.cells #[Value.bool n, Value.string t, Value.int IntKind.i64 e] 25)).alloc (Obj.cells #[Value.bool false, Value.string { data := #[] }, Value.int IntKind.i64 0] 25)) = W0 at *
  refine region_dag (fun w' => Below w.heap.size w w') (fun fu li ac Wn => (fun w' => Below w.heap.size w w') Wn ∧ ((fu = 6 ∧ li = #[false, false, false, false, false, false] ∧ ac = { tmps := #[.agg #[.bool m, .string s, .int .i64 d], .agg #[.bool n, .string t, .int .i64 e], .pointer (some ⟨w.heap.size, 0, none⟩), .pointer (some ⟨w.heap.size + 1, 0, none⟩), .pointer (some ⟨w.heap.size + 1 + 1, 0, none⟩), undef, undef, undef, undef, undef, undef, undef, undef, undef, undef, undef, undef, undef, undef, undef, undef, undef, undef, undef, undef, undef, undef, undef, undef, undef, undef, undef, undef, undef, undef, undef, undef, undef], defers := [] } ∧ Nk Wn w.heap.size m s d ∧ Nk Wn (w.heap.size + 1) n t e ∧ Nk Wn (w.heap.size + 1 + 1) false ⟨#[]⟩ 0) ∨ (fu = 5 ∧ li = #[true, false, false, false, false, false] ∧ ac = { tmps := #[.agg #[.bool m, .string s, .int .i64 d], .agg #[.bool n, .string t, .int .i64 e], .pointer (some ⟨w.heap.size, 0, none⟩), .pointer (some ⟨w.heap.size + 1, 0, none⟩), .pointer (some ⟨w.heap.size + 1 + 1, 0, none⟩), .agg #[.bool m, .string s, .int .i64 d], undef, undef, undef, undef, undef, undef, undef, undef, undef, undef, undef, undef, undef, undef, undef, undef, undef, undef, undef, undef, undef, undef, undef, undef, undef, undef, undef, undef, undef, undef, undef, undef], defers := [] } ∧ Nk Wn w.heap.size m s d ∧ Nk Wn (w.heap.size + 1) n t e ∧ Nk Wn (w.heap.size + 1 + 1) false ⟨#[]⟩ 0) ∨ (fu = 5 ∧ li = #[false, false, true, false, false, false] ∧ ac = { tmps := #[.agg #[.bool m, .string s, .int .i64 d], .agg #[.bool n, .string t, .int .i64 e], .pointer (some ⟨w.heap.size, 0, none⟩), .pointer (some ⟨w.heap.size + 1, 0, none⟩), .pointer (some ⟨w.heap.size + 1 + 1, 0, none⟩), undef, undef, .agg #[.bool n, .string t, .int .i64 e], undef, undef, undef, undef, undef, undef, undef, undef, undef, undef, undef, undef, undef, undef, undef, undef, undef, undef, undef, undef, undef, undef, undef, undef, undef, undef, undef, undef, undef, undef], defers := [] } ∧ Nk Wn w.heap.size m s d ∧ Nk Wn (w.heap.size + 1) n t e ∧ Nk Wn (w.heap.size + 1 + 1) false ⟨#[]⟩ 0) ∨ (fu = 4 ∧ li = #[true, true, false, false, false, false] ∧ ∃ (x5 : Value), ac = { tmps := #[.agg #[.bool m, .string s, .int .i64 d], .agg #[.bool n, .string t, .int .i64 e], .pointer (some ⟨w.heap.size, 0, none⟩), .pointer (some ⟨w.heap.size + 1, 0, none⟩), .pointer (some ⟨w.heap.size + 1 + 1, 0, none⟩), x5, .agg #[.bool m1, .string s1, .int .i64 d1], undef, undef, undef, undef, undef, undef, undef, undef, undef, undef, undef, undef, undef, undef, undef, undef, undef, undef, undef, undef, undef, undef, undef, undef, undef, undef, undef, undef, undef, undef, undef], defers := [] } ∧ Nk Wn w.heap.size m s d ∧ Nk Wn (w.heap.size + 1) n t e ∧ Nk Wn (w.heap.size + 1 + 1) false ⟨#[]⟩ 0) ∨ (fu = 4 ∧ li = #[true, false, true, false, false, false] ∧ ac = { tmps := #[.agg #[.bool m, .string s, .int .i64 d], .agg #[.bool n, .string t, .int .i64 e], .pointer (some ⟨w.heap.size, 0, none⟩), .pointer (some ⟨w.heap.size + 1, 0, none⟩), .pointer (some ⟨w.heap.size + 1 + 1, 0, none⟩), .agg #[.bool m, .string s, .int .i64 d], undef, .agg #[.bool n, .string t, .int .i64 e], undef, undef, undef, undef, undef, undef, undef, undef, undef, undef, undef, undef, undef, undef, undef, undef, undef, undef, undef, undef, undef, undef, undef, undef, undef, undef, undef, undef, undef, undef], defers := [] } ∧ Nk Wn w.heap.size m s d ∧ Nk Wn (w.heap.size + 1) n t e ∧ Nk Wn (w.heap.size + 1 + 1) false ⟨#[]⟩ 0) ∨ (fu = 3 ∧ li = #[true, true, true, false, false, false] ∧ ∃ (x5 : Value), ac = { tmps := #[.agg #[.bool m, .string s, .int .i64 d], .agg #[.bool n, .string t, .int .i64 e], .pointer (some ⟨w.heap.size, 0, none⟩), .pointer (some ⟨w.heap.size + 1, 0, none⟩), .pointer (some ⟨w.heap.size + 1 + 1, 0, none⟩), x5, .agg #[.bool m1, .string s1, .int .i64 d1], .agg #[.bool n, .string t, .int .i64 e], undef, undef, undef, undef, undef, undef, undef, undef, undef, undef, undef, undef, undef, undef, undef, undef, undef, undef, undef, undef, undef, undef, undef, undef, undef, undef, undef, undef, undef, undef], defers := [] } ∧ Nk Wn w.heap.size m s d ∧ Nk Wn (w.heap.size + 1) n t e ∧ Nk Wn (w.heap.size + 1 + 1) false ⟨#[]⟩ 0) ∨ (fu = 2 ∧ li = #[true, true, true, true, false, false] ∧ ∃ (x5 : Value) (x7 : Value), ac = { tmps := #[.agg #[.bool m, .string s, .int .i64 d], .agg #[.bool n, .string t, .int .i64 e], .pointer (some ⟨w.heap.size, 0, none⟩), .pointer (some ⟨w.heap.size + 1, 0, none⟩), .pointer (some ⟨w.heap.size + 1 + 1, 0, none⟩), x5, .agg #[.bool m1, .string s1, .int .i64 d1], x7, .agg #[.bool n1, .string t1, .int .i64 e1], undef, undef, undef, undef, undef, undef, undef, undef, undef, undef, undef, undef, undef, undef, undef, undef, undef, undef, undef, undef, undef, undef, undef, undef, undef, undef, undef, undef, undef], defers := [] } ∧ Nk Wn w.heap.size m s d ∧ Nk Wn (w.heap.size + 1) n t e ∧ Nk Wn (w.heap.size + 1 + 1) false ⟨#[]⟩ 0) ∨ (fu = 1 ∧ li = #[true, true, true, true, true, false] ∧ ∃ (x5 : Value) (x6 : Value) (x7 : Value), ac = { tmps := #[.agg #[.bool m, .string s, .int .i64 d], .agg #[.bool n, .string t, .int .i64 e], .pointer (some ⟨w.heap.size, 0, none⟩), .pointer (some ⟨w.heap.size + 1, 0, none⟩), .pointer (some ⟨w.heap.size + 1 + 1, 0, none⟩), x5, x6, x7, .agg #[.bool n1, .string t1, .int .i64 e1], undef, undef, undef, undef, undef, undef, undef, undef, undef, undef, undef, undef, undef, undef, undef, undef, undef, undef, undef, undef, undef, undef, undef, undef, undef, undef, undef, undef, undef], defers := [] } ∧ Nk Wn w.heap.size m1 s1 d1 ∧ Nk Wn (w.heap.size + 1) n t e ∧ Nk Wn (w.heap.size + 1 + 1) false ⟨#[]⟩ 0) ∨ (fu = 0 ∧ li = #[true, true, true, true, true, true] ∧ ∃ (x5 : Value) (x6 : Value) (x7 : Value) (x8 : Value), ac = { tmps := #[.agg #[.bool m, .string s, .int .i64 d], .agg #[.bool n, .string t, .int .i64 e], .pointer (some ⟨w.heap.size, 0, none⟩), .pointer (some ⟨w.heap.size + 1, 0, none⟩), .pointer (some ⟨w.heap.size + 1 + 1, 0, none⟩), x5, x6, x7, x8, undef, undef, undef, undef, undef, undef, undef, undef, undef, undef, undef, undef, undef, undef, undef, undef, undef, undef, undef, undef, undef, undef, undef, undef, undef, undef, undef, undef, undef], defers := [] } ∧ Nk Wn w.heap.size m1 s1 d1 ∧ Nk Wn (w.heap.size + 1) n1 t1 e1 ∧ Nk Wn (w.heap.size + 1 + 1) false ⟨#[]⟩ 0))) (by kernel_rfl) ?_ ?_
  · exact ⟨hb.drew, Or.inl (⟨rfl, rfl, rfl, hA, hB, hR⟩)⟩
  · clear hA hB hR hb
    rintro fu li ac Wn ⟨hS, hI⟩ IH
    rcases hI with ⟨rfl, rfl, rfl, hA, hB, hR⟩ | hI
    · refine wpAnyH_ready (rs := [0, 2]) (by kernel_rfl) (by simp) ?_
      refine AllReadyH.cons rfl (fun Kc hK => ?_) ?_
      · obtain ⟨_, _, _, _, _, _⟩ := hA.facts
        go_simp
        refine hK.out _ _ (hS) (fun hS' => ?_)
        exact IH.out _ _ _ _ (by omega) ⟨hS', Or.inr (Or.inl (⟨rfl, by kernel_rfl, rfl, hA, hB, hR⟩))⟩
      refine AllReadyH.cons rfl (fun Kc hK => ?_) AllReadyH.nil
      obtain ⟨_, _, _, _, _, _⟩ := hB.facts
      go_simp
      refine hK.out _ _ (hS) (fun hS' => ?_)
      exact IH.out _ _ _ _ (by omega) ⟨hS', Or.inr (Or.inr (Or.inl (⟨rfl, by kernel_rfl, rfl, hA, hB, hR⟩)))⟩
    rcases hI with ⟨rfl, rfl, rfl, hA, hB, hR⟩ | hI
    · refine wpAnyH_ready (rs := [1, 2]) (by kernel_rfl) (by simp) ?_
      refine AllReadyH.cons rfl (fun Kc hK => ?_) ?_
      · go_simp
        go_fit (ryform_any _ m s d (by omega) (by omega) m1 s1 d1 HF.out.1)
        rintro e V ⟨rfl, hq⟩
        refine hK.out _ _ (below_next hS hq) (fun hS' => ?_)
        exact IH.out _ _ _ _ (by omega) ⟨hS', Or.inr (Or.inr (Or.inr (Or.inl (⟨rfl, by kernel_rfl, _, rfl, hA.below hq, hB.below hq, hR.below hq⟩))))⟩
      refine AllReadyH.cons rfl (fun Kc hK => ?_) AllReadyH.nil
      obtain ⟨_, _, _, _, _, _⟩ := hB.facts
      go_simp
      refine hK.out _ _ (hS) (fun hS' => ?_)
      exact IH.out _ _ _ _ (by omega) ⟨hS', Or.inr (Or.inr (Or.inr (Or.inr (Or.inl (⟨rfl, by kernel_rfl, rfl, hA, hB, hR⟩)))))⟩
    rcases hI with ⟨rfl, rfl, rfl, hA, hB, hR⟩ | hI
    · refine wpAnyH_ready (rs := [0]) (by kernel_rfl) (by simp) ?_
      refine AllReadyH.cons rfl (fun Kc hK => ?_) AllReadyH.nil
      obtain ⟨_, _, _, _, _, _⟩ := hA.facts
      go_simp
      refine hK.out _ _ (hS) (fun hS' => ?_)
      exact IH.out _ _ _ _ (by omega) ⟨hS', Or.inr (Or.inr (Or.inr (Or.inr (Or.inl (⟨rfl, by kernel_rfl, rfl, hA, hB, hR⟩)))))⟩
    rcases hI with ⟨rfl, rfl, x5, rfl, hA, hB, hR⟩ | hI
    · refine wpAnyH_ready (rs := [2]) (by kernel_rfl) (by simp) ?_
      refine AllReadyH.cons rfl (fun Kc hK => ?_) AllReadyH.nil
      obtain ⟨_, _, _, _, _, _⟩ := hB.facts
      go_simp
      refine hK.out _ _ (hS) (fun hS' => ?_)
      exact IH.out _ _ _ _ (by omega) ⟨hS', Or.inr (Or.inr (Or.inr (Or.inr (Or.inr (Or.inl (⟨rfl, by kernel_rfl, _, rfl, hA, hB, hR⟩))))))⟩
    rcases hI with ⟨rfl, rfl, rfl, hA, hB, hR⟩ | hI
    · refine wpAnyH_ready (rs := [1]) (by kernel_rfl) (by simp) ?_
      refine AllReadyH.cons rfl (fun Kc hK => ?_) AllReadyH.nil
      go_simp
      go_fit (ryform_any _ m s d (by omega) (by omega) m1 s1 d1 HF.out.1)
      rintro e V ⟨rfl, hq⟩
      refine hK.out _ _ (below_next hS hq) (fun hS' => ?_)
      exact IH.out _ _ _ _ (by omega) ⟨hS', Or.inr (Or.inr (Or.inr (Or.inr (Or.inr (Or.inl (⟨rfl, by kernel_rfl, _, rfl, hA.below hq, hB.below hq, hR.below hq⟩))))))⟩
    rcases hI with ⟨rfl, rfl, x5, rfl, hA, hB, hR⟩ | hI
    · refine wpAnyH_ready (rs := [3]) (by kernel_rfl) (by simp) ?_
      refine AllReadyH.cons rfl (fun Kc hK => ?_) AllReadyH.nil
      go_simp
      go_fit (ryform_any _ n t e (by omega) (by omega) n1 t1 e1 HF.out.2.1)
      rintro e V ⟨rfl, hq⟩
      refine hK.out _ _ (below_next hS hq) (fun hS' => ?_)
      exact IH.out _ _ _ _ (by omega) ⟨hS', Or.inr (Or.inr (Or.inr (Or.inr (Or.inr (Or.inr (Or.inl (⟨rfl, by kernel_rfl, _, _, rfl, hA.below hq, hB.below hq, hR.below hq⟩)))))))⟩
    rcases hI with ⟨rfl, rfl, x5, x7, rfl, hA, hB, hR⟩ | hI
    · refine wpAnyH_ready (rs := [4]) (by kernel_rfl) (by simp) ?_
      refine AllReadyH.cons rfl (fun Kc hK => ?_) AllReadyH.nil
      obtain ⟨_, _, _, _, _, _⟩ := hA.facts
      go_simp
      refine hK.out _ _ (below_set3 hS (by omega) _ _ _ _ _ _) (fun hS' => ?_)
      exact IH.out _ _ _ _ (by omega) ⟨hS', Or.inr (Or.inr (Or.inr (Or.inr (Or.inr (Or.inr (Or.inr (Or.inl (⟨rfl, by kernel_rfl, _, _, _, rfl, hA.set3 _ _ _, (((hB).far (by show (w.heap.size + 1) ≠ w.heap.size; omega) _).far (by show (w.heap.size + 1) ≠ w.heap.size; omega) _).far (by show (w.heap.size + 1) ≠ w.heap.size; omega) _, (((hR).far (by show (w.heap.size + 1 + 1) ≠ w.heap.size; omega) _).far (by show (w.heap.size + 1 + 1) ≠ w.heap.size; omega) _).far (by show (w.heap.size + 1 + 1) ≠ w.heap.size; omega) _⟩))))))))⟩
    rcases hI with ⟨rfl, rfl, x5, x6, x7, rfl, hA, hB, hR⟩ | hI
    · refine wpAnyH_ready (rs := [5]) (by kernel_rfl) (by simp) ?_
      refine AllReadyH.cons rfl (fun Kc hK => ?_) AllReadyH.nil
      obtain ⟨_, _, _, _, _, _⟩ := hB.facts
      go_simp
      refine hK.out _ _ (below_set3 hS (by omega) _ _ _ _ _ _) (fun hS' => ?_)
      exact IH.out _ _ _ _ (by omega) ⟨hS', Or.inr (Or.inr (Or.inr (Or.inr (Or.inr (Or.inr (Or.inr (Or.inr (⟨rfl, by kernel_rfl, _, _, _, _, rfl, (((hA).far (by show w.heap.size ≠ (w.heap.size + 1); omega) _).far (by show w.heap.size ≠ (w.heap.size + 1); omega) _).far (by show w.heap.size ≠ (w.heap.size + 1); omega) _, hB.set3 _ _ _, (((hR).far (by show (w.heap.size + 1 + 1) ≠ (w.heap.size + 1); omega) _).far (by show (w.heap.size + 1 + 1) ≠ (w.heap.size + 1); omega) _).far (by show (w.heap.size + 1 + 1) ≠ (w.heap.size + 1); omega) _⟩))))))))⟩
    obtain ⟨rfl, rfl, x5, x6, x7, x8, rfl, hA, hB, hR⟩ := hI
    refine wpAnyH_done (by kernel_rfl) ?_ _
    clear IH
    have hb := hS
    clear hS
    obtain ⟨hA0, hA1, hA2, hA3, hA4, hA5⟩ := hA.facts
    obtain ⟨hB0, hB1, hB2, hB3, hB4, hB5⟩ := hB.facts
    go_wp2_with fail
    clear hA0 hA1 hA2 hA3 hA4 hA5 hB0 hB1 hB2 hB3 hB4 hB5
    obtain ⟨c1, hc1⟩ : ∃ c, sg (wv m1 s1) = c := ⟨_, rfl⟩
    refine (rysign_any _ m1 s1 d1 (by omega) c1 hc1).mono ?_
    rintro e V1 ⟨rfl, hq⟩
    replace hb := below_next hb hq
    replace hA := hA.below hq
    replace hB := hB.below hq
    replace hR := hR.below hq
    clear hq
    by_cases hc10 : c1 = 0
    · subst hc10
      have hres : nu n1 t1 e1 = nu m' s' e' := by rw [← HG.out.2, ← HF.out.2.2, zero_nv hc1, Dyadic.zero_add]
      obtain ⟨rfl, rfl, rfl⟩ := nu_inj hres
      clear hres hc1
      obtain ⟨hA0, hA1, hA2, hA3, hA4, hA5⟩ := hA.facts
      obtain ⟨hB0, hB1, hB2, hB3, hB4, hB5⟩ := hB.facts
      obtain ⟨hR0, hR1, hR2, hR3, hR4, hR5⟩ := hR.facts
      go_wp2_with fail
      exact ret_num rfl rfl (hR.set3 _ _ _) ⟨rfl, below_set3 hb (by omega) _ _ _ _ _ _⟩
    · have hc1b : (c1 == 0) = false := by rw [beq_eq_false_iff_ne]; exact hc10
      clear hc1
      obtain ⟨hB0, hB1, hB2, hB3, hB4, hB5⟩ := hB.facts
      go_wp2_with fail
      clear hB0 hB1 hB2 hB3 hB4 hB5
      obtain ⟨c2, hc2⟩ : ∃ c, sg (wv n1 t1) = c := ⟨_, rfl⟩
      refine (rysign_any _ n1 t1 e1 (by omega) c2 hc2).mono ?_
      rintro e V2 ⟨rfl, hq⟩
      replace hb := below_next hb hq
      replace hA := hA.below hq
      replace hB := hB.below hq
      replace hR := hR.below hq
      clear hq
      by_cases hc20 : c2 = 0
      · subst hc20
        have hres : nu m1 s1 d1 = nu m' s' e' := by rw [← HG.out.1, ← HF.out.2.2, zero_nv hc2, Dyadic.add_zero]
        obtain ⟨rfl, rfl, rfl⟩ := nu_inj hres
        clear hres hc2
        obtain ⟨hA0, hA1, hA2, hA3, hA4, hA5⟩ := hA.facts
        obtain ⟨hB0, hB1, hB2, hB3, hB4, hB5⟩ := hB.facts
        obtain ⟨hR0, hR1, hR2, hR3, hR4, hR5⟩ := hR.facts
        go_wp2_with fail
        exact ret_num rfl rfl (hR.set3 _ _ _) ⟨rfl, below_set3 hb (by omega) _ _ _ _ _ _⟩
      · have hc2b : (c2 == 0) = false := by rw [beq_eq_false_iff_ne]; exact hc20
        clear hc2
        by_cases hlt : d1 < e1
        · obtain ⟨hA0, hA1, hA2, hA3, hA4, hA5⟩ := hA.facts
          obtain ⟨hB0, hB1, hB2, hB3, hB4, hB5⟩ := hB.facts
          go_wp2_with fail
          clear hA0 hA1 hA2 hA3 hA4 hA5 hB0 hB1 hB2 hB3 hB4 hB5
          replace hA := hA.set3 n1 t1 e1
          replace hB := ((hB.far (p := ⟨w.heap.size, 0, none⟩) (by show w.heap.size + 1 ≠ w.heap.size; omega) (.bool n1)).far (p := ⟨w.heap.size, 1, none⟩) (by show w.heap.size + 1 ≠ w.heap.size; omega) (.string t1)).far (p := ⟨w.heap.size, 2, none⟩) (by show w.heap.size + 1 ≠ w.heap.size; omega) (.int .i64 e1)
          replace hR := ((hR.far (p := ⟨w.heap.size, 0, none⟩) (by show w.heap.size + 1 + 1 ≠ w.heap.size; omega) (.bool n1)).far (p := ⟨w.heap.size, 1, none⟩) (by show w.heap.size + 1 + 1 ≠ w.heap.size; omega) (.string t1)).far (p := ⟨w.heap.size, 2, none⟩) (by show w.heap.size + 1 + 1 ≠ w.heap.size; omega) (.int .i64 e1)
          replace hb := below_set3 hb (Nat.le_refl _) 0 1 2 (.bool n1) (.string t1) (.int .i64 e1)
          replace hA := ((hA.far (p := ⟨w.heap.size + 1, 0, none⟩) (by show w.heap.size ≠ w.heap.size + 1; omega) (.bool m1)).far (p := ⟨w.heap.size + 1, 1, none⟩) (by show w.heap.size ≠ w.heap.size + 1; omega) (.string s1)).far (p := ⟨w.heap.size + 1, 2, none⟩) (by show w.heap.size ≠ w.heap.size + 1; omega) (.int .i64 d1)
          replace hB := hB.set3 m1 s1 d1
          replace hR := ((hR.far (p := ⟨w.heap.size + 1, 0, none⟩) (by show w.heap.size + 1 + 1 ≠ w.heap.size + 1; omega) (.bool m1)).far (p := ⟨w.heap.size + 1, 1, none⟩) (by show w.heap.size + 1 + 1 ≠ w.heap.size + 1; omega) (.string s1)).far (p := ⟨w.heap.size + 1, 2, none⟩) (by show w.heap.size + 1 + 1 ≠ w.heap.size + 1; omega) (.int .i64 d1)
          replace hb := below_set3 hb (show w.heap.size ≤ w.heap.size + 1 by omega) 0 1 2 (.bool m1) (.string s1) (.int .i64 d1)
          generalize ((((((V2.setCell ⟨w.heap.size, 0, none⟩ (.bool n1)).setCell ⟨w.heap.size, 1, none⟩ (.string t1)).setCell ⟨w.heap.size, 2, none⟩ (.int .i64 e1)).setCell ⟨w.heap.size + 1, 0, none⟩ (.bool m1)).setCell ⟨w.heap.size + 1, 1, none⟩ (.string s1)).setCell ⟨w.heap.size + 1, 2, none⟩ (.int .i64 d1)) = VS at *
          obtain ⟨k, hk⟩ : ∃ k : Nat, e1 - d1 = (k : Int) := ⟨(e1 - d1).toNat, by omega⟩
          obtain ⟨zs, os, es, vs, ss⟩ := shift_nmw n1 t1 k (B := 2000) (K := 7000) (by omega) (by omega)
          obtain ⟨zp, op, ep, vp, sp⟩ := plus_nmw zs m1 os s1 (k := 9000) (by omega) (by omega)
          have ez : wf (shiftI (wv n1 t1) (e1 - d1) + wv m1 s1) = wi zp op := by rw [hk, ← vs, ep]
          have hfin : df (nv zp op d1) = nu m' s' e' := by rw [nv_plus (by omega) ez]; exact (by rw [Dyadic.add_comm]; exact HF.out.2.2)
          have hwk : IntKind.i64.wrap (e1 - d1) = e1 - d1 := by rw [IntKind.wrap_i64]; omega
          have HZ := Lib.hid (And.intro (show wf (shiftI (wv n1 t1) (e1 - d1)) = wi zs os by rw [hk, es]) (And.intro ep hfin))
          clear es vs ep vp ez hfin hk
          skip
          have hin := And.intro hA.drew.cells hB.drew.cells
          replace hb := hb.drew
          replace hR := hR.drew
          clear hA hB
          go_region_held3 (fun w' => (w'.cell? ⟨w.heap.size, 0, none⟩ = some (.bool n1) ∧ w'.cell? ⟨w.heap.size, 1, none⟩ = some (.string t1) ∧ w'.cell? ⟨w.heap.size, 2, none⟩ = some (.int .i64 e1)) ∧ (w'.cell? ⟨w.heap.size + 1, 0, none⟩ = some (.bool m1) ∧ w'.cell? ⟨w.heap.size + 1, 1, none⟩ = some (.string s1) ∧ w'.cell? ⟨w.heap.size + 1, 2, none⟩ = some (.int .i64 d1)))
            (first | assumption | exact h_nn (by assumption) (by assumption) | exact a_nn (by assumption) | exact s_nn (by assumption) (by simp <;> omega))
            (first
             | (go_at_call 108; go_fit (rshift_any _ n1 t1 (e1 - d1) (by omega) (by omega) (by omega) zs os HZ.out.1); rintro e V ⟨rfl, hq⟩; replace hb := below_next hb hq; replace hR := hR.below hq)
             | (go_at_call 120; go_fit (rplus_any _ zs m1 os s1 (by omega) (by omega) zp op HZ.out.2.1); rintro e V ⟨rfl, hq⟩; replace hb := below_next hb hq; replace hR := hR.below hq)
             | (go_at_call 25; go_fit (rmake_any _ zp op d1 (by omega) (by omega) m' s' e' HZ.out.2.2); rintro e V ⟨rfl, hq⟩; replace hb := below_next hb hq; replace hR := hR.below hq; obtain ⟨_, _, _, _, _, _⟩ := hR.facts))
          go_wp2
          exact ret_num rfl rfl (hR.set3 _ _ _) ⟨rfl, below_set3 hb (by omega) _ _ _ _ _ _⟩
        · obtain ⟨hA0, hA1, hA2, hA3, hA4, hA5⟩ := hA.facts
          obtain ⟨hB0, hB1, hB2, hB3, hB4, hB5⟩ := hB.facts
          obtain ⟨k, hk⟩ : ∃ k : Nat, d1 - e1 = (k : Int) := ⟨(d1 - e1).toNat, by omega⟩
          obtain ⟨zs, os, es, vs, ss⟩ := shift_nmw m1 s1 k (B := 2000) (K := 7000) (by omega) (by omega)
          obtain ⟨zp, op, ep, vp, sp⟩ := plus_nmw zs n1 os t1 (k := 9000) (by omega) (by omega)
          have ez : wf (shiftI (wv m1 s1) (d1 - e1) + wv n1 t1) = wi zp op := by rw [hk, ← vs, ep]
          have hfin : df (nv zp op e1) = nu m' s' e' := by rw [nv_plus (by omega) ez]; exact HF.out.2.2
          have hwk : IntKind.i64.wrap (d1 - e1) = d1 - e1 := by rw [IntKind.wrap_i64]; omega
          have HZ := Lib.hid (And.intro (show wf (shiftI (wv m1 s1) (d1 - e1)) = wi zs os by rw [hk, es]) (And.intro ep hfin))
          clear es vs ep vp ez hfin hk
          go_wp2_with fail
          have hin := And.intro hA.drew.cells hB.drew.cells
          replace hb := hb.drew
          replace hR := hR.drew
          clear hA hB
          go_region_held3 (fun w' => (w'.cell? ⟨w.heap.size, 0, none⟩ = some (.bool m1) ∧ w'.cell? ⟨w.heap.size, 1, none⟩ = some (.string s1) ∧ w'.cell? ⟨w.heap.size, 2, none⟩ = some (.int .i64 d1)) ∧ (w'.cell? ⟨w.heap.size + 1, 0, none⟩ = some (.bool n1) ∧ w'.cell? ⟨w.heap.size + 1, 1, none⟩ = some (.string t1) ∧ w'.cell? ⟨w.heap.size + 1, 2, none⟩ = some (.int .i64 e1)))
            (first | assumption | exact h_nn (by assumption) (by assumption) | exact a_nn (by assumption) | exact s_nn (by assumption) (by simp <;> omega))
            (first
             | (go_at_call 108; go_fit (rshift_any _ m1 s1 (d1 - e1) (by omega) (by omega) (by omega) zs os HZ.out.1); rintro e V ⟨rfl, hq⟩; replace hb := below_next hb hq; replace hR := hR.below hq)
             | (go_at_call 120; go_fit (rplus_any _ zs n1 os t1 (by omega) (by omega) zp op HZ.out.2.1); rintro e V ⟨rfl, hq⟩; replace hb := below_next hb hq; replace hR := hR.below hq)
             | (go_at_call 25; go_fit (rmake_any _ zp op e1 (by omega) (by omega) m' s' e' HZ.out.2.2); rintro e V ⟨rfl, hq⟩; replace hb := below_next hb hq; replace hR := hR.below hq; obtain ⟨_, _, _, _, _, _⟩ := hR.facts))
          go_wp2
          exact ret_num rfl rfl (hR.set3 _ _ _) ⟨rfl, below_set3 hb (by omega) _ _ _ _ _ _⟩
    
end Go.Proofs.YtpahmnifkinpiaaGreatDoor
