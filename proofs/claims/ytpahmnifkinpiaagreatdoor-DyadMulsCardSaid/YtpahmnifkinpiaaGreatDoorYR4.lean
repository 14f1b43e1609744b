/- The document's answer for dyadic numbers: Pow, walked. -/
import Derived.Test.YtpahmnifkinpiaaGreatDoorYR3
namespace Go.Proofs.YtpahmnifkinpiaaGreatDoor
open Go.RowKit Go.Shelf

set_option maxRecDepth 100000 in
set_option maxHeartbeats 3200000 in
theorem rypow_any (w : World) (m1 : Bool) (s1 : ByteArray) (e1 n : Int) (hs : s1.size ≤ 1000) (he : -1000000 ≤ e1 ∧ e1 ≤ 1000000) (hn : n ≤ 39) (m' : Bool) (s' : ByteArray) (e' : Int) (hd : df (nv m1 s1 e1 ^ n.toNat) = nu m' s' e') :
    Calls Tryz.prog 45 #[nu m1 s1 e1, .int .i64 n] w (Ret (.agg #[.bool m', .string s', .int .i64 e']) w) := by
  have HN := Lib.hid hd
  clear hd
  unfold nu
  go_enter Tryz.func45, Tryz.ntmps45
  go_wp2_with fail
  obtain ⟨hA, hR, hb⟩ := nblk2 w m1 false s1 ⟨#[]⟩ e1 0
  generalize ((w.alloc (Obj.cells #[Value.bool m1, Value.string s1, Value.int IntKind.i64 e1] 25)).alloc (Obj.cells #[Value.bool false, Value.string { data := #[] }, Value.int IntKind.i64 0] 25)) = W0 at *
  refine (ryof_any _ 1 (by omega) (by omega) false ⟨#[1]⟩ 0 one_form).mono ?_
  rintro e W1 ⟨rfl, hq⟩
  replace hb := below_next hb hq
  replace hA := hA.below hq
  replace hR := hR.below hq
  clear hq
  go_wp2_with fail
  obtain ⟨hP, hb2⟩ := nblk1 W1 false ⟨#[1]⟩ 0
  have hBw : w.heap.size + 1 < W1.heap.size := by have := hR.lt; omega
  replace hR := hR.below hb2
  replace hA := hA.below hb2
  replace hb := below_next hb hb2
  generalize (W1.alloc (Obj.cells #[Value.bool false, Value.string { data := #[1] }, Value.int IntKind.i64 0] 25)) = W2 at *
  have hJ0 : (W2.cell? ⟨w.heap.size, 0, none⟩ = some (.bool m1) ∧ W2.cell? ⟨w.heap.size, 1, none⟩ = some (.string s1) ∧ W2.cell? ⟨w.heap.size, 2, none⟩ = some (.int .i64 e1)) ∧ RPW4 w W2 (w.heap.size + 1) W1.heap.size (nv m1 s1 e1 ^ 0) 0 := ⟨hA.cells, false, ⟨#[1]⟩, 0, hP, by rw [one_nv]; exact (Dyadic.pow_zero _).symm, by rw [one_nv]; exact one_form, by decide, by omega, hR, hb⟩
  clear hb hP hR hb2 hA
  generalize W1.heap.size = B at *
  go_loopw [6] (fun i wr => ∃ k : Nat, (k = 0 ∨ (k : Int) ≤ n) ∧ i = .int .i64 k ∧ (wr.cell? ⟨w.heap.size, 0, none⟩ = some (.bool m1) ∧ wr.cell? ⟨w.heap.size, 1, none⟩ = some (.string s1) ∧ wr.cell? ⟨w.heap.size, 2, none⟩ = some (.int .i64 e1)) ∧ RPW4 w wr (w.heap.size + 1) B (nv m1 s1 e1 ^ k) k) (fun i _ => n.toNat - intY i)
  case atStart => exact ⟨0, .inl rfl, rfl, hJ0⟩
  case round =>
    clear hJ0
    obtain ⟨k, hk, rfl, hA, q, t, f, hP, hv, hdf, ht, hf, hR, hb⟩ := hrel
    by_cases hlt : (k : Int) < n
    · have hin := hA
      obtain ⟨q2, t2, f2, hd2⟩ := df_some (nv q t f * nv m1 s1 e1)
      have hM := round_nv hd2 (by omega) ht hs hf he
      have hfx : nv q2 t2 f2 = nv m1 s1 e1 ^ (k + 1) := by rw [hM.1, hv, Dyadic.pow_succ]
      have HM := Lib.hid (And.intro hfx (And.intro hM.2 hd2))
      have hts : t.size ≤ 40000 := by have := ht; omega
      have hfb : -1000000000000 ≤ f ∧ f ≤ 1000000000000 := by omega
      have hAB : w.heap.size ≠ B := by omega
      clear hM hfx hd2 hv hdf ht hf
      obtain ⟨hA0, hA1, hA2⟩ := hA
      clear hin
      obtain ⟨hP0, hP1, hP2, hP3, hP4, hP5⟩ := hP.facts
      go_wp2_with fail
      refine (rytimes_any _ q m1 t s1 f e1 hts (by omega) hfb (by omega) q2 t2 f2 HM.out.2.2).mono ?_
      rintro e V ⟨rfl, hq⟩
      replace hb := below_next hb hq
      replace hP := hP.below hq
      replace hR := hR.below hq
      have hA3 := hold_n ⟨hA0, hA1, hA2⟩ hq
      clear hq hA0 hA1 hA2 hP0 hP1 hP2 hP3 hP4 hP5
      obtain ⟨hP0, hP1, hP2, hP3, hP4, hP5⟩ := hP.facts
      have HAs := Lib.hid (sold_n (u := .bool q2) (v := .string t2) (q := .int .i64 f2) hA3 hAB)
      have hRB : w.heap.size + 1 ≠ B := by omega
      have HJ := Lib.hid (show RPW4 w _ (w.heap.size + 1) B (nv m1 s1 e1 ^ (k + 1)) (k + 1) from ⟨q2, t2, f2, hP.set3 q2 t2 f2, HM.out.1, HM.out.2.1.1, HM.out.2.1.2.1, HM.out.2.1.2.2, ((hR.far (by exact hRB) _).far (by exact hRB) _).far (by exact hRB) _, below_set3 hb (by omega) _ _ _ _ _ _⟩)
      clear hA3 hP hR hb
      go_wp2
      go_roundw
      case rel => exact ⟨k + 1, .inr (by omega), by simp, HAs.out, HJ.out⟩
      case measure => simp [intY]; omega
    · have hkn : k = n.toNat := by omega
      have hd := HN.out
      rw [hv, hkn, hd] at hdf
      obtain ⟨rfl, rfl, rfl⟩ := nu_inj hdf
      clear hdf hv hd hA
      obtain ⟨hP0, hP1, hP2, hP3, hP4, hP5⟩ := hP.facts
      obtain ⟨hR0, hR1, hR2, hR3, hR4, hR5⟩ := hR.facts
      go_wp2_with fail
      exact ret_num rfl rfl (hR.set3 _ _ _) ⟨rfl, below_set3 hb (by omega) _ _ _ _ _ _⟩
end Go.Proofs.YtpahmnifkinpiaaGreatDoor
