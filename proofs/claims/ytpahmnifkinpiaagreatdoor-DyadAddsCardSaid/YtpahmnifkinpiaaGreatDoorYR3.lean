/- The document's answer for dyadic numbers: Mul, Pow; walked. -/
import Derived.Test.YtpahmnifkinpiaaGreatDoorHQ
import Derived.Test.YtpahmnifkinpiaaGreatDoorHM
import Derived.Test.YtpahmnifkinpiaaGreatDoorHW
namespace Go.Proofs.YtpahmnifkinpiaaGreatDoor
open Go.RowKit Go.Shelf

/-- Between the rounds of Mul and Pow. -/
def RPW4 (w wr : World) (r B : Nat) (x : Dyadic) (k : Nat) : Prop :=
  ∃ q t f, Nk wr B q t f ∧ nv q t f = x ∧ df (nv q t f) = nu q t f ∧ t.size ≤ 1 + k * 1000 ∧ (-((k + 1 : Nat) : Int) * 10000000 ≤ f ∧ f ≤ ((k + 1 : Nat) : Int) * 10000000) ∧ Nk wr r false ⟨#[]⟩ 0 ∧ Below w.heap.size w wr
theorem one_form : df (.ofIntWithPrec 1 0) = nu false ⟨#[1]⟩ 0 := by kernel_rfl
theorem one_nv : nv false ⟨#[1]⟩ 0 = 1 := by
  have h := (df_parts one_form).2.2.1
  rw [h]
  rfl
theorem hold_n {W W' : World} {b i j k : Nat} {x y z : Value} (h : W.cell? ⟨b, i, none⟩ = some x ∧ W.cell? ⟨b, j, none⟩ = some y ∧ W.cell? ⟨b, k, none⟩ = some z) (hq : Below W.heap.size W W') : W'.cell? ⟨b, i, none⟩ = some x ∧ W'.cell? ⟨b, j, none⟩ = some y ∧ W'.cell? ⟨b, k, none⟩ = some z := by
  have hl := block_lt_of_cell h.1
  have hl1 : (⟨b, j, none⟩ : Addr).block < W.heap.size := hl
  have hl2 : (⟨b, k, none⟩ : Addr).block < W.heap.size := hl
  exact ⟨(hq.cell hl).trans h.1, (hq.cell hl1).trans h.2.1, (hq.cell hl2).trans h.2.2⟩
theorem sold_n {W : World} {b r i j k : Nat} {x y z u v q : Value} (h : W.cell? ⟨b, i, none⟩ = some x ∧ W.cell? ⟨b, j, none⟩ = some y ∧ W.cell? ⟨b, k, none⟩ = some z) (hr : b ≠ r) :
    (((W.setCell ⟨r, 0, none⟩ u).setCell ⟨r, 1, none⟩ v).setCell ⟨r, 2, none⟩ q).cell? ⟨b, i, none⟩ = some x ∧ (((W.setCell ⟨r, 0, none⟩ u).setCell ⟨r, 1, none⟩ v).setCell ⟨r, 2, none⟩ q).cell? ⟨b, j, none⟩ = some y ∧ (((W.setCell ⟨r, 0, none⟩ u).setCell ⟨r, 1, none⟩ v).setCell ⟨r, 2, none⟩ q).cell? ⟨b, k, none⟩ = some z := by
  have hk : (((W.setCell ⟨r, 0, none⟩ u).setCell ⟨r, 1, none⟩ v).setCell ⟨r, 2, none⟩ q).heap[b]? = W.heap[b]? := by
    rw [Below.heap_setCell _ _ _ _ hr, Below.heap_setCell _ _ _ _ hr, Below.heap_setCell _ _ _ _ hr]
  exact ⟨(World.cell?_of_block (w := W) (a := ⟨b, i, none⟩) hk).trans h.1, (World.cell?_of_block (w := W) (a := ⟨b, j, none⟩) hk).trans h.2.1, (World.cell?_of_block (w := W) (a := ⟨b, k, none⟩) hk).trans h.2.2⟩
/-- A round's number: bounds. -/
theorem round_nv {q m q2 : Bool} {t s t2 : ByteArray} {f e f2 : Int} {k : Nat} (h : df (nv q t f * nv m s e) = nu q2 t2 f2) (hk : k ≤ 1000) (ht : t.size ≤ 1 + k * 1000) (hs : s.size ≤ 1000) (hf : -((k + 1 : Nat) : Int) * 10000000 ≤ f ∧ f ≤ ((k + 1 : Nat) : Int) * 10000000) (he : -1000000 ≤ e ∧ e ≤ 1000000) :
    nv q2 t2 f2 = nv q t f * nv m s e ∧ df (nv q2 t2 f2) = nu q2 t2 f2 ∧ t2.size ≤ 1 + (k + 1) * 1000 ∧ (-((k + 1 + 1 : Nat) : Int) * 10000000 ≤ f2 ∧ f2 ≤ ((k + 1 + 1 : Nat) : Int) * 10000000) := by
  obtain ⟨z, o, e1, e2⟩ := nv_prod q m t s f e
  have h1 := (df_parts h).2.2.1
  have h2 := h
  rw [e1] at h2
  obtain ⟨h3, h4⟩ := df_exp h2 (k := 1 + (k + 1) * 1000) (by omega)
  refine ⟨h1, by rw [h1]; exact h, h4, ?_⟩
  omega

set_option maxRecDepth 100000 in
set_option maxHeartbeats 3200000 in
theorem rymul_any (w : World) (ad : Option Addr) (l : List NV) (n c : Nat) (hn : l.length = n) (hmax : n ≤ 39) (hs : ∀ x ∈ l, x.2.1.size ≤ 1000 ∧ -1000000 ≤ x.2.2 ∧ x.2.2 ≤ 1000000) (hl : NAt w ad l) (m' : Bool) (s' : ByteArray) (e' : Int) (hd : df (prodD l n) = nu m' s' e') :
    Calls Tryz.prog 43 #[.slice ad n c] w (Ret (.agg #[.bool m', .string s', .int .i64 e']) w) := by
  have HN := Lib.hid (And.intro hn hd)
  clear hn hd
  go_enter Tryz.func43, Tryz.ntmps43
  go_wp2_with fail
  obtain ⟨hR, hb⟩ := nblk1 w false ⟨#[]⟩ 0
  generalize (w.alloc (Obj.cells #[Value.bool false, Value.string { data := #[] }, Value.int IntKind.i64 0] 25)) = W0 at *
  refine (ryof_any _ 1 (by omega) (by omega) false ⟨#[1]⟩ 0 one_form).mono ?_
  rintro e W1 ⟨rfl, hq⟩
  replace hb := below_next hb hq
  replace hR := hR.below hq
  clear hq
  go_wp2_with fail
  obtain ⟨hP, hb2⟩ := nblk1 W1 false ⟨#[1]⟩ 0
  have hBw : w.heap.size < W1.heap.size := by have := hR.lt; omega
  replace hR := hR.below hb2
  replace hb := below_next hb hb2
  generalize (W1.alloc (Obj.cells #[Value.bool false, Value.string { data := #[1] }, Value.int IntKind.i64 0] 25)) = W2 at *
  have hJ0 : RPW4 w W2 w.heap.size W1.heap.size (prodD l 0) 0 := ⟨false, ⟨#[1]⟩, 0, hP, by rw [one_nv]; rfl, by rw [one_nv]; exact one_form, by decide, by omega, hR, hb⟩
  clear hb hP hR hb2
  generalize W1.heap.size = B at *
  go_loopw [4] (fun i wr => ∃ k : Nat, k ≤ n ∧ i = .int .i64 k ∧ RPW4 w wr w.heap.size B (prodD l k) k) (fun i _ => n - intY i)
  case atStart => exact ⟨0, Nat.zero_le _, rfl, hJ0⟩
  case round =>
    clear hJ0
    obtain ⟨k, hk, rfl, q, t, f, hP, hv, hdf, ht, hf, hR, hb⟩ := hrel
    by_cases hlt : k < n
    · have hkl : k < l.length := by rw [HN.out.1]; exact hlt
      obtain ⟨lb, lo, rfl, hlb, hc1, hc2, hc3⟩ := hl k hkl
      obtain ⟨m1, s1, e1, hx⟩ : ∃ m s e, l[k] = (m, s, e) := ⟨_, _, _, rfl⟩
      have hss := hs l[k] (List.getElem_mem hkl)
      have hp := prodD_succ hkl
      rw [hx] at hss hc1 hc2 hc3 hp
      simp only at hss
      have hin : (wr.cell? ⟨lb, lo + k * 3, none⟩ = some (.bool m1) ∧ wr.cell? ⟨lb, lo + k * 3 + 1, none⟩ = some (.string s1) ∧ wr.cell? ⟨lb, lo + k * 3 + 2, none⟩ = some (.int .i64 e1)) := by
        rw [hb.cell hlb, hb.cell hlb, hb.cell hlb]
        exact ⟨hc1, hc2, hc3⟩
      obtain ⟨q2, t2, f2, hd2⟩ := df_some (nv q t f * nv m1 s1 e1)
      have hM := round_nv hd2 (by omega) ht hss.1 hf hss.2
      have hfx : nv q2 t2 f2 = prodD l (k + 1) := by rw [hM.1, hp, hv]; rfl
      have HM := Lib.hid (And.intro hfx (And.intro hM.2 hd2))
      have hts : t.size ≤ 40000 := by have := ht; omega
      have hfb : -1000000000000 ≤ f ∧ f ≤ 1000000000000 := by omega
      clear hc1 hc2 hc3 hx hp hM hfx hd2 hv hdf ht hf
      go_wp2_with fail
      have hBl : lb ≠ B := by omega
      have hwl : w.heap.size ≠ B := by omega
      have hin : (fun w' => Below w.heap.size w w' ∧ (w'.cell? ⟨lb, lo + k * 3, none⟩ = some (.bool m1) ∧ w'.cell? ⟨lb, lo + k * 3 + 1, none⟩ = some (.string s1) ∧ w'.cell? ⟨lb, lo + k * 3 + 2, none⟩ = some (.int .i64 e1))) wr.drew := ⟨hb.drew, hin⟩
      clear hb
      refine region_dag (fun w' => Below w.heap.size w w' ∧ (w'.cell? ⟨lb, lo + k * 3, none⟩ = some (.bool m1) ∧ w'.cell? ⟨lb, lo + k * 3 + 1, none⟩ = some (.string s1) ∧ w'.cell? ⟨lb, lo + k * 3 + 2, none⟩ = some (.int .i64 e1))) (fun fu li ac Wn => (fun w' => Below w.heap.size w w' ∧ (w'.cell? ⟨lb, lo + k * 3, none⟩ = some (.bool m1) ∧ w'.cell? ⟨lb, lo + k * 3 + 1, none⟩ = some (.string s1) ∧ w'.cell? ⟨lb, lo + k * 3 + 2, none⟩ = some (.int .i64 e1))) Wn ∧ ((fu = 7 ∧ li = #[false, false, false, false, false, false, false] ∧ ac = { tmps := #[.slice (some { block := lb, off := lo }) n c, undef, .pointer (some ⟨w.heap.size, 0, none⟩), .pointer (some ⟨B, 0, none⟩), .int .i64 ↑k, .agg #[.bool false, .string { data := #[1] }, .int .i64 0], .int .i64 ↑k, .slice (some { block := lb, off := lo }) n c, .int .i64 ↑n, .bool true, u10, u11, u12, u13, u14, u15, u16, u17, undef], defers := [] } ∧ Nk Wn B q t f ∧ Nk Wn w.heap.size false ⟨#[]⟩ 0) ∨ (fu = 2 ∧ li = #[true, true, true, true, true, false, false] ∧ ∃ (x13 : Value) (x14 : Value) (x15 : Value), ac = { tmps := #[.slice (some { block := lb, off := lo }) n c, undef, .pointer (some ⟨w.heap.size, 0, none⟩), .pointer (some ⟨B, 0, none⟩), .int .i64 ↑k, .agg #[.bool false, .string { data := #[1] }, .int .i64 0], .int .i64 ↑k, .slice (some { block := lb, off := lo }) n c, .int .i64 ↑n, .bool true, u10, u11, .agg #[.bool q, .string t, .int .i64 f], x13, x14, x15, .agg #[.bool m1, .string s1, .int .i64 e1], u17, undef], defers := [] } ∧ Nk Wn B q t f ∧ Nk Wn w.heap.size false ⟨#[]⟩ 0) ∨ (fu = 1 ∧ li = #[true, true, true, true, true, true, false] ∧ ∃ (x12 : Value) (x13 : Value) (x14 : Value) (x15 : Value) (x16 : Value), ac = { tmps := #[.slice (some { block := lb, off := lo }) n c, undef, .pointer (some ⟨w.heap.size, 0, none⟩), .pointer (some ⟨B, 0, none⟩), .int .i64 ↑k, .agg #[.bool false, .string { data := #[1] }, .int .i64 0], .int .i64 ↑k, .slice (some { block := lb, off := lo }) n c, .int .i64 ↑n, .bool true, u10, u11, x12, x13, x14, x15, x16, .agg #[.bool q2, .string t2, .int .i64 f2], undef], defers := [] } ∧ Nk Wn B q t f ∧ Nk Wn w.heap.size false ⟨#[]⟩ 0) ∨ (fu = 0 ∧ li = #[true, true, true, true, true, true, true] ∧ ∃ (x12 : Value) (x13 : Value) (x14 : Value) (x15 : Value) (x16 : Value) (x17 : Value), ac = { tmps := #[.slice (some { block := lb, off := lo }) n c, undef, .pointer (some ⟨w.heap.size, 0, none⟩), .pointer (some ⟨B, 0, none⟩), .int .i64 ↑k, .agg #[.bool false, .string { data := #[1] }, .int .i64 0], .int .i64 ↑k, .slice (some { block := lb, off := lo }) n c, .int .i64 ↑n, .bool true, u10, u11, x12, x13, x14, x15, x16, x17, undef], defers := [] } ∧ Nk Wn B q2 t2 f2 ∧ Nk Wn w.heap.size false ⟨#[]⟩ 0))) (by kernel_rfl) ?_ ?_
      · exact ⟨hin, Or.inl (⟨rfl, rfl, rfl, hP, hR⟩)⟩
      · clear hin
        rintro fu li ac Wn ⟨hS, hI⟩ IH
        rcases hI with ⟨rfl, rfl, rfl, hP, hR⟩ | hI
        · refine dag_take (i := 1) (d := some 13) (v := ?v1n1) rfl rfl (by kernel_rfl) (by kernel_rfl) (by kernel_rfl) (fun _ _ _ h => h) (Or.inl ⟨by rfl, ?y1n1⟩) hS ?_
          case y1n1 => intro w hSw; (try dsimp only at hSw); go_simp; first | done | with_reducible rfl
          try simp only [Act.put, List.setIfInBounds_toArray, List.set_cons_zero, List.set_cons_succ]
          refine dag_take (i := 2) (d := some 14) (v := ?v2n2) rfl rfl (by kernel_rfl) (by kernel_rfl) (by kernel_rfl) (fun _ _ _ h => h) (Or.inl ⟨by rfl, ?y2n2⟩) hS ?_
          case y2n2 => intro w hSw; (try dsimp only at hSw); go_simp; first | done | with_reducible rfl
          try simp only [Act.put, List.setIfInBounds_toArray, List.set_cons_zero, List.set_cons_succ]
          refine dag_take (i := 3) (d := some 15) (v := ?v3n3) rfl rfl (by kernel_rfl) (by kernel_rfl) (by kernel_rfl) (fun _ _ _ h => h) (Or.inl ⟨by rfl, ?y3n3⟩) hS ?_
          case y3n3 => intro w hSw; (try dsimp only at hSw); go_simp; first | done | with_reducible rfl
          try simp only [Act.put, List.setIfInBounds_toArray, List.set_cons_zero, List.set_cons_succ]
          refine dag_take (i := 4) (d := some 16) (v := ?v4n4) rfl rfl (by kernel_rfl) (by kernel_rfl) (by kernel_rfl) (fun _ _ _ h => h) (Or.inl ⟨by rfl, ?y4n4⟩) hS ?_
          case y4n4 => intro w hSw; (try dsimp only at hSw); go_simp; first | done | with_reducible rfl
          try simp only [Act.put, List.setIfInBounds_toArray, List.set_cons_zero, List.set_cons_succ]
          refine wpAnyH_ready (rs := [0]) (by kernel_rfl) (by simp) ?_
          refine AllReadyH.cons rfl (fun Kc hK => ?_) AllReadyH.nil
          obtain ⟨_, _, _, _, _, _⟩ := hP.facts
          go_simp
          refine hK.out _ _ (hS) (fun hS' => ?_)
          exact IH.out _ _ _ _ (by omega) ⟨hS', Or.inr (Or.inl (⟨rfl, by kernel_rfl, _, _, _, rfl, hP, hR⟩))⟩
        rcases hI with ⟨rfl, rfl, x13, x14, x15, rfl, hP, hR⟩ | hI
        · refine wpAnyH_ready (rs := [5]) (by kernel_rfl) (by simp) ?_
          refine AllReadyH.cons rfl (fun Kc hK => ?_) AllReadyH.nil
          go_simp
          go_fit (rytimes_any _ q m1 t s1 f e1 hts (by omega) hfb (by omega) q2 t2 f2 HM.out.2.2)
          rintro e V ⟨rfl, hq⟩
          refine hK.out _ _ (⟨below_next hS.1 hq, hold_n hS.2 hq⟩) (fun hS' => ?_)
          exact IH.out _ _ _ _ (by omega) ⟨hS', Or.inr (Or.inr (Or.inl (⟨rfl, by kernel_rfl, _, _, _, _, _, rfl, hP.below hq, hR.below hq⟩)))⟩
        rcases hI with ⟨rfl, rfl, x12, x13, x14, x15, x16, rfl, hP, hR⟩ | hI
        · refine wpAnyH_ready (rs := [6]) (by kernel_rfl) (by simp) ?_
          refine AllReadyH.cons rfl (fun Kc hK => ?_) AllReadyH.nil
          obtain ⟨_, _, _, _, _, _⟩ := hP.facts
          go_simp
          refine hK.out _ _ (⟨below_set3 hS.1 (by omega) _ _ _ _ _ _, sold_n hS.2 hBl⟩) (fun hS' => ?_)
          exact IH.out _ _ _ _ (by omega) ⟨hS', Or.inr (Or.inr (Or.inr (⟨rfl, by kernel_rfl, _, _, _, _, _, _, rfl, hP.set3 _ _ _, (((hR).far (by show w.heap.size ≠ B; omega) _).far (by show w.heap.size ≠ B; omega) _).far (by show w.heap.size ≠ B; omega) _⟩)))⟩
        obtain ⟨rfl, rfl, x12, x13, x14, x15, x16, x17, rfl, hP, hR⟩ := hI
        refine wpAnyH_done (by kernel_rfl) ?_ _
        clear IH
        have HJ := Lib.hid (show RPW4 w Wn w.heap.size B (prodD l (k + 1)) (k + 1) from ⟨q2, t2, f2, hP, HM.out.1, HM.out.2.1.1, HM.out.2.1.2.1, HM.out.2.1.2.2, hR, hS.1⟩)
        clear hP hR hS
        go_wp2
        go_roundw
        case rel => exact ⟨k + 1, by omega, by simp, HJ.out⟩
        case measure => simp [intY]; omega
    · have hkn : k = n := by omega
      subst hkn
      have hd := HN.out.2
      rw [hv, hd] at hdf
      obtain ⟨rfl, rfl, rfl⟩ := nu_inj hdf
      clear hdf hv hd
      obtain ⟨hP0, hP1, hP2, hP3, hP4, hP5⟩ := hP.facts
      obtain ⟨hR0, hR1, hR2, hR3, hR4, hR5⟩ := hR.facts
      go_wp2_with fail
      exact ret_num rfl rfl (hR.set3 _ _ _) ⟨rfl, below_set3 hb (by omega) _ _ _ _ _ _⟩
end Go.Proofs.YtpahmnifkinpiaaGreatDoor
