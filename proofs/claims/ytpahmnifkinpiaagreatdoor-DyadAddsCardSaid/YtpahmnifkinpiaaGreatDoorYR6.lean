/- The document's answer for dyadic numbers: Sub, Cmp, Add; walked. -/
import Derived.Test.YtpahmnifkinpiaaGreatDoorYR5
import Derived.Test.YtpahmnifkinpiaaGreatDoorHP
import Derived.Test.YtpahmnifkinpiaaGreatDoorHM
namespace Go.Proofs.YtpahmnifkinpiaaGreatDoor
open Go.RowKit Go.Shelf

/-- A form's parts again: sizes. -/
theorem neg_form {n n1 : Bool} {t t1 : ByteArray} {e e1 : Int} (h : df (nv (!n) t e) = nu n1 t1 e1) (ht : t.size ≤ 1000) (he : -10000 ≤ e ∧ e ≤ 10000) : nv n1 t1 e1 = -nv n t e ∧ t1.size ≤ 1000 ∧ -20000 ≤ e1 ∧ e1 ≤ 20000 := by
  obtain ⟨h1, h2⟩ := df_exp h ht
  refine ⟨?_, h2, by omega, by omega⟩
  rw [(df_parts h).2.2.1, nv_neg]
theorem form_size {m n m1 : Bool} {s t s1 : ByteArray} {d e e1 : Int} (h : df (nv m s d - nv n t e) = nu m1 s1 e1) (hs : s.size ≤ 1000) (ht : t.size ≤ 1000) (hd0 : -10000 ≤ d ∧ d ≤ 10000) (he : -10000 ≤ e ∧ e ≤ 10000) : s1.size ≤ 90000 := by
  obtain ⟨z1, o1, f1, g1⟩ := scaled (m := m) (s := s) (e := d) 10000 (B := 1000) (K := 2500) hs (by omega) (by omega)
  obtain ⟨z2, o2, f2, g2⟩ := scaled (m := !n) (s := t) (e := e) 10000 (B := 1000) (K := 2500) ht (by omega) (by omega)
  rw [dy_sub, nv_neg, f1, f2] at h
  obtain ⟨z, o, f3, g3⟩ := nv_add_same (m := z1) (n := z2) (-((10000 : Nat) : Int)) g1 g2
  rw [f3] at h
  have := (df_exp h g3).2
  omega


set_option maxRecDepth 100000 in
set_option maxHeartbeats 1600000 in
theorem rysub_any (w : World) (m n : Bool) (s t : ByteArray) (d e : Int) (hs : s.size ≤ 1000) (ht : t.size ≤ 1000) (hd0 : -10000 ≤ d ∧ d ≤ 10000) (he : -10000 ≤ e ∧ e ≤ 10000) (m' : Bool) (s' : ByteArray) (e' : Int) (hd : df (nv m s d - nv n t e) = nu m' s' e') :
    Calls Tryz.prog 39 #[nu m s d, nu n t e] w (Ret (.agg #[.bool m', .string s', .int .i64 e']) w) := by
  obtain ⟨n1, t1, e1, h1⟩ := df_some (nv (!n) t e)
  obtain ⟨g1, g2, g3, g4⟩ := neg_form h1 ht he
  rw [dy_sub, ← g1] at hd
  have HZ := Lib.hid (And.intro h1 hd)
  clear h1 hd g1
  unfold nu
  go_enter Tryz.func39, Tryz.ntmps39
  go_wp2_with fail
  obtain ⟨hA, hB, hR, hb⟩ := nblk3 w m n false s t ⟨#[]⟩ d e 0
  generalize (((w.alloc (Obj.cells #[Value.bool m, Value.string s, Value.int IntKind.i64 d] 25)).alloc (Obj.cells #[Value.bool n, Value.string t, Value.int IntKind.i64 e] 25)).alloc (Obj.cells #[Value.bool false, Value.string { data := #[] }, Value.int IntKind.i64 0] 25)) = W0 at *
  have hin := And.intro hA.drew.cells hB.drew.cells
  replace hb := hb.drew
  replace hR := hR.drew
  clear hA hB
  go_region_held3 (fun w' => (w'.cell? ⟨w.heap.size, 0, none⟩ = some (.bool m) ∧ w'.cell? ⟨w.heap.size, 1, none⟩ = some (.string s) ∧ w'.cell? ⟨w.heap.size, 2, none⟩ = some (.int .i64 d)) ∧ (w'.cell? ⟨w.heap.size + 1, 0, none⟩ = some (.bool n) ∧ w'.cell? ⟨w.heap.size + 1, 1, none⟩ = some (.string t) ∧ w'.cell? ⟨w.heap.size + 1, 2, none⟩ = some (.int .i64 e)))
    (first | assumption | exact h_nn (by assumption) (by assumption) | exact a_nn (by assumption) | exact s_nn (by assumption) (by simp <;> omega))
    (first
     | (go_at_call 21; go_fit (ryneg_any _ n t e (by omega) (by omega) n1 t1 e1 HZ.out.1); rintro e V ⟨rfl, hq⟩; replace hb := below_next hb hq; replace hR := hR.below hq)
     | (go_at_call 97; go_fit (ryplus_any _ m n1 s t1 d e1 (by omega) (by omega) (by omega) (by omega) m' s' e' HZ.out.2); rintro e V ⟨rfl, hq⟩; replace hb := below_next hb hq; replace hR := hR.below hq; obtain ⟨_, _, _, _, _, _⟩ := hR.facts))
  go_wp2
  exact ret_num rfl rfl (hR.set3 _ _ _) ⟨rfl, below_set3 hb (by omega) _ _ _ _ _ _⟩

set_option maxRecDepth 100000 in
set_option maxHeartbeats 1600000 in
theorem rycmp_any (w : World) (m n : Bool) (s t : ByteArray) (d e : Int) (hs : s.size ≤ 1000) (ht : t.size ≤ 1000) (hd0 : -10000 ≤ d ∧ d ≤ 10000) (he : -10000 ≤ e ∧ e ≤ 10000) (c : Int) (hc : dsg (nv m s d - nv n t e) = c) :
    Calls Tryz.prog 41 #[nu m s d, nu n t e] w (Ret (.int .i64 c) w) := by
  obtain ⟨m1, s1, e1, h1⟩ := df_some (nv m s d - nv n t e)
  have hs1 : s1.size ≤ 90000 := form_size h1 hs ht hd0 he
  have HZ := Lib.hid (And.intro h1 (show sg (wv m1 s1) = c by rw [dsg_form h1, hc]))
  clear h1 hc
  unfold nu
  go_enter Tryz.func41, Tryz.ntmps41
  go_wp2_with fail
  obtain ⟨hA, hB, hb⟩ := nblk2 w m n s t d e
  generalize ((w.alloc (Obj.cells #[Value.bool m, Value.string s, Value.int IntKind.i64 d] 25)).alloc (Obj.cells #[Value.bool n, Value.string t, Value.int IntKind.i64 e] 25)) = W0 at *
  refine (rysub_any _ m n s t d e hs ht hd0 he m1 s1 e1 HZ.out.1).mono ?_
  rintro e W ⟨rfl, hq⟩
  replace hb := below_next hb hq
  clear hq
  go_wp2_with fail
  refine (rysign_any _ m1 s1 e1 (by omega) c HZ.out.2).mono ?_
  rintro e V ⟨rfl, hq⟩
  replace hb := below_next hb hq
  clear hq
  go_wp2
  go_ret
  exact ⟨rfl, hb⟩

/-- The sum of numbers within bounds, as a form. -/
theorem sum_form {l : List NV} (hs : ∀ x ∈ l, x.2.1.size ≤ 500 ∧ -1000 ≤ x.2.2 ∧ x.2.2 ≤ 1000) : ∀ k, k ≤ l.length → k ≤ 100 → ∃ z o, sumD l k = nv z o (-((1000 : Nat) : Int)) ∧ o.size ≤ 800 + k
  | 0, _, _ => ⟨false, ⟨#[]⟩, rfl, by decide⟩
  | k + 1, h, hk => by
    obtain ⟨z, o, h1, h2⟩ := sum_form hs k (by omega) (by omega)
    have hx := hs l[k] (List.getElem_mem (by omega))
    obtain ⟨z2, o2, h3, h4⟩ := scaled (m := l[k].1) (s := l[k].2.1) (e := l[k].2.2) 1000 (B := 500) (K := 250) hx.1 (by omega) (by omega)
    obtain ⟨z3, o3, h5, h6⟩ := nv_add_same (m := z) (n := z2) (s := o) (t := o2) (-((1000 : Nat) : Int)) (B := 800 + k) h2 (by omega)
    refine ⟨z3, o3, ?_, by omega⟩
    rw [sumD_succ (by omega), h1, ← h5, ← h3]
    rfl
theorem sum_bounds {l : List NV} (hs : ∀ x ∈ l, x.2.1.size ≤ 500 ∧ -1000 ≤ x.2.2 ∧ x.2.2 ≤ 1000) {k : Nat} (h : k ≤ l.length) (hk : k ≤ 100) {m : Bool} {s : ByteArray} {e : Int} (hd : df (sumD l k) = nu m s e) : s.size ≤ 900 ∧ -1000 ≤ e ∧ e ≤ 7200 := by
  obtain ⟨z, o, h1, h2⟩ := sum_form hs k h hk
  rw [h1] at hd
  obtain ⟨h3, h4⟩ := df_exp hd (k := 900) (by omega)
  omega
/-- Between the rounds of Add. -/
def RAD4 (w wr : World) (B : Nat) (x : Dyadic) : Prop :=
  ∃ q t f, Nk wr B q t f ∧ df x = nu q t f ∧ Nk wr w.heap.size false ⟨#[]⟩ 0 ∧ Below w.heap.size w wr

set_option maxRecDepth 100000 in
set_option maxHeartbeats 3200000 in
theorem ryadd_any (w : World) (ad : Option Addr) (l : List NV) (n c : Nat) (hn : l.length = n) (hmax : n ≤ 100) (hs : ∀ x ∈ l, x.2.1.size ≤ 500 ∧ -1000 ≤ x.2.2 ∧ x.2.2 ≤ 1000) (hl : NAt w ad l) (m' : Bool) (s' : ByteArray) (e' : Int) (hd : df (sumD l n) = nu m' s' e') :
    Calls Tryz.prog 33 #[.slice ad n c] w (Ret (.agg #[.bool m', .string s', .int .i64 e']) w) := by
  have HN := Lib.hid (And.intro hn hd)
  clear hn hd
  go_enter Tryz.func33, Tryz.ntmps33
  go_wp2_with fail
  obtain ⟨hR, hP, hb⟩ := nblk2 w false false ⟨#[]⟩ ⟨#[]⟩ 0 0
  generalize ((w.alloc (Obj.cells #[Value.bool false, Value.string { data := #[] }, Value.int IntKind.i64 0] 25)).alloc (Obj.cells #[Value.bool false, Value.string { data := #[] }, Value.int IntKind.i64 0] 25)) = W0 at *
  have hJ0 : RAD4 w W0 (w.heap.size + 1) (sumD l 0) := ⟨false, ⟨#[]⟩, 0, hP, rfl, hR, hb⟩
  clear hb hP hR
  obtain ⟨B, hB⟩ : ∃ B, w.heap.size + 1 = B := ⟨_, rfl⟩
  have hBw : w.heap.size < B := by omega
  rw [hB] at hJ0
  rw [hB]
  clear hB
  go_loopw [4] (fun i wr => ∃ k : Nat, k ≤ n ∧ i = .int .i64 k ∧ RAD4 w wr B (sumD l k)) (fun i _ => n - intY i)
  case atStart => exact ⟨0, Nat.zero_le _, rfl, hJ0⟩
  case round =>
    clear hJ0
    obtain ⟨k, hk, rfl, q, t, f, hP, hdf, hR, hb⟩ := hrel
    by_cases hlt : k < n
    · have hkl : k < l.length := by rw [HN.out.1]; exact hlt
      obtain ⟨lb, lo, rfl, hlb, hc1, hc2, hc3⟩ := hl k hkl
      obtain ⟨m1, s1, e1, hx⟩ : ∃ m s e, l[k] = (m, s, e) := ⟨_, _, _, rfl⟩
      have hss := hs l[k] (List.getElem_mem hkl)
      have hp := sumD_succ hkl
      rw [hx] at hss hc1 hc2 hc3 hp
      simp only at hss
      have hin : (wr.cell? ⟨lb, lo + k * 3, none⟩ = some (.bool m1) ∧ wr.cell? ⟨lb, lo + k * 3 + 1, none⟩ = some (.string s1) ∧ wr.cell? ⟨lb, lo + k * 3 + 2, none⟩ = some (.int .i64 e1)) := by
        rw [hb.cell hlb, hb.cell hlb, hb.cell hlb]
        exact ⟨hc1, hc2, hc3⟩
      have hbd := sum_bounds hs (k := k) (by omega) (by omega) hdf
      have hq := (df_parts hdf).2.2.1
      obtain ⟨q2, t2, f2, hd2⟩ := df_some (sumD l (k + 1))
      have hd3 : df (nv q t f + nv m1 s1 e1) = nu q2 t2 f2 := by rw [hq, ← hd2, hp]; rfl
      have HM := Lib.hid (And.intro hd3 hd2)
      have hBl : lb ≠ B := by omega
      clear hc1 hc2 hc3 hx hp hd2 hd3 hdf hq
      go_wp2_with fail
      have hin : (fun w' => Below w.heap.size w w' ∧ (w'.cell? ⟨lb, lo + k * 3, none⟩ = some (.bool m1) ∧ w'.cell? ⟨lb, lo + k * 3 + 1, none⟩ = some (.string s1) ∧ w'.cell? ⟨lb, lo + k * 3 + 2, none⟩ = some (.int .i64 e1))) wr.drew := ⟨hb.drew, hin⟩
      clear hb
      refine region_dag (fun w' => Below w.heap.size w w' ∧ (w'.cell? ⟨lb, lo + k * 3, none⟩ = some (.bool m1) ∧ w'.cell? ⟨lb, lo + k * 3 + 1, none⟩ = some (.string s1) ∧ w'.cell? ⟨lb, lo + k * 3 + 2, none⟩ = some (.int .i64 e1))) (fun fu li ac Wn => (fun w' => Below w.heap.size w w' ∧ (w'.cell? ⟨lb, lo + k * 3, none⟩ = some (.bool m1) ∧ w'.cell? ⟨lb, lo + k * 3 + 1, none⟩ = some (.string s1) ∧ w'.cell? ⟨lb, lo + k * 3 + 2, none⟩ = some (.int .i64 e1))) Wn ∧ ((fu = 7 ∧ li = #[false, false, false, false, false, false, false] ∧ ac = { tmps := #[.slice (some { block := lb, off := lo }) n c, undef, .pointer (some ⟨w.heap.size, 0, none⟩), .pointer (some ⟨B, 0, none⟩), .int .i64 ↑k, .agg #[.bool false, .string { data := #[] }, .int .i64 0], .int .i64 ↑k, .slice (some { block := lb, off := lo }) n c, .int .i64 ↑n, .bool true, u10, u11, u12, u13, u14, u15, u16, u17, undef], defers := [] } ∧ Nk Wn B q t f ∧ Nk Wn w.heap.size false ⟨#[]⟩ 0) ∨ (fu = 2 ∧ li = #[true, true, true, true, true, false, false] ∧ ∃ (x13 : Value) (x14 : Value) (x15 : Value), ac = { tmps := #[.slice (some { block := lb, off := lo }) n c, undef, .pointer (some ⟨w.heap.size, 0, none⟩), .pointer (some ⟨B, 0, none⟩), .int .i64 ↑k, .agg #[.bool false, .string { data := #[] }, .int .i64 0], .int .i64 ↑k, .slice (some { block := lb, off := lo }) n c, .int .i64 ↑n, .bool true, u10, u11, .agg #[.bool q, .string t, .int .i64 f], x13, x14, x15, .agg #[.bool m1, .string s1, .int .i64 e1], u17, undef], defers := [] } ∧ Nk Wn B q t f ∧ Nk Wn w.heap.size false ⟨#[]⟩ 0) ∨ (fu = 1 ∧ li = #[true, true, true, true, true, true, false] ∧ ∃ (x12 : Value) (x13 : Value) (x14 : Value) (x15 : Value) (x16 : Value), ac = { tmps := #[.slice (some { block := lb, off := lo }) n c, undef, .pointer (some ⟨w.heap.size, 0, none⟩), .pointer (some ⟨B, 0, none⟩), .int .i64 ↑k, .agg #[.bool false, .string { data := #[] }, .int .i64 0], .int .i64 ↑k, .slice (some { block := lb, off := lo }) n c, .int .i64 ↑n, .bool true, u10, u11, x12, x13, x14, x15, x16, .agg #[.bool q2, .string t2, .int .i64 f2], undef], defers := [] } ∧ Nk Wn B q t f ∧ Nk Wn w.heap.size false ⟨#[]⟩ 0) ∨ (fu = 0 ∧ li = #[true, true, true, true, true, true, true] ∧ ∃ (x12 : Value) (x13 : Value) (x14 : Value) (x15 : Value) (x16 : Value) (x17 : Value), ac = { tmps := #[.slice (some { block := lb, off := lo }) n c, undef, .pointer (some ⟨w.heap.size, 0, none⟩), .pointer (some ⟨B, 0, none⟩), .int .i64 ↑k, .agg #[.bool false, .string { data := #[] }, .int .i64 0], .int .i64 ↑k, .slice (some { block := lb, off := lo }) n c, .int .i64 ↑n, .bool true, u10, u11, x12, x13, x14, x15, x16, x17, undef], defers := [] } ∧ Nk Wn B q2 t2 f2 ∧ Nk Wn w.heap.size false ⟨#[]⟩ 0))) (by kernel_rfl) ?_ ?_
      · exact ⟨hin, Or.inl (⟨rfl, rfl, rfl, hP, hR⟩)⟩
      · clear hin
        rintro fu li ac Wn ⟨hS, hI⟩ IH
        rcases hI with ⟨rfl, rfl, rfl, hP, hR⟩ | hI
        · refine dag_take (i := 1) (d := some 13) (v := ?v1n1) rfl rfl (by kernel_rfl) (by kernel_rfl) (by kernel_rfl) (fun _ _ _ h => h) (Or.inl ⟨by rfl, ?y1n1⟩) hS ?_
          case y1n1 => intro w hSw; (try dsimp only at hSw); go_simp; first | done | with_reducible rfl
          try simp only [Act.put, List.setIfInBounds_toArray, List.set_cons_zero, List.set_cons_succ]
          refine dag_take (i := 2) (d := some 14) (v := ?v2n2) rfl rfl (by kernel_rfl) (by kernel_rfl) (by kernel_rfl) (fun _ _ _ h => h) (Or.inl ⟨by rfl, ?y2n2⟩) hS ?_
          case y2n2 => intro w hSw; (try dsimp only at hSw); go_simp; first | done | with_reducible rfl
          try simp only [Act.put, List.setIfInBounds_toArray, List.set_cons_zero, List.set_cons_succ]
          refine dag_take (i := 3) (d := some 15) (v := ?v3n3) rfl rfl (by kernel_rfl) (by kernel_rfl) (by kernel_rfl) (fun _ _ _ h => h) (Or.inl ⟨by rfl, ?y3n3⟩) hS ?_
          case y3n3 => intro w hSw; (try dsimp only at hSw); go_simp; first | done | with_reducible rfl
          try simp only [Act.put, List.setIfInBounds_toArray, List.set_cons_zero, List.set_cons_succ]
          refine dag_take (i := 4) (d := some 16) (v := ?v4n4) rfl rfl (by kernel_rfl) (by kernel_rfl) (by kernel_rfl) (fun _ _ _ h => h) (Or.inl ⟨by rfl, ?y4n4⟩) hS ?_
          case y4n4 => intro w hSw; (try dsimp only at hSw); go_simp; first | done | with_reducible rfl
          try simp only [Act.put, List.setIfInBounds_toArray, List.set_cons_zero, List.set_cons_succ]
          refine wpAnyH_ready (rs := [0]) (by kernel_rfl) (by simp) ?_
          refine AllReadyH.cons rfl (fun Kc hK => ?_) AllReadyH.nil
          obtain ⟨_, _, _, _, _, _⟩ := hP.facts
          go_simp
          refine hK.out _ _ (hS) (fun hS' => ?_)
          exact IH.out _ _ _ _ (by omega) ⟨hS', Or.inr (Or.inl (⟨rfl, by kernel_rfl, _, _, _, rfl, hP, hR⟩))⟩
        rcases hI with ⟨rfl, rfl, x13, x14, x15, rfl, hP, hR⟩ | hI
        · refine wpAnyH_ready (rs := [5]) (by kernel_rfl) (by simp) ?_
          refine AllReadyH.cons rfl (fun Kc hK => ?_) AllReadyH.nil
          go_simp
          go_fit (ryplus_any _ q m1 t s1 f e1 (by omega) (by omega) (by omega) (by omega) q2 t2 f2 HM.out.1)
          rintro e V ⟨rfl, hq⟩
          refine hK.out _ _ (⟨below_next hS.1 hq, hold_n hS.2 hq⟩) (fun hS' => ?_)
          exact IH.out _ _ _ _ (by omega) ⟨hS', Or.inr (Or.inr (Or.inl (⟨rfl, by kernel_rfl, _, _, _, _, _, rfl, hP.below hq, hR.below hq⟩)))⟩
        rcases hI with ⟨rfl, rfl, x12, x13, x14, x15, x16, rfl, hP, hR⟩ | hI
        · refine wpAnyH_ready (rs := [6]) (by kernel_rfl) (by simp) ?_
          refine AllReadyH.cons rfl (fun Kc hK => ?_) AllReadyH.nil
          obtain ⟨_, _, _, _, _, _⟩ := hP.facts
          go_simp
          refine hK.out _ _ (⟨below_set3 hS.1 (by omega) _ _ _ _ _ _, sold_n hS.2 hBl⟩) (fun hS' => ?_)
          exact IH.out _ _ _ _ (by omega) ⟨hS', Or.inr (Or.inr (Or.inr (⟨rfl, by kernel_rfl, _, _, _, _, _, _, rfl, hP.set3 _ _ _, (((hR).far (by show w.heap.size ≠ B; omega) _).far (by show w.heap.size ≠ B; omega) _).far (by show w.heap.size ≠ B; omega) _⟩)))⟩
        obtain ⟨rfl, rfl, x12, x13, x14, x15, x16, x17, rfl, hP, hR⟩ := hI
        refine wpAnyH_done (by kernel_rfl) ?_ _
        clear IH
        have HJ := Lib.hid (show RAD4 w Wn B (sumD l (k + 1)) from ⟨q2, t2, f2, hP, HM.out.2, hR, hS.1⟩)
        clear hP hR hS
        go_wp2
        go_roundw
        case rel => exact ⟨k + 1, by omega, by simp, HJ.out⟩
        case measure => simp [intY]; omega
    · have hkn : k = n := by omega
      subst hkn
      have hd := HN.out.2
      rw [hd] at hdf
      obtain ⟨rfl, rfl, rfl⟩ := nu_inj hdf
      clear hdf hd
      obtain ⟨hP0, hP1, hP2, hP3, hP4, hP5⟩ := hP.facts
      obtain ⟨hR0, hR1, hR2, hR3, hR4, hR5⟩ := hR.facts
      go_wp2_with fail
      exact ret_num rfl rfl (hR.set3 _ _ _) ⟨rfl, below_set3 hb (by omega) _ _ _ _ _ _⟩
end Go.Proofs.YtpahmnifkinpiaaGreatDoor
