/- A place in a span (ogeelaw05.place). -/
import Derived.Test.YthggjlkeadjhcaaGreatDoorSAwake
import Derived.Test.YthggjlkeadjhcaaGreatDoorSIns0
import Derived.Test.YthggjlkeadjhcaaGreatDoorHL
namespace Go.Proofs.YthggjlkeadjhcaaGreatDoor
open Go.RowKit Go.Shelf

theorem far2_dlo (x y : NV) : farD (-1) [x, y] 2 = dlo (nvl x) (nvl y) := by
  have h : farD (-1) [x, y] 2 = f2 (-1) (nvl x) (nvl y) := rfl
  rw [h]
  unfold f2 dlo
  have h1 := dsg_sub_pos (x := nvl x) (y := nvl y)
  have h2 := dsg_sub_neg (x := nvl y) (y := nvl x)
  by_cases g : 0 < dsg (nvl x - nvl y)
  · have g2 : dsg (nvl y - nvl x) < 0 := h2.2 (h1.1 g)
    rw [if_pos g, if_pos (by omega)]
  · have g2 : ¬ dsg (nvl y - nvl x) < 0 := fun q => g (h1.2 (h2.1 q))
    rw [if_neg g, if_neg (by omega)]
theorem far2_dhi (x y : NV) : farD 1 [x, y] 2 = dhi (nvl x) (nvl y) := by
  have h : farD 1 [x, y] 2 = f2 1 (nvl x) (nvl y) := rfl
  rw [h]
  unfold f2 dhi
  have h1 := dsg_sub_pos (x := nvl x) (y := nvl y)
  have h2 := dsg_sub_pos (x := nvl y) (y := nvl x)
  by_cases g : 0 < dsg (nvl x - nvl y)
  · have g2 : ¬ 0 < dsg (nvl y - nvl x) := by
      rw [h2]
      have := h1.1 g
      grind
    rw [if_pos g, if_neg (by omega)]
  · rw [if_neg g]
    by_cases g2 : 0 < dsg (nvl y - nvl x)
    · rw [if_pos (by omega)]
    · rw [if_neg (by omega), ← Dyadic.toRat_inj]
      rw [h1] at g
      rw [h2] at g2
      grind
theorem nv_down8 (z : Bool) (o : ByteArray) (e : Int) : nv z o (e + -8) = nv z o e * .ofIntWithPrec 1 8 := by
  rw [← Dyadic.toRat_inj, Dyadic.toRat_mul, nv_toRat, nv_toRat, ofI_toRat, Rat.zpow_add (by decide)]
  rw [show ((1 : Int) : Rat) = 1 from rfl]
  grind
/-- A place's number is not long. -/
theorem place_bnd {m : Bool} {s : ByteArray} {d : Int} {n : Bool} {t : ByteArray} {e : Int} {k : Int} (h1 : s.size ≤ 40 ∧ -300 ≤ d ∧ d ≤ 300) (h2 : t.size ≤ 40 ∧ -300 ≤ e ∧ e ≤ 300) (hk : 0 ≤ k ∧ k ≤ 255) :
    Bnd (dlo (nv m s d) (nv n t e)) 115 300 ∧ Bnd (dhi (nv m s d) (nv n t e)) 115 300 ∧ Bnd (dhi (nv m s d) (nv n t e) - dlo (nv m s d) (nv n t e)) 116 300 ∧ Bnd (.ofIntWithPrec k 0) 1 0 ∧
    Bnd ((dhi (nv m s d) (nv n t e) - dlo (nv m s d) (nv n t e)) * .ofIntWithPrec k 0) 117 300 ∧ Bnd ((dhi (nv m s d) (nv n t e) - dlo (nv m s d) (nv n t e)) * .ofIntWithPrec k 0 * .ofIntWithPrec 1 8) 117 308 ∧
    Bnd (placeD (dlo (nv m s d) (nv n t e)) (dhi (nv m s d) (nv n t e)) k) 118 308 := by
  have bx : Bnd (nv m s d) 115 300 := Bnd.of (B := 40) (K := 75) 300 h1.1 (by omega) (by omega)
  have by' : Bnd (nv n t e) 115 300 := Bnd.of (B := 40) (K := 75) 300 h2.1 (by omega) (by omega)
  have blo : Bnd (dlo (nv m s d) (nv n t e)) 115 300 := by
    rcases (dlo_spec (nv m s d) (nv n t e)).2.2 with h | h <;> rw [h] <;> assumption
  have bhi : Bnd (dhi (nv m s d) (nv n t e)) 115 300 := by
    rcases (dhi_spec (nv m s d) (nv n t e)).2.2 with h | h <;> rw [h] <;> assumption
  have blo' : Bnd (dlo (nv m s d) (nv n t e)) 116 308 := by
    rcases (dlo_spec (nv m s d) (nv n t e)).2.2 with h | h <;> rw [h]
    · exact Bnd.of (B := 40) (K := 76) 308 h1.1 (by omega) (by omega)
    · exact Bnd.of (B := 40) (K := 76) 308 h2.1 (by omega) (by omega)
  have bd : Bnd (dhi (nv m s d) (nv n t e) - dlo (nv m s d) (nv n t e)) 116 300 := by
    rw [dy_sub]
    exact bhi.add blo.neg
  have bk : Bnd (.ofIntWithPrec k 0) 1 0 := by
    obtain ⟨z, o, ez, _, sz⟩ := nmw (z := k) (k := 1) (by omega)
    have := Bnd.of (m := z) (s := o) (d := 0) (B := 1) (K := 0) 0 sz (by omega) (by omega)
    rw [nv_of 0 ez] at this
    exact this
  have bm : Bnd ((dhi (nv m s d) (nv n t e) - dlo (nv m s d) (nv n t e)) * .ofIntWithPrec k 0) 117 300 := bd.mul bk
  have bs : Bnd ((dhi (nv m s d) (nv n t e) - dlo (nv m s d) (nv n t e)) * .ofIntWithPrec k 0 * .ofIntWithPrec 1 8) 117 308 := by
    obtain ⟨z, o, e0, h0⟩ := bm
    rw [e0, ← nv_down8]
    exact ⟨z, o, by congr 1, h0⟩
  refine ⟨blo, bhi, bd, bk, bm, bs, ?_⟩
  unfold placeD
  exact (blo'.mono (by omega : 116 ≤ 117)).add bs
theorem Bnd.ok1 {x : Dyadic} {B E : Nat} (h : Bnd x B E) (hB : B ≤ 118) (hE : E ≤ 308) (hE2 : 8 * B ≤ E + 700) {z : Bool} {o : ByteArray} {e : Int} (hd : df x = nu z o e) : Ok1 o e := by
  obtain ⟨z2, o2, rfl, h1⟩ := h
  obtain ⟨h2, h3⟩ := df_exp hd h1
  unfold Ok1
  omega

set_option maxRecDepth 100000 in
set_option maxHeartbeats 16000000 in
theorem place_any (w : World) (m : Bool) (s : ByteArray) (d : Int) (n : Bool) (t : ByteArray) (e : Int) (k : Int) (q1 : s.size ≤ 40 ∧ -300 ≤ d ∧ d ≤ 300) (q2 : t.size ≤ 40 ∧ -300 ≤ e ∧ e ≤ 300) (hk : 0 ≤ k ∧ k ≤ 255) (m' : Bool) (s' : ByteArray) (e' : Int) (hd : df (placeD (dlo (nv m s d) (nv n t e)) (dhi (nv m s d) (nv n t e)) k) = nu m' s' e') :
    Calls Tryz.prog 41 #[.agg #[.bool m, .string s, .int .i64 d, .bool n, .string t, .int .i64 e], .int .u8 k] w (Ret (.agg #[.bool m', .string s', .int .i64 e']) w) := by
  obtain ⟨b1, b2, b3, b4, b5, b6, b7⟩ := place_bnd (m := m) (n := n) q1 q2 hk
  obtain ⟨z1, o1, e1, k1⟩ := df_some (dlo (nv m s d) (nv n t e))
  obtain ⟨z2, o2, e2, k2⟩ := df_some (dhi (nv m s d) (nv n t e))
  obtain ⟨z3, o3, e3, k3⟩ := df_some (dhi (nv m s d) (nv n t e) - dlo (nv m s d) (nv n t e))
  obtain ⟨z4, o4, e4, k4⟩ := df_some (.ofIntWithPrec k 0)
  obtain ⟨z5, o5, e5, k5⟩ := df_some ((dhi (nv m s d) (nv n t e) - dlo (nv m s d) (nv n t e)) * .ofIntWithPrec k 0)
  obtain ⟨z6, o6, e6, k6⟩ := df_some ((dhi (nv m s d) (nv n t e) - dlo (nv m s d) (nv n t e)) * .ofIntWithPrec k 0 * .ofIntWithPrec 1 8)
  have c1 := b1.ok (by omega) (by omega) k1
  have c2 := b2.ok (by omega) (by omega) k2
  have c3 := b3.ok (by omega) (by omega) k3
  have c4 := b4.ok (by omega) (by omega) k4
  have c5 := b5.ok (by omega) (by omega) k5
  have c6 := b6.ok (by omega) (by omega) k6
  have v1 := form_nv k1
  have v2 := form_nv k2
  have v3 := form_nv k3
  have v4 := form_nv k4
  have v5 := form_nv k5
  have v6 := form_nv k6
  have g1 : df (farD (-1) [(m, s, d), (n, t, e)] 2) = nu z1 o1 e1 := by rw [far2_dlo]; exact k1
  have g2 : df (farD 1 [(m, s, d), (n, t, e)] 2) = nu z2 o2 e2 := by rw [far2_dhi]; exact k2
  have g3 : df (nv z2 o2 e2 - nv z1 o1 e1) = nu z3 o3 e3 := by rw [v1, v2]; exact k3
  have g5 : df (nv z3 o3 e3 * nv z4 o4 e4) = nu z5 o5 e5 := by rw [v3, v4]; exact k5
  have g6 : df (nv z5 o5 (e5 + -8)) = nu z6 o6 e6 := by rw [nv_down8, v5]; exact k6
  have g7 : df (nv z1 o1 e1 + nv z6 o6 e6) = nu m' s' e' := by rw [v1, v6]; exact hd
  have hok : ∀ x ∈ [(m, s, d), (n, t, e)], x.2.1.size ≤ 50000 ∧ -100000 ≤ x.2.2 ∧ x.2.2 ≤ 100000 := by
    intro x hx
    simp at hx
    rcases hx with rfl | rfl <;> simp only <;> omega
  have c5' := c5
  unfold Ok3 at c5'
  have HD := Lib.hid (And.intro g1 (And.intro g2 (And.intro g3 (And.intro k4 (And.intro g5 (And.intro g6 (And.intro g7 hok)))))))
  have HE := Lib.hid (And.intro c1 (And.intro c2 (And.intro c3 (And.intro c4 (And.intro c5 c6)))))
  clear b1 b2 b3 b4 b5 b6 b7 k1 k2 k3 k4 k5 k6 c1 c2 c3 c4 c5 c6 v1 v2 v3 v4 v5 v6 g1 g2 g3 g5 g6 g7 hok hd q1 q2
  go_enter Tryz.func41, Tryz.ntmps41
  go_wp2_with fail
  have hS := Sk.new w 27 m s d n t e
  have hb := (Below.refl w.heap.size w).alloc (Nat.le_refl _) (Obj.cells #[Value.bool m, Value.string s, Value.int IntKind.i64 d, Value.bool n, Value.string t, Value.int IntKind.i64 e] 27)
  have hR := Nk.new ((w.alloc (Obj.cells #[Value.bool m, Value.string s, Value.int IntKind.i64 d, Value.bool n, Value.string t, Value.int IntKind.i64 e] 27))) false ⟨#[]⟩ 0
  simp only [World.size_alloc] at hR
  replace hS := hS.alloc (Obj.cells #[Value.bool false, Value.string { data := #[] }, Value.int IntKind.i64 0] 25)
  replace hb := hb.alloc (by simp only [World.size_alloc]; omega) (Obj.cells #[Value.bool false, Value.string { data := #[] }, Value.int IntKind.i64 0] 25)
  generalize ((w.alloc (Obj.cells #[Value.bool m, Value.string s, Value.int IntKind.i64 d, Value.bool n, Value.string t, Value.int IntKind.i64 e] 27)).alloc (Obj.cells #[Value.bool false, Value.string { data := #[] }, Value.int IntKind.i64 0] 25)) = W0 at *
  refine region_segs (n := 16) #[false, false, false, false, false, false, false, false, false, false, false, false, false, false, false, false] (by kernel_rfl) (by kernel_rfl) (by kernel_rfl) ?_
  intro fu hf
  refine lin_seg 16 [0, 1, 2, 3, 4, 5, 6, 7, 8, 9, 10, 11, 12, 13, 14, 15] 15 (fun L ac Wn => ∃ l0 l1 l2 l3 l4 l5 l6 l7 l8 l9 l10 l11 l12 l13 l14 : Bool, L = #[l0, l1, l2, l3, l4, l5, l6, l7, l8, l9, l10, l11, l12, l13, l14, false] ∧ ∃ p5 p6 g11 g17 : Nat, ac = { tmps := #[.agg #[.bool m, .string s, .int .i64 d, .bool n, .string t, .int .i64 e], Value.int IntKind.u8 k, .pointer (some ⟨w.heap.size, 0, none⟩), undef, .pointer (some ⟨w.heap.size + 1, 0, none⟩), sel l12 (.pointer (some ⟨p5, 0, none⟩)) (undef), sel l13 (.pointer (some ⟨p6, 0, none⟩)) (undef), sel l0 (.pointer (some ⟨w.heap.size, 0, none⟩)) (undef), sel l1 (.agg #[.bool m, .string s, .int .i64 d]) (undef), sel l2 (.pointer (some { block := w.heap.size, off := 3 })) (undef), sel l3 (.agg #[.bool n, .string t, .int .i64 e]) (undef), sel l4 (.slice (some ⟨g11, 0, none⟩) 2 2) (undef), sel l5 (.agg #[.bool z1, .string o1, .int .i64 e1]) (undef), sel l6 (.pointer (some ⟨w.heap.size, 0, none⟩)) (undef), sel l7 (.agg #[.bool m, .string s, .int .i64 d]) (undef), sel l8 (.pointer (some { block := w.heap.size, off := 3 })) (undef), sel l9 (.agg #[.bool n, .string t, .int .i64 e]) (undef), sel l10 (.slice (some ⟨g17, 0, none⟩) 2 2) (undef), sel l11 (.agg #[.bool z2, .string o2, .int .i64 e2]) (undef), undef, undef, undef, undef, undef, undef, undef, undef, undef, undef, undef, undef], defers := [] } ∧ Below (w.heap.size) w Wn ∧ (Sk Wn (w.heap.size) 27 m s d n t e) ∧ (Nk Wn (w.heap.size + 1) false ⟨#[]⟩ 0) ∧ (On l12 → Off l14 → Nk Wn p5 false ⟨#[]⟩ 0) ∧ (On l14 → Nk Wn p5 z1 o1 e1) ∧ (On l13 → Nk Wn p6 false ⟨#[]⟩ 0) ∧ (On l4 → Off l5 → NAt Wn (some ⟨g11, 0, none⟩) [(m, s, d), (n, t, e)]) ∧ (On l10 → Off l11 → NAt Wn (some ⟨g17, 0, none⟩) [(m, s, d), (n, t, e)]) ∧ (On l12 → w.heap.size ≤ p5) ∧ (On l13 → w.heap.size ≤ p6) ∧ (On l12 → w.heap.size ≠ p5) ∧ (On l12 → w.heap.size + 1 ≠ p5) ∧ (On l12 → On l13 → p6 ≠ p5) ∧ (On l13 → w.heap.size ≠ p6) ∧ (On l13 → w.heap.size + 1 ≠ p6)) (by kernel_rfl) (by kernel_rfl) (by kernel_rfl) (by kernel_rfl) hf ?_ ?_ ?_ (by kernel_rfl) ?_ (by decide)
  · exact ⟨false, false, false, false, false, false, false, false, false, false, false, false, false, false, false, by kernel_rfl, 0, 0, 0, 0, by kernel_rfl, hb.drew, hS.drew, hR.drew, (fun h _ => not_ft h), (fun h => not_ft h), (fun h => not_ft h), (fun h _ => not_ft h), (fun h _ => not_ft h), (fun h => not_ft h), (fun h => not_ft h), (fun h => not_ft h), (fun h => not_ft h), (fun h _ => not_ft h), (fun h => not_ft h), (fun h => not_ft h)⟩
  · rintro L ac Wn ⟨l0, l1, l2, l3, l4, l5, l6, l7, l8, l9, l10, l11, l12, l13, l14, rfl, _⟩
    kernel_rfl
  · refine (seg_all (b := 15) [0, 1, 2, 3, 4, 5, 6, 7, 8, 9, 10, 11, 12, 13, 14] ?_ : ∀ j ∈ [0, 1, 2, 3, 4, 5, 6, 7, 8, 9, 10, 11, 12, 13, 14, 15], j ≠ 15 → _)
    refine lin_cons [] [1, 4, 5, 11, 14] rfl (by kernel_rfl) (by kernel_rfl) ?_ ?_
    · intro L ac Wn hI hi hds hus Kc hK
      obtain ⟨l0, l1, l2, l3, l4, l5, l6, l7, l8, l9, l10, l11, l12, l13, l14, rfl, hI⟩ := hI
      obtain rfl : l0 = false := hi
      obtain ⟨rfl, rfl, rfl, rfl, rfl, -⟩ : l1 = false ∧ l4 = false ∧ l5 = false ∧ l11 = false ∧ l14 = false ∧ True := hus
      simp only [sel_f] at hI
      obtain ⟨p5, p6, g11, g17, rfl, hb, hS, hR, hP, hP', hQ, hW4, hW10, dP, dQ, nPS, nPR, nPQ, nQS, nQR⟩ := hI
      refine lin_yield (.pointer (some ⟨w.heap.size, 0, none⟩)) rfl (by go_simp; first | done | with_reducible rfl | assumption) ?_
      exact hK.out _ _ ⟨true, false, l2, l3, false, false, l6, l7, l8, l9, l10, false, l12, l13, false, by kernel_rfl, p5, p6, g11, g17, by kernel_rfl, hb, (hS), (hR), (fun z0 z1 => (hP z0 z1)), (fun h => not_ft h), (fun z0 => (hQ z0)), (fun h _ => not_ft h), (fun z0 z1 => (hW10 z0 z1)), (fun z0 => (dP z0)), (fun z0 => (dQ z0)), (fun z0 => (nPS z0)), (fun z0 => (nPR z0)), (fun z0 z1 => (nPQ z0 z1)), (fun z0 => (nQS z0)), (fun z0 => (nQR z0))⟩
    refine lin_cons [0] [4, 5, 11, 14] rfl (by kernel_rfl) (by kernel_rfl) ?_ ?_
    · intro L ac Wn hI hi hds hus Kc hK
      obtain ⟨l0, l1, l2, l3, l4, l5, l6, l7, l8, l9, l10, l11, l12, l13, l14, rfl, hI⟩ := hI
      obtain rfl : l1 = false := hi
      obtain ⟨rfl, -⟩ : l0 = true ∧ True := hds
      obtain ⟨rfl, rfl, rfl, rfl, -⟩ : l4 = false ∧ l5 = false ∧ l11 = false ∧ l14 = false ∧ True := hus
      simp only [sel_t, sel_f] at hI
      obtain ⟨p5, p6, g11, g17, rfl, hb, hS, hR, hP, hP', hQ, hW4, hW10, dP, dQ, nPS, nPR, nPQ, nQS, nQR⟩ := hI
      obtain ⟨q0, q1, q2, q3, q4, q5, q6, q7, q8, q9, q10, q11⟩ := (hS).facts
      refine lin_yield (.agg #[.bool m, .string s, .int .i64 d]) rfl (by go_simp; first | done | with_reducible rfl | assumption) ?_
      exact hK.out _ _ ⟨true, true, l2, l3, false, false, l6, l7, l8, l9, l10, false, l12, l13, false, by kernel_rfl, p5, p6, g11, g17, by kernel_rfl, hb, (hS), (hR), (fun z0 z1 => (hP z0 z1)), (fun h => not_ft h), (fun z0 => (hQ z0)), (fun h _ => not_ft h), (fun z0 z1 => (hW10 z0 z1)), (fun z0 => (dP z0)), (fun z0 => (dQ z0)), (fun z0 => (nPS z0)), (fun z0 => (nPR z0)), (fun z0 z1 => (nPQ z0 z1)), (fun z0 => (nQS z0)), (fun z0 => (nQR z0))⟩
    refine lin_cons [] [3, 4, 5, 11, 14] rfl (by kernel_rfl) (by kernel_rfl) ?_ ?_
    · intro L ac Wn hI hi hds hus Kc hK
      obtain ⟨l0, l1, l2, l3, l4, l5, l6, l7, l8, l9, l10, l11, l12, l13, l14, rfl, hI⟩ := hI
      obtain rfl : l2 = false := hi
      obtain ⟨rfl, rfl, rfl, rfl, rfl, -⟩ : l3 = false ∧ l4 = false ∧ l5 = false ∧ l11 = false ∧ l14 = false ∧ True := hus
      simp only [sel_f] at hI
      obtain ⟨p5, p6, g11, g17, rfl, hb, hS, hR, hP, hP', hQ, hW4, hW10, dP, dQ, nPS, nPR, nPQ, nQS, nQR⟩ := hI
      refine lin_yield (.pointer (some { block := w.heap.size, off := 3 })) rfl (by go_simp; first | done | with_reducible rfl | assumption) ?_
      exact hK.out _ _ ⟨l0, l1, true, false, false, false, l6, l7, l8, l9, l10, false, l12, l13, false, by kernel_rfl, p5, p6, g11, g17, by kernel_rfl, hb, (hS), (hR), (fun z0 z1 => (hP z0 z1)), (fun h => not_ft h), (fun z0 => (hQ z0)), (fun h _ => not_ft h), (fun z0 z1 => (hW10 z0 z1)), (fun z0 => (dP z0)), (fun z0 => (dQ z0)), (fun z0 => (nPS z0)), (fun z0 => (nPR z0)), (fun z0 z1 => (nPQ z0 z1)), (fun z0 => (nQS z0)), (fun z0 => (nQR z0))⟩
    refine lin_cons [2] [4, 5, 11, 14] rfl (by kernel_rfl) (by kernel_rfl) ?_ ?_
    · intro L ac Wn hI hi hds hus Kc hK
      obtain ⟨l0, l1, l2, l3, l4, l5, l6, l7, l8, l9, l10, l11, l12, l13, l14, rfl, hI⟩ := hI
      obtain rfl : l3 = false := hi
      obtain ⟨rfl, -⟩ : l2 = true ∧ True := hds
      obtain ⟨rfl, rfl, rfl, rfl, -⟩ : l4 = false ∧ l5 = false ∧ l11 = false ∧ l14 = false ∧ True := hus
      simp only [sel_t, sel_f] at hI
      obtain ⟨p5, p6, g11, g17, rfl, hb, hS, hR, hP, hP', hQ, hW4, hW10, dP, dQ, nPS, nPR, nPQ, nQS, nQR⟩ := hI
      obtain ⟨q0, q1, q2, q3, q4, q5, q6, q7, q8, q9, q10, q11⟩ := (hS).facts
      refine lin_yield (.agg #[.bool n, .string t, .int .i64 e]) rfl (by go_simp; first | done | with_reducible rfl | assumption) ?_
      exact hK.out _ _ ⟨l0, l1, true, true, false, false, l6, l7, l8, l9, l10, false, l12, l13, false, by kernel_rfl, p5, p6, g11, g17, by kernel_rfl, hb, (hS), (hR), (fun z0 z1 => (hP z0 z1)), (fun h => not_ft h), (fun z0 => (hQ z0)), (fun h _ => not_ft h), (fun z0 z1 => (hW10 z0 z1)), (fun z0 => (dP z0)), (fun z0 => (dQ z0)), (fun z0 => (nPS z0)), (fun z0 => (nPR z0)), (fun z0 z1 => (nPQ z0 z1)), (fun z0 => (nQS z0)), (fun z0 => (nQR z0))⟩
    refine lin_cons [0, 1, 2, 3] [5, 11, 14] rfl (by kernel_rfl) (by kernel_rfl) ?_ ?_
    · intro L ac Wn hI hi hds hus Kc hK
      obtain ⟨l0, l1, l2, l3, l4, l5, l6, l7, l8, l9, l10, l11, l12, l13, l14, rfl, hI⟩ := hI
      obtain rfl : l4 = false := hi
      obtain ⟨rfl, rfl, rfl, rfl, -⟩ : l0 = true ∧ l1 = true ∧ l2 = true ∧ l3 = true ∧ True := hds
      obtain ⟨rfl, rfl, rfl, -⟩ : l5 = false ∧ l11 = false ∧ l14 = false ∧ True := hus
      simp only [sel_t, sel_f] at hI
      obtain ⟨p5, p6, g11, g17, rfl, hb, hS, hR, hP, hP', hQ, hW4, hW10, dP, dQ, nPS, nPR, nPQ, nQS, nQR⟩ := hI
      go_simp
      exact hK.out _ _ ⟨true, true, true, true, true, false, l6, l7, l8, l9, l10, false, l12, l13, false, by kernel_rfl, p5, p6, _, g17, by kernel_rfl, (hb.alloc hb.size _), (hS.alloc _), (hR.alloc _), (fun z0 z1 => (hP z0 z1).alloc _), (fun h => not_ft h), (fun z0 => (hQ z0).alloc _), (fun _ _ => NAt.new _ _ _ _ rfl), (fun z0 z1 => (hW10 z0 z1).alloc _), (fun z0 => (dP z0)), (fun z0 => (dQ z0)), (fun z0 => (nPS z0)), (fun z0 => (nPR z0)), (fun z0 z1 => (nPQ z0 z1)), (fun z0 => (nQS z0)), (fun z0 => (nQR z0))⟩
    refine lin_cons [0, 1, 2, 3, 4] [11, 14] rfl (by kernel_rfl) (by kernel_rfl) ?_ ?_
    · intro L ac Wn hI hi hds hus Kc hK
      obtain ⟨l0, l1, l2, l3, l4, l5, l6, l7, l8, l9, l10, l11, l12, l13, l14, rfl, hI⟩ := hI
      obtain rfl : l5 = false := hi
      obtain ⟨rfl, rfl, rfl, rfl, rfl, -⟩ : l0 = true ∧ l1 = true ∧ l2 = true ∧ l3 = true ∧ l4 = true ∧ True := hds
      obtain ⟨rfl, rfl, -⟩ : l11 = false ∧ l14 = false ∧ True := hus
      simp only [sel_t, sel_f] at hI
      obtain ⟨p5, p6, g11, g17, rfl, hb, hS, hR, hP, hP', hQ, hW4, hW10, dP, dQ, nPS, nPR, nPQ, nQS, nQR⟩ := hI
      go_simp
      go_fit (ymin_any _ _ [(m, s, d), (n, t, e)] 2 2 rfl (by omega) (hW4 rfl rfl) HD.out.2.2.2.2.2.2.2 z1 o1 e1 HD.out.1)
      rintro e V ⟨rfl, hq⟩
      exact hK.out _ _ ⟨true, true, true, true, true, true, l6, l7, l8, l9, l10, false, l12, l13, false, by kernel_rfl, p5, p6, g11, g17, by kernel_rfl, (below_next hb hq), (hS.below hq), (hR.below hq), (fun z0 z1 => (hP z0 z1).below hq), (fun h => not_ft h), (fun z0 => (hQ z0).below hq), (fun _ h => not_tf h), (fun z0 z1 => (hW10 z0 z1).below hq), (fun z0 => (dP z0)), (fun z0 => (dQ z0)), (fun z0 => (nPS z0)), (fun z0 => (nPR z0)), (fun z0 z1 => (nPQ z0 z1)), (fun z0 => (nQS z0)), (fun z0 => (nQR z0))⟩
    refine lin_cons [] [7, 10, 11, 14] rfl (by kernel_rfl) (by kernel_rfl) ?_ ?_
    · intro L ac Wn hI hi hds hus Kc hK
      obtain ⟨l0, l1, l2, l3, l4, l5, l6, l7, l8, l9, l10, l11, l12, l13, l14, rfl, hI⟩ := hI
      obtain rfl : l6 = false := hi
      obtain ⟨rfl, rfl, rfl, rfl, -⟩ : l7 = false ∧ l10 = false ∧ l11 = false ∧ l14 = false ∧ True := hus
      simp only [sel_f] at hI
      obtain ⟨p5, p6, g11, g17, rfl, hb, hS, hR, hP, hP', hQ, hW4, hW10, dP, dQ, nPS, nPR, nPQ, nQS, nQR⟩ := hI
      refine lin_yield (.pointer (some ⟨w.heap.size, 0, none⟩)) rfl (by go_simp; first | done | with_reducible rfl | assumption) ?_
      exact hK.out _ _ ⟨l0, l1, l2, l3, l4, l5, true, false, l8, l9, false, false, l12, l13, false, by kernel_rfl, p5, p6, g11, g17, by kernel_rfl, hb, (hS), (hR), (fun z0 z1 => (hP z0 z1)), (fun h => not_ft h), (fun z0 => (hQ z0)), (fun z0 z1 => (hW4 z0 z1)), (fun h _ => not_ft h), (fun z0 => (dP z0)), (fun z0 => (dQ z0)), (fun z0 => (nPS z0)), (fun z0 => (nPR z0)), (fun z0 z1 => (nPQ z0 z1)), (fun z0 => (nQS z0)), (fun z0 => (nQR z0))⟩
    refine lin_cons [6] [10, 11, 14] rfl (by kernel_rfl) (by kernel_rfl) ?_ ?_
    · intro L ac Wn hI hi hds hus Kc hK
      obtain ⟨l0, l1, l2, l3, l4, l5, l6, l7, l8, l9, l10, l11, l12, l13, l14, rfl, hI⟩ := hI
      obtain rfl : l7 = false := hi
      obtain ⟨rfl, -⟩ : l6 = true ∧ True := hds
      obtain ⟨rfl, rfl, rfl, -⟩ : l10 = false ∧ l11 = false ∧ l14 = false ∧ True := hus
      simp only [sel_t, sel_f] at hI
      obtain ⟨p5, p6, g11, g17, rfl, hb, hS, hR, hP, hP', hQ, hW4, hW10, dP, dQ, nPS, nPR, nPQ, nQS, nQR⟩ := hI
      obtain ⟨q0, q1, q2, q3, q4, q5, q6, q7, q8, q9, q10, q11⟩ := (hS).facts
      refine lin_yield (.agg #[.bool m, .string s, .int .i64 d]) rfl (by go_simp; first | done | with_reducible rfl | assumption) ?_
      exact hK.out _ _ ⟨l0, l1, l2, l3, l4, l5, true, true, l8, l9, false, false, l12, l13, false, by kernel_rfl, p5, p6, g11, g17, by kernel_rfl, hb, (hS), (hR), (fun z0 z1 => (hP z0 z1)), (fun h => not_ft h), (fun z0 => (hQ z0)), (fun z0 z1 => (hW4 z0 z1)), (fun h _ => not_ft h), (fun z0 => (dP z0)), (fun z0 => (dQ z0)), (fun z0 => (nPS z0)), (fun z0 => (nPR z0)), (fun z0 z1 => (nPQ z0 z1)), (fun z0 => (nQS z0)), (fun z0 => (nQR z0))⟩
    refine lin_cons [] [9, 10, 11, 14] rfl (by kernel_rfl) (by kernel_rfl) ?_ ?_
    · intro L ac Wn hI hi hds hus Kc hK
      obtain ⟨l0, l1, l2, l3, l4, l5, l6, l7, l8, l9, l10, l11, l12, l13, l14, rfl, hI⟩ := hI
      obtain rfl : l8 = false := hi
      obtain ⟨rfl, rfl, rfl, rfl, -⟩ : l9 = false ∧ l10 = false ∧ l11 = false ∧ l14 = false ∧ True := hus
      simp only [sel_f] at hI
      obtain ⟨p5, p6, g11, g17, rfl, hb, hS, hR, hP, hP', hQ, hW4, hW10, dP, dQ, nPS, nPR, nPQ, nQS, nQR⟩ := hI
      refine lin_yield (.pointer (some { block := w.heap.size, off := 3 })) rfl (by go_simp; first | done | with_reducible rfl | assumption) ?_
      exact hK.out _ _ ⟨l0, l1, l2, l3, l4, l5, l6, l7, true, false, false, false, l12, l13, false, by kernel_rfl, p5, p6, g11, g17, by kernel_rfl, hb, (hS), (hR), (fun z0 z1 => (hP z0 z1)), (fun h => not_ft h), (fun z0 => (hQ z0)), (fun z0 z1 => (hW4 z0 z1)), (fun h _ => not_ft h), (fun z0 => (dP z0)), (fun z0 => (dQ z0)), (fun z0 => (nPS z0)), (fun z0 => (nPR z0)), (fun z0 z1 => (nPQ z0 z1)), (fun z0 => (nQS z0)), (fun z0 => (nQR z0))⟩
    refine lin_cons [8] [10, 11, 14] rfl (by kernel_rfl) (by kernel_rfl) ?_ ?_
    · intro L ac Wn hI hi hds hus Kc hK
      obtain ⟨l0, l1, l2, l3, l4, l5, l6, l7, l8, l9, l10, l11, l12, l13, l14, rfl, hI⟩ := hI
      obtain rfl : l9 = false := hi
      obtain ⟨rfl, -⟩ : l8 = true ∧ True := hds
      obtain ⟨rfl, rfl, rfl, -⟩ : l10 = false ∧ l11 = false ∧ l14 = false ∧ True := hus
      simp only [sel_t, sel_f] at hI
      obtain ⟨p5, p6, g11, g17, rfl, hb, hS, hR, hP, hP', hQ, hW4, hW10, dP, dQ, nPS, nPR, nPQ, nQS, nQR⟩ := hI
      obtain ⟨q0, q1, q2, q3, q4, q5, q6, q7, q8, q9, q10, q11⟩ := (hS).facts
      refine lin_yield (.agg #[.bool n, .string t, .int .i64 e]) rfl (by go_simp; first | done | with_reducible rfl | assumption) ?_
      exact hK.out _ _ ⟨l0, l1, l2, l3, l4, l5, l6, l7, true, true, false, false, l12, l13, false, by kernel_rfl, p5, p6, g11, g17, by kernel_rfl, hb, (hS), (hR), (fun z0 z1 => (hP z0 z1)), (fun h => not_ft h), (fun z0 => (hQ z0)), (fun z0 z1 => (hW4 z0 z1)), (fun h _ => not_ft h), (fun z0 => (dP z0)), (fun z0 => (dQ z0)), (fun z0 => (nPS z0)), (fun z0 => (nPR z0)), (fun z0 z1 => (nPQ z0 z1)), (fun z0 => (nQS z0)), (fun z0 => (nQR z0))⟩
    refine lin_cons [6, 7, 8, 9] [11, 14] rfl (by kernel_rfl) (by kernel_rfl) ?_ ?_
    · intro L ac Wn hI hi hds hus Kc hK
      obtain ⟨l0, l1, l2, l3, l4, l5, l6, l7, l8, l9, l10, l11, l12, l13, l14, rfl, hI⟩ := hI
      obtain rfl : l10 = false := hi
      obtain ⟨rfl, rfl, rfl, rfl, -⟩ : l6 = true ∧ l7 = true ∧ l8 = true ∧ l9 = true ∧ True := hds
      obtain ⟨rfl, rfl, -⟩ : l11 = false ∧ l14 = false ∧ True := hus
      simp only [sel_t, sel_f] at hI
      obtain ⟨p5, p6, g11, g17, rfl, hb, hS, hR, hP, hP', hQ, hW4, hW10, dP, dQ, nPS, nPR, nPQ, nQS, nQR⟩ := hI
      go_simp
      exact hK.out _ _ ⟨l0, l1, l2, l3, l4, l5, true, true, true, true, true, false, l12, l13, false, by kernel_rfl, p5, p6, g11, _, by kernel_rfl, (hb.alloc hb.size _), (hS.alloc _), (hR.alloc _), (fun z0 z1 => (hP z0 z1).alloc _), (fun h => not_ft h), (fun z0 => (hQ z0).alloc _), (fun z0 z1 => (hW4 z0 z1).alloc _), (fun _ _ => NAt.new _ _ _ _ rfl), (fun z0 => (dP z0)), (fun z0 => (dQ z0)), (fun z0 => (nPS z0)), (fun z0 => (nPR z0)), (fun z0 z1 => (nPQ z0 z1)), (fun z0 => (nQS z0)), (fun z0 => (nQR z0))⟩
    refine lin_cons [0, 1, 2, 3, 4, 5, 6, 7, 8, 9, 10] [14] rfl (by kernel_rfl) (by kernel_rfl) ?_ ?_
    · intro L ac Wn hI hi hds hus Kc hK
      obtain ⟨l0, l1, l2, l3, l4, l5, l6, l7, l8, l9, l10, l11, l12, l13, l14, rfl, hI⟩ := hI
      obtain rfl : l11 = false := hi
      obtain ⟨rfl, rfl, rfl, rfl, rfl, rfl, rfl, rfl, rfl, rfl, rfl, -⟩ : l0 = true ∧ l1 = true ∧ l2 = true ∧ l3 = true ∧ l4 = true ∧ l5 = true ∧ l6 = true ∧ l7 = true ∧ l8 = true ∧ l9 = true ∧ l10 = true ∧ True := hds
      obtain ⟨rfl, -⟩ : l14 = false ∧ True := hus
      simp only [sel_t, sel_f] at hI
      obtain ⟨p5, p6, g11, g17, rfl, hb, hS, hR, hP, hP', hQ, hW4, hW10, dP, dQ, nPS, nPR, nPQ, nQS, nQR⟩ := hI
      go_simp
      go_fit (ymax_any _ _ [(m, s, d), (n, t, e)] 2 2 rfl (by omega) (hW10 rfl rfl) HD.out.2.2.2.2.2.2.2 z2 o2 e2 HD.out.2.1)
      rintro e V ⟨rfl, hq⟩
      exact hK.out _ _ ⟨true, true, true, true, true, true, true, true, true, true, true, true, l12, l13, false, by kernel_rfl, p5, p6, g11, g17, by kernel_rfl, (below_next hb hq), (hS.below hq), (hR.below hq), (fun z0 z1 => (hP z0 z1).below hq), (fun h => not_ft h), (fun z0 => (hQ z0).below hq), (fun _ h => not_tf h), (fun _ h => not_tf h), (fun z0 => (dP z0)), (fun z0 => (dQ z0)), (fun z0 => (nPS z0)), (fun z0 => (nPR z0)), (fun z0 z1 => (nPQ z0 z1)), (fun z0 => (nQS z0)), (fun z0 => (nQR z0))⟩
    refine lin_cons [] [14] rfl (by kernel_rfl) (by kernel_rfl) ?_ ?_
    · intro L ac Wn hI hi hds hus Kc hK
      obtain ⟨l0, l1, l2, l3, l4, l5, l6, l7, l8, l9, l10, l11, l12, l13, l14, rfl, hI⟩ := hI
      obtain rfl : l12 = false := hi
      obtain ⟨rfl, -⟩ : l14 = false ∧ True := hus
      simp only [sel_f] at hI
      obtain ⟨p5, p6, g11, g17, rfl, hb, hS, hR, hP, hP', hQ, hW4, hW10, dP, dQ, nPS, nPR, nPQ, nQS, nQR⟩ := hI
      go_simp
      exact hK.out _ _ ⟨l0, l1, l2, l3, l4, l5, l6, l7, l8, l9, l10, l11, true, l13, false, by kernel_rfl, _, p6, g11, g17, by kernel_rfl, (hb.alloc hb.size _), (hS.alloc _), (hR.alloc _), (fun z0 z1 => Nk.new _ _ _ _), (fun h => not_ft h), (fun z0 => (hQ z0).alloc _), (fun z0 z1 => (hW4 z0 z1).alloc _), (fun z0 z1 => (hW10 z0 z1).alloc _), (fun z0 => hb.size), (fun z0 => (dQ z0)), (fun z0 => Nat.ne_of_lt ((hS).lt)), (fun z0 => Nat.ne_of_lt ((hR).lt)), (fun z0 z1 => Nat.ne_of_lt ((hQ z1).lt)), (fun z0 => (nQS z0)), (fun z0 => (nQR z0))⟩
    refine lin_cons [] [14] rfl (by kernel_rfl) (by kernel_rfl) ?_ ?_
    · intro L ac Wn hI hi hds hus Kc hK
      obtain ⟨l0, l1, l2, l3, l4, l5, l6, l7, l8, l9, l10, l11, l12, l13, l14, rfl, hI⟩ := hI
      obtain rfl : l13 = false := hi
      obtain ⟨rfl, -⟩ : l14 = false ∧ True := hus
      simp only [sel_f] at hI
      obtain ⟨p5, p6, g11, g17, rfl, hb, hS, hR, hP, hP', hQ, hW4, hW10, dP, dQ, nPS, nPR, nPQ, nQS, nQR⟩ := hI
      go_simp
      exact hK.out _ _ ⟨l0, l1, l2, l3, l4, l5, l6, l7, l8, l9, l10, l11, l12, true, false, by kernel_rfl, p5, _, g11, g17, by kernel_rfl, (hb.alloc hb.size _), (hS.alloc _), (hR.alloc _), (fun z0 z1 => (hP z0 z1).alloc _), (fun h => not_ft h), (fun z0 => Nk.new _ _ _ _), (fun z0 z1 => (hW4 z0 z1).alloc _), (fun z0 z1 => (hW10 z0 z1).alloc _), (fun z0 => (dP z0)), (fun z0 => hb.size), (fun z0 => (nPS z0)), (fun z0 => (nPR z0)), (fun z0 z1 => Nat.ne_of_gt ((hP z0 rfl).lt)), (fun z0 => Nat.ne_of_lt ((hS).lt)), (fun z0 => Nat.ne_of_lt ((hR).lt))⟩
    refine lin_cons [0, 1, 2, 3, 4, 5, 6, 7, 8, 9, 10, 11, 12, 13] [] rfl (by kernel_rfl) (by kernel_rfl) ?_ lin_nil
    intro L ac Wn hI hi hds hus Kc hK
    obtain ⟨l0, l1, l2, l3, l4, l5, l6, l7, l8, l9, l10, l11, l12, l13, l14, rfl, hI⟩ := hI
    obtain rfl : l14 = false := hi
    obtain ⟨rfl, rfl, rfl, rfl, rfl, rfl, rfl, rfl, rfl, rfl, rfl, rfl, rfl, rfl, -⟩ : l0 = true ∧ l1 = true ∧ l2 = true ∧ l3 = true ∧ l4 = true ∧ l5 = true ∧ l6 = true ∧ l7 = true ∧ l8 = true ∧ l9 = true ∧ l10 = true ∧ l11 = true ∧ l12 = true ∧ l13 = true ∧ True := hds
    simp only [sel_t] at hI
    obtain ⟨p5, p6, g11, g17, rfl, hb, hS, hR, hP, hP', hQ, hW4, hW10, dP, dQ, nPS, nPR, nPQ, nQS, nQR⟩ := hI
    obtain ⟨q0, q1, q2, q3, q4, q5⟩ := (hP rfl rfl).facts
    have edP := dP rfl
    have edQ := dQ rfl
    have enPS := nPS rfl
    have enPR := nPR rfl
    have enPQ := nPQ rfl rfl
    have enQS := nQS rfl
    have enQR := nQR rfl
    go_simp
    exact hK.out _ _ ⟨true, true, true, true, true, true, true, true, true, true, true, true, true, true, true, by kernel_rfl, p5, p6, g11, g17, by kernel_rfl, (((hb.setCell (p := ⟨p5, 0, none⟩) (by show w.heap.size ≤ p5; omega) (.bool z1)).setCell (p := ⟨p5, 1, none⟩) (by show w.heap.size ≤ p5; omega) (.string o1)).setCell (p := ⟨p5, 2, none⟩) (by show w.heap.size ≤ p5; omega) (.int .i64 e1)), ((((hS).far (p := ⟨p5, 0, none⟩) (by show w.heap.size ≠ p5; omega) (.bool z1)).far (p := ⟨p5, 1, none⟩) (by show w.heap.size ≠ p5; omega) (.string o1)).far (p := ⟨p5, 2, none⟩) (by show w.heap.size ≠ p5; omega) (.int .i64 e1)), ((((hR).far (p := ⟨p5, 0, none⟩) (by show w.heap.size + 1 ≠ p5; omega) (.bool z1)).far (p := ⟨p5, 1, none⟩) (by show w.heap.size + 1 ≠ p5; omega) (.string o1)).far (p := ⟨p5, 2, none⟩) (by show w.heap.size + 1 ≠ p5; omega) (.int .i64 e1)), (fun _ h => not_tf h), (fun _ => (hP rfl rfl).set3 (z1) (o1) (e1)), (fun z0 => ((((hQ z0)).far (p := ⟨p5, 0, none⟩) (by show p6 ≠ p5; omega) (.bool z1)).far (p := ⟨p5, 1, none⟩) (by show p6 ≠ p5; omega) (.string o1)).far (p := ⟨p5, 2, none⟩) (by show p6 ≠ p5; omega) (.int .i64 e1)), (fun _ h => not_tf h), (fun _ h => not_tf h), (fun z0 => (dP z0)), (fun z0 => (dQ z0)), (fun z0 => (nPS z0)), (fun z0 => (nPR z0)), (fun z0 z1 => (nPQ z0 z1)), (fun z0 => (nQS z0)), (fun z0 => (nQR z0))⟩
  refine bar_of [0, 1, 2, 3, 4, 5, 6, 7, 8, 9, 10, 11, 12, 13, 14] rfl (by kernel_rfl) ?_
  intro L ac Wn hI hds Kc hK
  obtain ⟨l0, l1, l2, l3, l4, l5, l6, l7, l8, l9, l10, l11, l12, l13, l14, rfl, hI⟩ := hI
  obtain ⟨rfl, rfl, rfl, rfl, rfl, rfl, rfl, rfl, rfl, rfl, rfl, rfl, rfl, rfl, rfl, -⟩ : l0 = true ∧ l1 = true ∧ l2 = true ∧ l3 = true ∧ l4 = true ∧ l5 = true ∧ l6 = true ∧ l7 = true ∧ l8 = true ∧ l9 = true ∧ l10 = true ∧ l11 = true ∧ l12 = true ∧ l13 = true ∧ l14 = true ∧ True := hds
  simp only [sel_t] at hI
  obtain ⟨p5, p6, g11, g17, rfl, hb, hS, hR, hP, hP', hQ, hW4, hW10, dP, dQ, nPS, nPR, nPQ, nQS, nQR⟩ := hI
  clear hP
  replace hP' := hP' rfl
  replace hQ := hQ rfl
  clear hW4
  clear hW10
  replace dP := dP rfl
  replace dQ := dQ rfl
  replace nPS := nPS rfl
  replace nPR := nPR rfl
  replace nPQ := nPQ rfl rfl
  replace nQS := nQS rfl
  replace nQR := nQR rfl
  have hP := hP'
  clear hP'
  obtain ⟨q0, q1, q2, q3, q4, q5⟩ := (hQ).facts
  go_simp
  replace hS := (((hS).far (p := ⟨p6, 0, none⟩) (by show w.heap.size ≠ p6; omega) (.bool z2)).far (p := ⟨p6, 1, none⟩) (by show w.heap.size ≠ p6; omega) (.string o2)).far (p := ⟨p6, 2, none⟩) (by show w.heap.size ≠ p6; omega) (.int .i64 e2)
  replace hR := (((hR).far (p := ⟨p6, 0, none⟩) (by show w.heap.size + 1 ≠ p6; omega) (.bool z2)).far (p := ⟨p6, 1, none⟩) (by show w.heap.size + 1 ≠ p6; omega) (.string o2)).far (p := ⟨p6, 2, none⟩) (by show w.heap.size + 1 ≠ p6; omega) (.int .i64 e2)
  replace hP := (((hP).far (p := ⟨p6, 0, none⟩) (by show p5 ≠ p6; omega) (.bool z2)).far (p := ⟨p6, 1, none⟩) (by show p5 ≠ p6; omega) (.string o2)).far (p := ⟨p6, 2, none⟩) (by show p5 ≠ p6; omega) (.int .i64 e2)
  replace hQ := (hQ).set3 (z2) (o2) (e2)
  replace hb := (((hb.setCell (p := ⟨p6, 0, none⟩) (by show w.heap.size ≤ p6; omega) (.bool z2)).setCell (p := ⟨p6, 1, none⟩) (by show w.heap.size ≤ p6; omega) (.string o2)).setCell (p := ⟨p6, 2, none⟩) (by show w.heap.size ≤ p6; omega) (.int .i64 e2))
  refine hK.out _ _ (fun fu hf => wpAnyH_done (by kernel_rfl) ?_ _)
  clear hK Kc hf
  clear hS
  have hwk : IntKind.i64.wrap k = k := by rw [IntKind.wrap_i64]; omega
  generalize (((Wn.setCell ⟨p6, 0, none⟩ (.bool z2)).setCell ⟨p6, 1, none⟩ (.string o2)).setCell ⟨p6, 2, none⟩ (.int .i64 e2)) = W5 at *
  go_wp2_with fail
  refine region_segs (n := 13) #[false, false, false, false, false, false, false, false, false, false, false, false, false] (by kernel_rfl) (by kernel_rfl) (by kernel_rfl) ?_
  intro fu hf
  refine lin_seg 13 [0, 1, 2, 3, 4, 5, 6, 7, 8, 9, 10, 11, 12] 12 (fun L ac Wn => ∃ l0 l1 l2 l3 l4 l5 l6 l7 l8 l9 l10 l11 : Bool, L = #[l0, l1, l2, l3, l4, l5, l6, l7, l8, l9, l10, l11, false] ∧ ∃ g26 g29 : Nat, ac = { tmps := #[.agg #[.bool m, .string s, .int .i64 d, .bool n, .string t, .int .i64 e], Value.int IntKind.u8 k, .pointer (some ⟨w.heap.size, 0, none⟩), undef, .pointer (some ⟨w.heap.size + 1, 0, none⟩), .pointer (some ⟨p5, 0, none⟩), .pointer (some ⟨p6, 0, none⟩), .pointer (some ⟨w.heap.size, 0, none⟩), .agg #[.bool m, .string s, .int .i64 d], .pointer (some { block := w.heap.size, off := 3 }), .agg #[.bool n, .string t, .int .i64 e], .slice (some ⟨g11, 0, none⟩) 2 2, .agg #[.bool z1, .string o1, .int .i64 e1], .pointer (some ⟨w.heap.size, 0, none⟩), .agg #[.bool m, .string s, .int .i64 d], .pointer (some { block := w.heap.size, off := 3 }), .agg #[.bool n, .string t, .int .i64 e], .slice (some ⟨g17, 0, none⟩) 2 2, .agg #[.bool z2, .string o2, .int .i64 e2], sel l0 (.agg #[.bool z1, .string o1, .int .i64 e1]) (undef), sel l1 (.agg #[.bool z2, .string o2, .int .i64 e2]) (undef), sel l2 (.agg #[.bool z1, .string o1, .int .i64 e1]) (undef), sel l3 (.agg #[.bool z3, .string o3, .int .i64 e3]) (undef), sel l4 (Value.int IntKind.u8 k) (undef), sel l5 (.int .i64 k) (undef), sel l6 (.agg #[.bool z4, .string o4, .int .i64 e4]) (undef), sel l7 (.slice (some ⟨g26, 0, none⟩) 2 2) (undef), sel l8 (.agg #[.bool z5, .string o5, .int .i64 e5]) (undef), sel l9 (.agg #[.bool z6, .string o6, .int .i64 e6]) (undef), sel l10 (.slice (some ⟨g29, 0, none⟩) 2 2) (undef), sel l11 (.agg #[.bool m', .string s', .int .i64 e']) (undef)], defers := [] } ∧ Below (w.heap.size) w Wn ∧ (Nk Wn (w.heap.size + 1) false ⟨#[]⟩ 0) ∧ (Nk Wn p5 z1 o1 e1) ∧ (Nk Wn p6 z2 o2 e2) ∧ (On l7 → Off l8 → NAt Wn (some ⟨g26, 0, none⟩) [(z3, o3, e3), (z4, o4, e4)]) ∧ (On l10 → Off l11 → NAt Wn (some ⟨g29, 0, none⟩) [(z1, o1, e1), (z6, o6, e6)])) (by kernel_rfl) (by kernel_rfl) (by kernel_rfl) (by kernel_rfl) hf ?_ ?_ ?_ (by kernel_rfl) ?_ (by decide)
  · exact ⟨false, false, false, false, false, false, false, false, false, false, false, false, by kernel_rfl, 0, 0, by kernel_rfl, hb.drew, hR.drew, hP.drew, hQ.drew, (fun h _ => not_ft h), (fun h _ => not_ft h)⟩
  · rintro L ac Wn ⟨l0, l1, l2, l3, l4, l5, l6, l7, l8, l9, l10, l11, rfl, _⟩
    kernel_rfl
  · refine (seg_all (b := 12) [0, 1, 2, 3, 4, 5, 6, 7, 8, 9, 10, 11] ?_ : ∀ j ∈ [0, 1, 2, 3, 4, 5, 6, 7, 8, 9, 10, 11, 12], j ≠ 12 → _)
    refine lin_cons [] [10, 11] rfl (by kernel_rfl) (by kernel_rfl) ?_ ?_
    · intro L ac Wn hI hi hds hus Kc hK
      obtain ⟨l0, l1, l2, l3, l4, l5, l6, l7, l8, l9, l10, l11, rfl, hI⟩ := hI
      obtain rfl : l0 = false := hi
      obtain ⟨rfl, rfl, -⟩ : l10 = false ∧ l11 = false ∧ True := hus
      simp only [sel_f] at hI
      obtain ⟨g26, g29, rfl, hb, hR, hP, hQ, hW7, hW10⟩ := hI
      obtain ⟨q0, q1, q2, q3, q4, q5⟩ := (hP).facts
      refine lin_yield (.agg #[.bool z1, .string o1, .int .i64 e1]) rfl (by go_simp; first | done | with_reducible rfl | assumption) ?_
      exact hK.out _ _ ⟨true, l1, l2, l3, l4, l5, l6, l7, l8, l9, false, false, by kernel_rfl, g26, g29, by kernel_rfl, hb, (hR), (hP), (hQ), (fun z0 z1 => (hW7 z0 z1)), (fun h _ => not_ft h)⟩
    refine lin_cons [] [3, 6, 7, 8, 9, 10, 11] rfl (by kernel_rfl) (by kernel_rfl) ?_ ?_
    · intro L ac Wn hI hi hds hus Kc hK
      obtain ⟨l0, l1, l2, l3, l4, l5, l6, l7, l8, l9, l10, l11, rfl, hI⟩ := hI
      obtain rfl : l1 = false := hi
      obtain ⟨rfl, rfl, rfl, rfl, rfl, rfl, rfl, -⟩ : l3 = false ∧ l6 = false ∧ l7 = false ∧ l8 = false ∧ l9 = false ∧ l10 = false ∧ l11 = false ∧ True := hus
      simp only [sel_f] at hI
      obtain ⟨g26, g29, rfl, hb, hR, hP, hQ, hW7, hW10⟩ := hI
      obtain ⟨q0, q1, q2, q3, q4, q5⟩ := (hQ).facts
      refine lin_yield (.agg #[.bool z2, .string o2, .int .i64 e2]) rfl (by go_simp; first | done | with_reducible rfl | assumption) ?_
      exact hK.out _ _ ⟨l0, true, l2, false, l4, l5, false, false, false, false, false, false, by kernel_rfl, g26, g29, by kernel_rfl, hb, (hR), (hP), (hQ), (fun h _ => not_ft h), (fun h _ => not_ft h)⟩
    refine lin_cons [] [3, 6, 7, 8, 9, 10, 11] rfl (by kernel_rfl) (by kernel_rfl) ?_ ?_
    · intro L ac Wn hI hi hds hus Kc hK
      obtain ⟨l0, l1, l2, l3, l4, l5, l6, l7, l8, l9, l10, l11, rfl, hI⟩ := hI
      obtain rfl : l2 = false := hi
      obtain ⟨rfl, rfl, rfl, rfl, rfl, rfl, rfl, -⟩ : l3 = false ∧ l6 = false ∧ l7 = false ∧ l8 = false ∧ l9 = false ∧ l10 = false ∧ l11 = false ∧ True := hus
      simp only [sel_f] at hI
      obtain ⟨g26, g29, rfl, hb, hR, hP, hQ, hW7, hW10⟩ := hI
      obtain ⟨q0, q1, q2, q3, q4, q5⟩ := (hP).facts
      refine lin_yield (.agg #[.bool z1, .string o1, .int .i64 e1]) rfl (by go_simp; first | done | with_reducible rfl | assumption) ?_
      exact hK.out _ _ ⟨l0, l1, true, false, l4, l5, false, false, false, false, false, false, by kernel_rfl, g26, g29, by kernel_rfl, hb, (hR), (hP), (hQ), (fun h _ => not_ft h), (fun h _ => not_ft h)⟩
    refine lin_cons [1, 2] [6, 7, 8, 9, 10, 11] rfl (by kernel_rfl) (by kernel_rfl) ?_ ?_
    · intro L ac Wn hI hi hds hus Kc hK
      obtain ⟨l0, l1, l2, l3, l4, l5, l6, l7, l8, l9, l10, l11, rfl, hI⟩ := hI
      obtain rfl : l3 = false := hi
      obtain ⟨rfl, rfl, -⟩ : l1 = true ∧ l2 = true ∧ True := hds
      obtain ⟨rfl, rfl, rfl, rfl, rfl, rfl, -⟩ : l6 = false ∧ l7 = false ∧ l8 = false ∧ l9 = false ∧ l10 = false ∧ l11 = false ∧ True := hus
      simp only [sel_t, sel_f] at hI
      obtain ⟨g26, g29, rfl, hb, hR, hP, hQ, hW7, hW10⟩ := hI
      go_simp
      go_fit (use_ysub HE.out.2.1 HE.out.1 HD.out.2.2.1)
      rintro e V ⟨rfl, hq⟩
      exact hK.out _ _ ⟨l0, true, true, true, l4, l5, false, false, false, false, false, false, by kernel_rfl, g26, g29, by kernel_rfl, (below_next hb hq), (hR.below hq), (hP.below hq), (hQ.below hq), (fun h _ => not_ft h), (fun h _ => not_ft h)⟩
    refine lin_cons [] [5, 6, 7, 8, 9, 10, 11] rfl (by kernel_rfl) (by kernel_rfl) ?_ ?_
    · intro L ac Wn hI hi hds hus Kc hK
      obtain ⟨l0, l1, l2, l3, l4, l5, l6, l7, l8, l9, l10, l11, rfl, hI⟩ := hI
      obtain rfl : l4 = false := hi
      obtain ⟨rfl, rfl, rfl, rfl, rfl, rfl, rfl, -⟩ : l5 = false ∧ l6 = false ∧ l7 = false ∧ l8 = false ∧ l9 = false ∧ l10 = false ∧ l11 = false ∧ True := hus
      simp only [sel_f] at hI
      obtain ⟨g26, g29, rfl, hb, hR, hP, hQ, hW7, hW10⟩ := hI
      refine lin_yield (Value.int IntKind.u8 k) rfl (by go_simp; first | done | with_reducible rfl | assumption) ?_
      exact hK.out _ _ ⟨l0, l1, l2, l3, true, false, false, false, false, false, false, false, by kernel_rfl, g26, g29, by kernel_rfl, hb, (hR), (hP), (hQ), (fun h _ => not_ft h), (fun h _ => not_ft h)⟩
    refine lin_cons [4] [6, 7, 8, 9, 10, 11] rfl (by kernel_rfl) (by kernel_rfl) ?_ ?_
    · intro L ac Wn hI hi hds hus Kc hK
      obtain ⟨l0, l1, l2, l3, l4, l5, l6, l7, l8, l9, l10, l11, rfl, hI⟩ := hI
      obtain rfl : l5 = false := hi
      obtain ⟨rfl, -⟩ : l4 = true ∧ True := hds
      obtain ⟨rfl, rfl, rfl, rfl, rfl, rfl, -⟩ : l6 = false ∧ l7 = false ∧ l8 = false ∧ l9 = false ∧ l10 = false ∧ l11 = false ∧ True := hus
      simp only [sel_t, sel_f] at hI
      obtain ⟨g26, g29, rfl, hb, hR, hP, hQ, hW7, hW10⟩ := hI
      refine lin_yield (.int .i64 k) rfl (by go_simp; first | done | (rw [hwk]; done) | (simp only [hwk]; done) | exact hwk) ?_
      exact hK.out _ _ ⟨l0, l1, l2, l3, true, true, false, false, false, false, false, false, by kernel_rfl, g26, g29, by kernel_rfl, hb, (hR), (hP), (hQ), (fun h _ => not_ft h), (fun h _ => not_ft h)⟩
    refine lin_cons [1, 2, 3, 4, 5] [7, 8, 9, 10, 11] rfl (by kernel_rfl) (by kernel_rfl) ?_ ?_
    · intro L ac Wn hI hi hds hus Kc hK
      obtain ⟨l0, l1, l2, l3, l4, l5, l6, l7, l8, l9, l10, l11, rfl, hI⟩ := hI
      obtain rfl : l6 = false := hi
      obtain ⟨rfl, rfl, rfl, rfl, rfl, -⟩ : l1 = true ∧ l2 = true ∧ l3 = true ∧ l4 = true ∧ l5 = true ∧ True := hds
      obtain ⟨rfl, rfl, rfl, rfl, rfl, -⟩ : l7 = false ∧ l8 = false ∧ l9 = false ∧ l10 = false ∧ l11 = false ∧ True := hus
      simp only [sel_t, sel_f] at hI
      obtain ⟨g26, g29, rfl, hb, hR, hP, hQ, hW7, hW10⟩ := hI
      go_simp
      go_fit (yof_any _ k (by omega) (by omega) z4 o4 e4 HD.out.2.2.2.1)
      rintro e V ⟨rfl, hq⟩
      exact hK.out _ _ ⟨l0, true, true, true, true, true, true, false, false, false, false, false, by kernel_rfl, g26, g29, by kernel_rfl, (below_next hb hq), (hR.below hq), (hP.below hq), (hQ.below hq), (fun h _ => not_ft h), (fun h _ => not_ft h)⟩
    refine lin_cons [1, 2, 3, 4, 5, 6] [8, 9, 10, 11] rfl (by kernel_rfl) (by kernel_rfl) ?_ ?_
    · intro L ac Wn hI hi hds hus Kc hK
      obtain ⟨l0, l1, l2, l3, l4, l5, l6, l7, l8, l9, l10, l11, rfl, hI⟩ := hI
      obtain rfl : l7 = false := hi
      obtain ⟨rfl, rfl, rfl, rfl, rfl, rfl, -⟩ : l1 = true ∧ l2 = true ∧ l3 = true ∧ l4 = true ∧ l5 = true ∧ l6 = true ∧ True := hds
      obtain ⟨rfl, rfl, rfl, rfl, -⟩ : l8 = false ∧ l9 = false ∧ l10 = false ∧ l11 = false ∧ True := hus
      simp only [sel_t, sel_f] at hI
      obtain ⟨g26, g29, rfl, hb, hR, hP, hQ, hW7, hW10⟩ := hI
      go_simp
      exact hK.out _ _ ⟨l0, true, true, true, true, true, true, true, false, false, false, false, by kernel_rfl, _, g29, by kernel_rfl, (hb.alloc hb.size _), (hR.alloc _), (hP.alloc _), (hQ.alloc _), (fun _ _ => NAt.new _ _ _ _ rfl), (fun h _ => not_ft h)⟩
    refine lin_cons [1, 2, 3, 4, 5, 6, 7] [9, 10, 11] rfl (by kernel_rfl) (by kernel_rfl) ?_ ?_
    · intro L ac Wn hI hi hds hus Kc hK
      obtain ⟨l0, l1, l2, l3, l4, l5, l6, l7, l8, l9, l10, l11, rfl, hI⟩ := hI
      obtain rfl : l8 = false := hi
      obtain ⟨rfl, rfl, rfl, rfl, rfl, rfl, rfl, -⟩ : l1 = true ∧ l2 = true ∧ l3 = true ∧ l4 = true ∧ l5 = true ∧ l6 = true ∧ l7 = true ∧ True := hds
      obtain ⟨rfl, rfl, rfl, -⟩ : l9 = false ∧ l10 = false ∧ l11 = false ∧ True := hus
      simp only [sel_t, sel_f] at hI
      obtain ⟨g26, g29, rfl, hb, hR, hP, hQ, hW7, hW10⟩ := hI
      go_simp
      go_fit (use_ymul2 HE.out.2.2.1 HE.out.2.2.2.1 (hW7 rfl rfl) HD.out.2.2.2.2.1)
      rintro e V ⟨rfl, hq⟩
      exact hK.out _ _ ⟨l0, true, true, true, true, true, true, true, true, false, false, false, by kernel_rfl, g26, g29, by kernel_rfl, (below_next hb hq), (hR.below hq), (hP.below hq), (hQ.below hq), (fun _ h => not_tf h), (fun h _ => not_ft h)⟩
    refine lin_cons [1, 2, 3, 4, 5, 6, 7, 8] [10, 11] rfl (by kernel_rfl) (by kernel_rfl) ?_ ?_
    · intro L ac Wn hI hi hds hus Kc hK
      obtain ⟨l0, l1, l2, l3, l4, l5, l6, l7, l8, l9, l10, l11, rfl, hI⟩ := hI
      obtain rfl : l9 = false := hi
      obtain ⟨rfl, rfl, rfl, rfl, rfl, rfl, rfl, rfl, -⟩ : l1 = true ∧ l2 = true ∧ l3 = true ∧ l4 = true ∧ l5 = true ∧ l6 = true ∧ l7 = true ∧ l8 = true ∧ True := hds
      obtain ⟨rfl, rfl, -⟩ : l10 = false ∧ l11 = false ∧ True := hus
      simp only [sel_t, sel_f] at hI
      obtain ⟨g26, g29, rfl, hb, hR, hP, hQ, hW7, hW10⟩ := hI
      go_simp
      go_fit (yshift_any _ z5 o5 e5 (-8) (by omega) (by omega) (by omega) z6 o6 e6 HD.out.2.2.2.2.2.1)
      rintro e V ⟨rfl, hq⟩
      exact hK.out _ _ ⟨l0, true, true, true, true, true, true, true, true, true, false, false, by kernel_rfl, g26, g29, by kernel_rfl, (below_next hb hq), (hR.below hq), (hP.below hq), (hQ.below hq), (fun _ h => not_tf h), (fun h _ => not_ft h)⟩
    refine lin_cons [0, 1, 2, 3, 4, 5, 6, 7, 8, 9] [11] rfl (by kernel_rfl) (by kernel_rfl) ?_ ?_
    · intro L ac Wn hI hi hds hus Kc hK
      obtain ⟨l0, l1, l2, l3, l4, l5, l6, l7, l8, l9, l10, l11, rfl, hI⟩ := hI
      obtain rfl : l10 = false := hi
      obtain ⟨rfl, rfl, rfl, rfl, rfl, rfl, rfl, rfl, rfl, rfl, -⟩ : l0 = true ∧ l1 = true ∧ l2 = true ∧ l3 = true ∧ l4 = true ∧ l5 = true ∧ l6 = true ∧ l7 = true ∧ l8 = true ∧ l9 = true ∧ True := hds
      obtain ⟨rfl, -⟩ : l11 = false ∧ True := hus
      simp only [sel_t, sel_f] at hI
      obtain ⟨g26, g29, rfl, hb, hR, hP, hQ, hW7, hW10⟩ := hI
      go_simp
      exact hK.out _ _ ⟨true, true, true, true, true, true, true, true, true, true, true, false, by kernel_rfl, g26, _, by kernel_rfl, (hb.alloc hb.size _), (hR.alloc _), (hP.alloc _), (hQ.alloc _), (fun _ h => not_tf h), (fun _ _ => NAt.new _ _ _ _ rfl)⟩
    refine lin_cons [0, 1, 2, 3, 4, 5, 6, 7, 8, 9, 10] [] rfl (by kernel_rfl) (by kernel_rfl) ?_ lin_nil
    intro L ac Wn hI hi hds hus Kc hK
    obtain ⟨l0, l1, l2, l3, l4, l5, l6, l7, l8, l9, l10, l11, rfl, hI⟩ := hI
    obtain rfl : l11 = false := hi
    obtain ⟨rfl, rfl, rfl, rfl, rfl, rfl, rfl, rfl, rfl, rfl, rfl, -⟩ : l0 = true ∧ l1 = true ∧ l2 = true ∧ l3 = true ∧ l4 = true ∧ l5 = true ∧ l6 = true ∧ l7 = true ∧ l8 = true ∧ l9 = true ∧ l10 = true ∧ True := hds
    simp only [sel_t, sel_f] at hI
    obtain ⟨g26, g29, rfl, hb, hR, hP, hQ, hW7, hW10⟩ := hI
    go_simp
    go_fit (use_yadd2 HE.out.1 HE.out.2.2.2.2.2 (hW10 rfl rfl) HD.out.2.2.2.2.2.2.1)
    rintro e V ⟨rfl, hq⟩
    exact hK.out _ _ ⟨true, true, true, true, true, true, true, true, true, true, true, true, by kernel_rfl, g26, g29, by kernel_rfl, (below_next hb hq), (hR.below hq), (hP.below hq), (hQ.below hq), (fun _ h => not_tf h), (fun _ h => not_tf h)⟩
  refine bar_of [0, 1, 2, 3, 4, 5, 6, 7, 8, 9, 10, 11] rfl (by kernel_rfl) ?_
  intro L ac Wn hI hds Kc hK
  obtain ⟨l0, l1, l2, l3, l4, l5, l6, l7, l8, l9, l10, l11, rfl, hI⟩ := hI
  obtain ⟨rfl, rfl, rfl, rfl, rfl, rfl, rfl, rfl, rfl, rfl, rfl, rfl, -⟩ : l0 = true ∧ l1 = true ∧ l2 = true ∧ l3 = true ∧ l4 = true ∧ l5 = true ∧ l6 = true ∧ l7 = true ∧ l8 = true ∧ l9 = true ∧ l10 = true ∧ l11 = true ∧ True := hds
  simp only [sel_t] at hI
  obtain ⟨g26, g29, rfl, hb, hR, hP, hQ, hW7, hW10⟩ := hI
  clear hW7
  clear hW10
  obtain ⟨q0, q1, q2, q3, q4, q5⟩ := (hR).facts
  go_simp
  replace hR := (hR).set3 (m') (s') (e')
  replace hP := (((hP).far (p := ⟨w.heap.size + 1, 0, none⟩) (by show p5 ≠ w.heap.size + 1; omega) (.bool m')).far (p := ⟨w.heap.size + 1, 1, none⟩) (by show p5 ≠ w.heap.size + 1; omega) (.string s')).far (p := ⟨w.heap.size + 1, 2, none⟩) (by show p5 ≠ w.heap.size + 1; omega) (.int .i64 e')
  replace hQ := (((hQ).far (p := ⟨w.heap.size + 1, 0, none⟩) (by show p6 ≠ w.heap.size + 1; omega) (.bool m')).far (p := ⟨w.heap.size + 1, 1, none⟩) (by show p6 ≠ w.heap.size + 1; omega) (.string s')).far (p := ⟨w.heap.size + 1, 2, none⟩) (by show p6 ≠ w.heap.size + 1; omega) (.int .i64 e')
  replace hb := (((hb.setCell (p := ⟨w.heap.size + 1, 0, none⟩) (by show w.heap.size ≤ w.heap.size + 1; omega) (.bool m')).setCell (p := ⟨w.heap.size + 1, 1, none⟩) (by show w.heap.size ≤ w.heap.size + 1; omega) (.string s')).setCell (p := ⟨w.heap.size + 1, 2, none⟩) (by show w.heap.size ≤ w.heap.size + 1; omega) (.int .i64 e'))
  refine hK.out _ _ (fun fu hf => wpAnyH_done (by kernel_rfl) ?_ _)
  clear hK Kc hf
  go_wp2
  exact ret_num rfl rfl hR ⟨rfl, hb⟩
end Go.Proofs.YthggjlkeadjhcaaGreatDoor
