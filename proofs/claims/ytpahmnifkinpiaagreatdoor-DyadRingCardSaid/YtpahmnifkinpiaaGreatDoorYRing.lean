/- DyadRing: for every input it answers true. -/
import Derived.Test.YtpahmnifkinpiaaGreatDoorYBnd
import Derived.Test.YtpahmnifkinpiaaGreatDoorYAwake
import Derived.Test.YtpahmnifkinpiaaGreatDoorYFormsL
import Derived.Test.YtpahmnifkinpiaaGreatDoorHL
namespace Go.Proofs.YtpahmnifkinpiaaGreatDoor
open Go.RowKit Go.Shelf

theorem half_twice {m : Bool} {s : ByteArray} {d : Int} : nv m s (d + -1) + nv m s (d + -1) = nv m s d := by
  rw [← Dyadic.toRat_inj, Dyadic.toRat_add, nv_toRat, nv_toRat, Rat.zpow_add (by decide)]
  grind
theorem add_sub_self {x y : Dyadic} : x + y - y = x := by
  rw [← Dyadic.toRat_inj, Dyadic.toRat_sub, Dyadic.toRat_add]
  grind
theorem add_neg_self {x : Dyadic} : x + -x = 0 := by
  rw [← Dyadic.toRat_inj, Dyadic.toRat_add, Dyadic.toRat_neg, Dyadic.toRat_zero]
  grind
set_option maxRecDepth 100000 in
set_option maxHeartbeats 6400000 in
theorem ring_law (w : World) (m : Bool) (s : ByteArray) (d : Int) (_h0 : s.size ≤ maxLen) (_g0 : (Lit.int .i64 d).wf = true) (n : Bool) (t : ByteArray) (e : Int) (_h1 : t.size ≤ maxLen) (_g1 : (Lit.int .i64 e).wf = true) (p : Bool) (u : ByteArray) (f : Int) (_h2 : u.size ≤ maxLen) (_g2 : (Lit.int .i64 f).wf = true) :
    Calls Tryz.prog 7 #[nu m s d, nu n t e, nu p u f] w (Ret (.bool true) w) := by
  clear _h0 _h1 _h2 _g0 _g1 _g2
  obtain ⟨r, hr⟩ : ∃ r, longD 150 500 [(m, s, d), (n, t, e), (p, u, f)] = r := ⟨_, rfl⟩
  have HR := Lib.hid hr
  cases r with
  | true =>
    clear hr
    unfold nu
    go_enter Tryz.func7, Tryz.ntmps7
    go_wp2_with fail
    obtain ⟨hA, hB, hC, hb⟩ := nblk3 w m n p s t u d e f
    have hrow := NAt.new (((w.alloc (Obj.cells #[Value.bool m, Value.string s, Value.int IntKind.i64 d] 25)).alloc (Obj.cells #[Value.bool n, Value.string t, Value.int IntKind.i64 e] 25)).alloc (Obj.cells #[Value.bool p, Value.string u, Value.int IntKind.i64 f] 25)) 25 [(m, s, d), (n, t, e), (p, u, f)] #[.bool m, .string s, .int .i64 d, .bool n, .string t, .int .i64 e, .bool p, .string u, .int .i64 f] rfl
    rw [World.size_alloc, World.size_alloc, World.size_alloc] at hrow
    replace hA := hA.alloc (Obj.cells #[Value.bool m, Value.string s, Value.int IntKind.i64 d, Value.bool n, Value.string t, Value.int IntKind.i64 e, Value.bool p, Value.string u, Value.int IntKind.i64 f] 25)
    replace hB := hB.alloc (Obj.cells #[Value.bool m, Value.string s, Value.int IntKind.i64 d, Value.bool n, Value.string t, Value.int IntKind.i64 e, Value.bool p, Value.string u, Value.int IntKind.i64 f] 25)
    replace hC := hC.alloc (Obj.cells #[Value.bool m, Value.string s, Value.int IntKind.i64 d, Value.bool n, Value.string t, Value.int IntKind.i64 e, Value.bool p, Value.string u, Value.int IntKind.i64 f] 25)
    replace hb := hb.alloc hb.size (Obj.cells #[Value.bool m, Value.string s, Value.int IntKind.i64 d, Value.bool n, Value.string t, Value.int IntKind.i64 e, Value.bool p, Value.string u, Value.int IntKind.i64 f] 25)
    generalize ((((w.alloc (Obj.cells #[Value.bool m, Value.string s, Value.int IntKind.i64 d] 25)).alloc (Obj.cells #[Value.bool n, Value.string t, Value.int IntKind.i64 e] 25)).alloc (Obj.cells #[Value.bool p, Value.string u, Value.int IntKind.i64 f] 25)).alloc (Obj.cells #[Value.bool m, Value.string s, Value.int IntKind.i64 d, Value.bool n, Value.string t, Value.int IntKind.i64 e, Value.bool p, Value.string u, Value.int IntKind.i64 f] 25)) = W0 at *
    refine (longd_any _ 150 500 (by omega) _ [(m, s, d), (n, t, e), (p, u, f)] 3 3 rfl (by omega) hrow).mono ?_
    rintro e1 W ⟨rfl, hq⟩
    replace hb := below_next hb hq
    replace hA := hA.below hq
    replace hB := hB.below hq
    replace hC := hC.below hq
    clear hq hrow
    rw [HR.out]
    clear hA hB hC
    go_wp2_with fail
    refine (yawake_any _).mono ?_
    rintro e1 V ⟨rfl, hq⟩
    replace hb := below_next hb hq
    clear hq
    go_wp2
    go_ret
    exact ⟨rfl, hb⟩
  | false =>
    have hbA := longd_false hr (m, s, d) (by simp)
    have hbB := longd_false hr (n, t, e) (by simp)
    have hbC := longd_false hr (p, u, f) (by simp)
    simp only at hbA hbB hbC
    clear hr
    have hA' : Bnd (nv m s d) 275 500 := Bnd.of (B := 150) (K := 125) 500 hbA.1 (by omega) (by omega)
    have hB' : Bnd (nv n t e) 275 500 := Bnd.of (B := 150) (K := 125) 500 hbB.1 (by omega) (by omega)
    have hC' : Bnd (nv p u f) 275 500 := Bnd.of (B := 150) (K := 125) 500 hbC.1 (by omega) (by omega)
    have h7' : Bnd (nv m s (d + -1)) 276 501 := Bnd.of (B := 150) (K := 126) 501 hbA.1 (by omega) (by omega)
    have okA : Ok3 s d := by unfold Ok3; omega
    have okB : Ok3 t e := by unfold Ok3; omega
    have okC : Ok3 u f := by unfold Ok3; omega
    obtain ⟨z1, o1, e1, k1⟩ := df_some (nv m s d + nv n t e)
    obtain ⟨z2, o2, e2, k2⟩ := df_some (nv m s d * nv n t e)
    obtain ⟨z3, o3, e3, k3⟩ := df_some (nv m s d + nv n t e + nv p u f)
    obtain ⟨z4, o4, e4, k4⟩ := df_some (nv n t e + nv p u f)
    obtain ⟨z5, o5, e5, k5⟩ := df_some (nv m s d * nv n t e * nv p u f)
    obtain ⟨z6, o6, e6, k6⟩ := df_some (nv n t e * nv p u f)
    obtain ⟨z7, o7, e7, k7⟩ := df_some (nv m s (d + -1))
    obtain ⟨z8, o8, e8, k8⟩ := df_some ((nv m s d + nv n t e) * nv p u f)
    obtain ⟨z9, o9, e9, k9⟩ := df_some (nv m s d * nv p u f)
    obtain ⟨z10, o10, e10, k10⟩ := df_some (nv m s d)
    obtain ⟨z11, o11, e11, k11⟩ := df_some (nv (!m) s d)
    have ok1 : Ok3 o1 e1 := (hA'.add hB').ok (by omega) (by omega) k1
    have ok2 : Ok3 o2 e2 := (hA'.mul hB').ok (by omega) (by omega) k2
    have ok3 : Ok3 o3 e3 := ((hA'.add hB').add (hC'.mono (by omega))).ok (by omega) (by omega) k3
    have ok4 : Ok3 o4 e4 := (hB'.add hC').ok (by omega) (by omega) k4
    have ok5 : Ok3 o5 e5 := ((hA'.mul hB').mul hC').ok (by omega) (by omega) k5
    have ok6 : Ok3 o6 e6 := (hB'.mul hC').ok (by omega) (by omega) k6
    have ok7 : Ok3 o7 e7 := (h7').ok (by omega) (by omega) k7
    have ok8 : Ok3 o8 e8 := ((hA'.add hB').mul hC').ok (by omega) (by omega) k8
    have ok9 : Ok3 o9 e9 := (hA'.mul hC').ok (by omega) (by omega) k9
    have ok11 : Ok3 o11 e11 := by
      rw [← nv_neg] at k11
      exact hA'.neg.ok (by omega) (by omega) k11
    have v1 := form_nv k1
    have v2 := form_nv k2
    have v3 := form_nv k3
    have v4 := form_nv k4
    have v5 := form_nv k5
    have v6 := form_nv k6
    have v7 := form_nv k7
    have v8 := form_nv k8
    have v9 := form_nv k9
    have v10 := form_nv k10
    have v11 := form_nv k11
    have a1 : df (nv m s d + nv n t e) = nu z1 o1 e1 := by exact k1
    have a2 : df (nv m s d * nv n t e) = nu z2 o2 e2 := by exact k2
    have b1 : df (nv n t e + nv m s d) = nu z1 o1 e1 := by rw [Dyadic.add_comm]; exact k1
    have b2 : df (nv n t e * nv m s d) = nu z2 o2 e2 := by rw [Dyadic.mul_comm]; exact k2
    have b3 : df (nv z1 o1 e1 + nv p u f) = nu z3 o3 e3 := by rw [v1]; exact k3
    have b3' : df (nv m s d + nv n t e + nv p u f) = nu z3 o3 e3 := by exact k3
    have b4 : df (nv n t e + nv p u f) = nu z4 o4 e4 := by exact k4
    have b5 : df (nv m s d + nv z4 o4 e4) = nu z3 o3 e3 := by rw [v4, ← Dyadic.add_assoc]; exact k3
    have b6 : df (nv z2 o2 e2 * nv p u f) = nu z5 o5 e5 := by rw [v2]; exact k5
    have b7 : df (nv n t e * nv p u f) = nu z6 o6 e6 := by exact k6
    have b8 : df (nv m s d * nv z6 o6 e6) = nu z5 o5 e5 := by rw [v6, ← Dyadic.mul_assoc]; exact k5
    have c1 : df (nv m s (d + -1)) = nu z7 o7 e7 := by exact k7
    have c2 : df (nv z1 o1 e1 * nv p u f) = nu z8 o8 e8 := by rw [v1]; exact k8
    have c3 : df (nv m s d * nv p u f) = nu z9 o9 e9 := by exact k9
    have c4 : df (nv z9 o9 e9 + nv z6 o6 e6) = nu z8 o8 e8 := by rw [v9, v6, ← Dyadic.add_mul]; exact k8
    have c5 : df (nv z1 o1 e1 - nv n t e) = nu z10 o10 e10 := by rw [v1, add_sub_self]; exact k10
    have c6 : df (nv z7 o7 e7 + nv z7 o7 e7) = nu z10 o10 e10 := by rw [v7, half_twice]; exact k10
    have c6x : df (nv m s d) = nu z10 o10 e10 := by exact k10
    have c7 : df (nv z1 o1 e1) = nu z1 o1 e1 := by rw [v1]; exact k1
    have c8 : df (nv z2 o2 e2) = nu z2 o2 e2 := by rw [v2]; exact k2
    have c9 : df (nv (!m) s d) = nu z11 o11 e11 := by exact k11
    have c10 : df (nv m s d + nv z11 o11 e11) = nu false ⟨#[]⟩ 0 := by rw [v11, ← nv_neg, add_neg_self]; rfl
    have HK := Lib.hid (And.intro a1 (And.intro a2 (And.intro b1 (And.intro b2 (And.intro b3 (And.intro b3' (And.intro b4 (And.intro b5 (And.intro b6 (And.intro b7 (And.intro b8 (And.intro c1 (And.intro c2 (And.intro c3 (And.intro c4 (And.intro c5 (And.intro c6 (And.intro c6x (And.intro c7 (And.intro c8 (And.intro c9 c10)))))))))))))))))))))
    have HO := Lib.hid (And.intro okA (And.intro okB (And.intro okC (And.intro ok1 (And.intro ok2 (And.intro ok4 (And.intro ok5 (And.intro ok6 (And.intro ok7 (And.intro ok9 ok11))))))))))
    clear a1 a2 b1 b2 b3 b3' b4 b5 b6 b7 b8 c1 c2 c3 c4 c5 c6 c6x c7 c8 c9 c10 okA okB okC ok1 ok2 ok4 ok5 ok6 ok7 ok9 ok11 ok3 ok8 k1 k2 k3 k4 k5 k6 k7 k8 k9 k10 k11 v1 v2 v3 v4 v5 v6 v7 v8 v9 v10 v11 hA' hB' hC' h7' hbB hbC
    unfold nu
    go_enter Tryz.func7, Tryz.ntmps7
    go_wp2_with fail
    obtain ⟨hA, hB, hC, hb⟩ := nblk3 w m n p s t u d e f
    have hrow := NAt.new (((w.alloc (Obj.cells #[Value.bool m, Value.string s, Value.int IntKind.i64 d] 25)).alloc (Obj.cells #[Value.bool n, Value.string t, Value.int IntKind.i64 e] 25)).alloc (Obj.cells #[Value.bool p, Value.string u, Value.int IntKind.i64 f] 25)) 25 [(m, s, d), (n, t, e), (p, u, f)] #[.bool m, .string s, .int .i64 d, .bool n, .string t, .int .i64 e, .bool p, .string u, .int .i64 f] rfl
    rw [World.size_alloc, World.size_alloc, World.size_alloc] at hrow
    replace hA := hA.alloc (Obj.cells #[Value.bool m, Value.string s, Value.int IntKind.i64 d, Value.bool n, Value.string t, Value.int IntKind.i64 e, Value.bool p, Value.string u, Value.int IntKind.i64 f] 25)
    replace hB := hB.alloc (Obj.cells #[Value.bool m, Value.string s, Value.int IntKind.i64 d, Value.bool n, Value.string t, Value.int IntKind.i64 e, Value.bool p, Value.string u, Value.int IntKind.i64 f] 25)
    replace hC := hC.alloc (Obj.cells #[Value.bool m, Value.string s, Value.int IntKind.i64 d, Value.bool n, Value.string t, Value.int IntKind.i64 e, Value.bool p, Value.string u, Value.int IntKind.i64 f] 25)
    replace hb := hb.alloc hb.size (Obj.cells #[Value.bool m, Value.string s, Value.int IntKind.i64 d, Value.bool n, Value.string t, Value.int IntKind.i64 e, Value.bool p, Value.string u, Value.int IntKind.i64 f] 25)
    generalize ((((w.alloc (Obj.cells #[Value.bool m, Value.string s, Value.int IntKind.i64 d] 25)).alloc (Obj.cells #[Value.bool n, Value.string t, Value.int IntKind.i64 e] 25)).alloc (Obj.cells #[Value.bool p, Value.string u, Value.int IntKind.i64 f] 25)).alloc (Obj.cells #[Value.bool m, Value.string s, Value.int IntKind.i64 d, Value.bool n, Value.string t, Value.int IntKind.i64 e, Value.bool p, Value.string u, Value.int IntKind.i64 f] 25)) = W0 at *
    refine (longd_any _ 150 500 (by omega) _ [(m, s, d), (n, t, e), (p, u, f)] 3 3 rfl (by omega) hrow).mono ?_
    rintro e1 W ⟨rfl, hq⟩
    replace hb := below_next hb hq
    replace hA := hA.below hq
    replace hB := hB.below hq
    replace hC := hC.below hq
    clear hq hrow
    rw [HR.out]
    obtain ⟨hA0, hA1, hA2⟩ := hA.cells
    obtain ⟨hB0, hB1, hB2⟩ := hB.cells
    obtain ⟨hC0, hC1, hC2⟩ := hC.cells
    go_wp2_with fail
    refine region_segs (n := 12) #[false, false, false, false, false, false, false, false, false, false, false, false] (by kernel_rfl) (by kernel_rfl) (by kernel_rfl) ?_
    intro fu hf
    refine lin_seg 12 [0, 1, 2, 3, 4, 5, 6, 7, 8, 9, 10, 11] 11 (fun L ac Wn => ∃ l0 l1 l2 l3 l4 l5 l6 l7 l8 l9 l10 : Bool, L = #[l0, l1, l2, l3, l4, l5, l6, l7, l8, l9, l10, false] ∧ ∃ p7 p8 g18 g22 : Nat, ac = { tmps := #[.agg #[.bool m, .string s, .int .i64 d], .agg #[.bool n, .string t, .int .i64 e], .agg #[.bool p, .string u, .int .i64 f], .pointer (some ⟨w.heap.size, 0, none⟩), .pointer (some ⟨w.heap.size + 1, 0, none⟩), .pointer (some ⟨w.heap.size + 1 + 1, 0, none⟩), .bool false, sel l8 (.pointer (some ⟨p7, 0, none⟩)) (undef), sel l9 (.pointer (some ⟨p8, 0, none⟩)) (undef), undef, .agg #[.bool m, .string s, .int .i64 d], .agg #[.bool n, .string t, .int .i64 e], .agg #[.bool p, .string u, .int .i64 f], .slice (some ⟨w.heap.size + 1 + 1 + 1, 0, none⟩) 3 3, .bool false, undef, sel l0 (.agg #[.bool m, .string s, .int .i64 d]) (undef), sel l1 (.agg #[.bool n, .string t, .int .i64 e]) (undef), sel l2 (.slice (some ⟨g18, 0, none⟩) 2 2) (undef), sel l3 (.agg #[.bool z1, .string o1, .int .i64 e1]) (undef), sel l4 (.agg #[.bool m, .string s, .int .i64 d]) (undef), sel l5 (.agg #[.bool n, .string t, .int .i64 e]) (undef), sel l6 (.slice (some ⟨g22, 0, none⟩) 2 2) (undef), sel l7 (.agg #[.bool z2, .string o2, .int .i64 e2]) (undef), undef, undef, undef, undef, undef, undef, undef, undef, undef, undef, undef, undef, undef, undef, undef, undef, undef, undef, undef, undef, undef, undef, undef, undef, undef, undef, undef, undef, undef, undef, undef, undef, undef, undef, undef, undef, undef, undef, undef, undef, undef, undef, undef, undef, undef, undef, undef, undef, undef, undef, undef, undef, undef, undef, undef, undef, undef, undef, undef, undef, undef, undef, undef, undef, undef, undef, undef, undef, undef, undef, undef, undef, undef, undef, undef, undef, undef, undef, undef, undef, undef, undef, undef, undef, undef, undef, undef, undef, undef, undef, undef, undef, undef, undef, undef, undef, undef, undef, undef, undef, undef, undef, undef, undef, undef, undef, undef, undef, undef, undef, undef, undef], defers := [] } ∧ Below (w.heap.size) w Wn ∧ (Nk Wn (w.heap.size) m s d) ∧ (Nk Wn (w.heap.size + 1) n t e) ∧ (Nk Wn (w.heap.size + 1 + 1) p u f) ∧ (On l8 → Off l10 → Nk Wn p7 false ⟨#[]⟩ 0) ∧ (On l10 → Nk Wn p7 z1 o1 e1) ∧ (On l9 → Nk Wn p8 false ⟨#[]⟩ 0) ∧ (On l2 → Off l3 → NAt Wn (some ⟨g18, 0, none⟩) [(m, s, d), (n, t, e)]) ∧ (On l6 → Off l7 → NAt Wn (some ⟨g22, 0, none⟩) [(m, s, d), (n, t, e)]) ∧ (On l8 → w.heap.size ≤ p7) ∧ (On l9 → w.heap.size ≤ p8) ∧ (On l8 → w.heap.size ≠ p7) ∧ (On l8 → w.heap.size + 1 ≠ p7) ∧ (On l8 → w.heap.size + 1 + 1 ≠ p7) ∧ (On l8 → On l9 → p8 ≠ p7) ∧ (On l9 → w.heap.size ≠ p8) ∧ (On l9 → w.heap.size + 1 ≠ p8) ∧ (On l9 → w.heap.size + 1 + 1 ≠ p8)) (by kernel_rfl) (by kernel_rfl) (by kernel_rfl) (by kernel_rfl) hf ?_ ?_ ?_ (by kernel_rfl) ?_ (by decide)
    · exact ⟨false, false, false, false, false, false, false, false, false, false, false, by kernel_rfl, 0, 0, 0, 0, by kernel_rfl, hb.drew, hA.drew, hB.drew, hC.drew, (fun h _ => not_ft h), (fun h => not_ft h), (fun h => not_ft h), (fun h _ => not_ft h), (fun h _ => not_ft h), (fun h => not_ft h), (fun h => not_ft h), (fun h => not_ft h), (fun h => not_ft h), (fun h => not_ft h), (fun h _ => not_ft h), (fun h => not_ft h), (fun h => not_ft h), (fun h => not_ft h)⟩
    · rintro L ac Wn ⟨l0, l1, l2, l3, l4, l5, l6, l7, l8, l9, l10, rfl, _⟩
      kernel_rfl
    · refine (seg_all (b := 11) [0, 1, 2, 3, 4, 5, 6, 7, 8, 9, 10] ?_ : ∀ j ∈ [0, 1, 2, 3, 4, 5, 6, 7, 8, 9, 10, 11], j ≠ 11 → _)
      refine lin_cons [] [2, 3, 7, 10] rfl (by kernel_rfl) (by kernel_rfl) ?_ ?_
      · intro L ac Wn hI hi hds hus Kc hK
        obtain ⟨l0, l1, l2, l3, l4, l5, l6, l7, l8, l9, l10, rfl, hI⟩ := hI
        obtain rfl : l0 = false := hi
        obtain ⟨rfl, rfl, rfl, rfl, -⟩ : l2 = false ∧ l3 = false ∧ l7 = false ∧ l10 = false ∧ True := hus
        simp only [sel_f] at hI
        obtain ⟨p7, p8, g18, g22, rfl, hb, hA, hB, hC, hZ, hZ', hY, hW2, hW6, dZ, dY, nZA, nZB, nZC, nZY, nYA, nYB, nYC⟩ := hI
        obtain ⟨q0, q1, q2, q3, q4, q5⟩ := (hA).facts
        refine lin_yield (.agg #[.bool m, .string s, .int .i64 d]) rfl (by go_simp; first | done | with_reducible rfl) ?_
        exact hK.out _ _ ⟨true, l1, false, false, l4, l5, l6, false, l8, l9, false, by kernel_rfl, p7, p8, g18, g22, by kernel_rfl, hb, (hA), (hB), (hC), (fun z0 z1 => (hZ z0 z1)), (fun h => not_ft h), (fun z0 => (hY z0)), (fun h _ => not_ft h), (fun z0 z1 => (hW6 z0 z1)), (fun z0 => (dZ z0)), (fun z0 => (dY z0)), (fun z0 => (nZA z0)), (fun z0 => (nZB z0)), (fun z0 => (nZC z0)), (fun z0 z1 => (nZY z0 z1)), (fun z0 => (nYA z0)), (fun z0 => (nYB z0)), (fun z0 => (nYC z0))⟩
      refine lin_cons [] [2, 3, 7, 10] rfl (by kernel_rfl) (by kernel_rfl) ?_ ?_
      · intro L ac Wn hI hi hds hus Kc hK
        obtain ⟨l0, l1, l2, l3, l4, l5, l6, l7, l8, l9, l10, rfl, hI⟩ := hI
        obtain rfl : l1 = false := hi
        obtain ⟨rfl, rfl, rfl, rfl, -⟩ : l2 = false ∧ l3 = false ∧ l7 = false ∧ l10 = false ∧ True := hus
        simp only [sel_f] at hI
        obtain ⟨p7, p8, g18, g22, rfl, hb, hA, hB, hC, hZ, hZ', hY, hW2, hW6, dZ, dY, nZA, nZB, nZC, nZY, nYA, nYB, nYC⟩ := hI
        obtain ⟨q0, q1, q2, q3, q4, q5⟩ := (hB).facts
        refine lin_yield (.agg #[.bool n, .string t, .int .i64 e]) rfl (by go_simp; first | done | with_reducible rfl) ?_
        exact hK.out _ _ ⟨l0, true, false, false, l4, l5, l6, false, l8, l9, false, by kernel_rfl, p7, p8, g18, g22, by kernel_rfl, hb, (hA), (hB), (hC), (fun z0 z1 => (hZ z0 z1)), (fun h => not_ft h), (fun z0 => (hY z0)), (fun h _ => not_ft h), (fun z0 z1 => (hW6 z0 z1)), (fun z0 => (dZ z0)), (fun z0 => (dY z0)), (fun z0 => (nZA z0)), (fun z0 => (nZB z0)), (fun z0 => (nZC z0)), (fun z0 z1 => (nZY z0 z1)), (fun z0 => (nYA z0)), (fun z0 => (nYB z0)), (fun z0 => (nYC z0))⟩
      refine lin_cons [0, 1] [3, 7, 10] rfl (by kernel_rfl) (by kernel_rfl) ?_ ?_
      · intro L ac Wn hI hi hds hus Kc hK
        obtain ⟨l0, l1, l2, l3, l4, l5, l6, l7, l8, l9, l10, rfl, hI⟩ := hI
        obtain rfl : l2 = false := hi
        obtain ⟨rfl, rfl, -⟩ : l0 = true ∧ l1 = true ∧ True := hds
        obtain ⟨rfl, rfl, rfl, -⟩ : l3 = false ∧ l7 = false ∧ l10 = false ∧ True := hus
        simp only [sel_t, sel_f] at hI
        obtain ⟨p7, p8, g18, g22, rfl, hb, hA, hB, hC, hZ, hZ', hY, hW2, hW6, dZ, dY, nZA, nZB, nZC, nZY, nYA, nYB, nYC⟩ := hI
        go_simp
        exact hK.out _ _ ⟨true, true, true, false, l4, l5, l6, false, l8, l9, false, by kernel_rfl, p7, p8, _, g22, by kernel_rfl, (hb.alloc hb.size _), (hA.alloc _), (hB.alloc _), (hC.alloc _), (fun z0 z1 => (hZ z0 z1).alloc _), (fun h => not_ft h), (fun z0 => (hY z0).alloc _), (fun _ _ => NAt.new _ _ _ _ rfl), (fun z0 z1 => (hW6 z0 z1).alloc _), (fun z0 => (dZ z0)), (fun z0 => (dY z0)), (fun z0 => (nZA z0)), (fun z0 => (nZB z0)), (fun z0 => (nZC z0)), (fun z0 z1 => (nZY z0 z1)), (fun z0 => (nYA z0)), (fun z0 => (nYB z0)), (fun z0 => (nYC z0))⟩
      refine lin_cons [0, 1, 2] [7, 10] rfl (by kernel_rfl) (by kernel_rfl) ?_ ?_
      · intro L ac Wn hI hi hds hus Kc hK
        obtain ⟨l0, l1, l2, l3, l4, l5, l6, l7, l8, l9, l10, rfl, hI⟩ := hI
        obtain rfl : l3 = false := hi
        obtain ⟨rfl, rfl, rfl, -⟩ : l0 = true ∧ l1 = true ∧ l2 = true ∧ True := hds
        obtain ⟨rfl, rfl, -⟩ : l7 = false ∧ l10 = false ∧ True := hus
        simp only [sel_t, sel_f] at hI
        obtain ⟨p7, p8, g18, g22, rfl, hb, hA, hB, hC, hZ, hZ', hY, hW2, hW6, dZ, dY, nZA, nZB, nZC, nZY, nYA, nYB, nYC⟩ := hI
        go_simp
        go_fit (use_yadd2 HO.out.1 HO.out.2.1 (hW2 rfl rfl) HK.out.1)
        rintro e V ⟨rfl, hq⟩
        exact hK.out _ _ ⟨true, true, true, true, l4, l5, l6, false, l8, l9, false, by kernel_rfl, p7, p8, g18, g22, by kernel_rfl, (below_next hb hq), (hA.below hq), (hB.below hq), (hC.below hq), (fun z0 z1 => (hZ z0 z1).below hq), (fun h => not_ft h), (fun z0 => (hY z0).below hq), (fun _ h => not_tf h), (fun z0 z1 => (hW6 z0 z1).below hq), (fun z0 => (dZ z0)), (fun z0 => (dY z0)), (fun z0 => (nZA z0)), (fun z0 => (nZB z0)), (fun z0 => (nZC z0)), (fun z0 z1 => (nZY z0 z1)), (fun z0 => (nYA z0)), (fun z0 => (nYB z0)), (fun z0 => (nYC z0))⟩
      refine lin_cons [] [6, 7, 10] rfl (by kernel_rfl) (by kernel_rfl) ?_ ?_
      · intro L ac Wn hI hi hds hus Kc hK
        obtain ⟨l0, l1, l2, l3, l4, l5, l6, l7, l8, l9, l10, rfl, hI⟩ := hI
        obtain rfl : l4 = false := hi
        obtain ⟨rfl, rfl, rfl, -⟩ : l6 = false ∧ l7 = false ∧ l10 = false ∧ True := hus
        simp only [sel_f] at hI
        obtain ⟨p7, p8, g18, g22, rfl, hb, hA, hB, hC, hZ, hZ', hY, hW2, hW6, dZ, dY, nZA, nZB, nZC, nZY, nYA, nYB, nYC⟩ := hI
        obtain ⟨q0, q1, q2, q3, q4, q5⟩ := (hA).facts
        refine lin_yield (.agg #[.bool m, .string s, .int .i64 d]) rfl (by go_simp; first | done | with_reducible rfl) ?_
        exact hK.out _ _ ⟨l0, l1, l2, l3, true, l5, false, false, l8, l9, false, by kernel_rfl, p7, p8, g18, g22, by kernel_rfl, hb, (hA), (hB), (hC), (fun z0 z1 => (hZ z0 z1)), (fun h => not_ft h), (fun z0 => (hY z0)), (fun z0 z1 => (hW2 z0 z1)), (fun h _ => not_ft h), (fun z0 => (dZ z0)), (fun z0 => (dY z0)), (fun z0 => (nZA z0)), (fun z0 => (nZB z0)), (fun z0 => (nZC z0)), (fun z0 z1 => (nZY z0 z1)), (fun z0 => (nYA z0)), (fun z0 => (nYB z0)), (fun z0 => (nYC z0))⟩
      refine lin_cons [] [6, 7, 10] rfl (by kernel_rfl) (by kernel_rfl) ?_ ?_
      · intro L ac Wn hI hi hds hus Kc hK
        obtain ⟨l0, l1, l2, l3, l4, l5, l6, l7, l8, l9, l10, rfl, hI⟩ := hI
        obtain rfl : l5 = false := hi
        obtain ⟨rfl, rfl, rfl, -⟩ : l6 = false ∧ l7 = false ∧ l10 = false ∧ True := hus
        simp only [sel_f] at hI
        obtain ⟨p7, p8, g18, g22, rfl, hb, hA, hB, hC, hZ, hZ', hY, hW2, hW6, dZ, dY, nZA, nZB, nZC, nZY, nYA, nYB, nYC⟩ := hI
        obtain ⟨q0, q1, q2, q3, q4, q5⟩ := (hB).facts
        refine lin_yield (.agg #[.bool n, .string t, .int .i64 e]) rfl (by go_simp; first | done | with_reducible rfl) ?_
        exact hK.out _ _ ⟨l0, l1, l2, l3, l4, true, false, false, l8, l9, false, by kernel_rfl, p7, p8, g18, g22, by kernel_rfl, hb, (hA), (hB), (hC), (fun z0 z1 => (hZ z0 z1)), (fun h => not_ft h), (fun z0 => (hY z0)), (fun z0 z1 => (hW2 z0 z1)), (fun h _ => not_ft h), (fun z0 => (dZ z0)), (fun z0 => (dY z0)), (fun z0 => (nZA z0)), (fun z0 => (nZB z0)), (fun z0 => (nZC z0)), (fun z0 z1 => (nZY z0 z1)), (fun z0 => (nYA z0)), (fun z0 => (nYB z0)), (fun z0 => (nYC z0))⟩
      refine lin_cons [4, 5] [7, 10] rfl (by kernel_rfl) (by kernel_rfl) ?_ ?_
      · intro L ac Wn hI hi hds hus Kc hK
        obtain ⟨l0, l1, l2, l3, l4, l5, l6, l7, l8, l9, l10, rfl, hI⟩ := hI
        obtain rfl : l6 = false := hi
        obtain ⟨rfl, rfl, -⟩ : l4 = true ∧ l5 = true ∧ True := hds
        obtain ⟨rfl, rfl, -⟩ : l7 = false ∧ l10 = false ∧ True := hus
        simp only [sel_t, sel_f] at hI
        obtain ⟨p7, p8, g18, g22, rfl, hb, hA, hB, hC, hZ, hZ', hY, hW2, hW6, dZ, dY, nZA, nZB, nZC, nZY, nYA, nYB, nYC⟩ := hI
        go_simp
        exact hK.out _ _ ⟨l0, l1, l2, l3, true, true, true, false, l8, l9, false, by kernel_rfl, p7, p8, g18, _, by kernel_rfl, (hb.alloc hb.size _), (hA.alloc _), (hB.alloc _), (hC.alloc _), (fun z0 z1 => (hZ z0 z1).alloc _), (fun h => not_ft h), (fun z0 => (hY z0).alloc _), (fun z0 z1 => (hW2 z0 z1).alloc _), (fun _ _ => NAt.new _ _ _ _ rfl), (fun z0 => (dZ z0)), (fun z0 => (dY z0)), (fun z0 => (nZA z0)), (fun z0 => (nZB z0)), (fun z0 => (nZC z0)), (fun z0 z1 => (nZY z0 z1)), (fun z0 => (nYA z0)), (fun z0 => (nYB z0)), (fun z0 => (nYC z0))⟩
      refine lin_cons [0, 1, 2, 3, 4, 5, 6] [10] rfl (by kernel_rfl) (by kernel_rfl) ?_ ?_
      · intro L ac Wn hI hi hds hus Kc hK
        obtain ⟨l0, l1, l2, l3, l4, l5, l6, l7, l8, l9, l10, rfl, hI⟩ := hI
        obtain rfl : l7 = false := hi
        obtain ⟨rfl, rfl, rfl, rfl, rfl, rfl, rfl, -⟩ : l0 = true ∧ l1 = true ∧ l2 = true ∧ l3 = true ∧ l4 = true ∧ l5 = true ∧ l6 = true ∧ True := hds
        obtain ⟨rfl, -⟩ : l10 = false ∧ True := hus
        simp only [sel_t, sel_f] at hI
        obtain ⟨p7, p8, g18, g22, rfl, hb, hA, hB, hC, hZ, hZ', hY, hW2, hW6, dZ, dY, nZA, nZB, nZC, nZY, nYA, nYB, nYC⟩ := hI
        go_simp
        go_fit (use_ymul2 HO.out.1 HO.out.2.1 (hW6 rfl rfl) HK.out.2.1)
        rintro e V ⟨rfl, hq⟩
        exact hK.out _ _ ⟨true, true, true, true, true, true, true, true, l8, l9, false, by kernel_rfl, p7, p8, g18, g22, by kernel_rfl, (below_next hb hq), (hA.below hq), (hB.below hq), (hC.below hq), (fun z0 z1 => (hZ z0 z1).below hq), (fun h => not_ft h), (fun z0 => (hY z0).below hq), (fun _ h => not_tf h), (fun _ h => not_tf h), (fun z0 => (dZ z0)), (fun z0 => (dY z0)), (fun z0 => (nZA z0)), (fun z0 => (nZB z0)), (fun z0 => (nZC z0)), (fun z0 z1 => (nZY z0 z1)), (fun z0 => (nYA z0)), (fun z0 => (nYB z0)), (fun z0 => (nYC z0))⟩
      refine lin_cons [] [10] rfl (by kernel_rfl) (by kernel_rfl) ?_ ?_
      · intro L ac Wn hI hi hds hus Kc hK
        obtain ⟨l0, l1, l2, l3, l4, l5, l6, l7, l8, l9, l10, rfl, hI⟩ := hI
        obtain rfl : l8 = false := hi
        obtain ⟨rfl, -⟩ : l10 = false ∧ True := hus
        simp only [sel_f] at hI
        obtain ⟨p7, p8, g18, g22, rfl, hb, hA, hB, hC, hZ, hZ', hY, hW2, hW6, dZ, dY, nZA, nZB, nZC, nZY, nYA, nYB, nYC⟩ := hI
        go_simp
        exact hK.out _ _ ⟨l0, l1, l2, l3, l4, l5, l6, l7, true, l9, false, by kernel_rfl, _, p8, g18, g22, by kernel_rfl, (hb.alloc hb.size _), (hA.alloc _), (hB.alloc _), (hC.alloc _), (fun z0 z1 => Nk.new _ _ _ _), (fun h => not_ft h), (fun z0 => (hY z0).alloc _), (fun z0 z1 => (hW2 z0 z1).alloc _), (fun z0 z1 => (hW6 z0 z1).alloc _), (fun z0 => hb.size), (fun z0 => (dY z0)), (fun z0 => Nat.ne_of_lt ((hA).lt)), (fun z0 => Nat.ne_of_lt ((hB).lt)), (fun z0 => Nat.ne_of_lt ((hC).lt)), (fun z0 z1 => Nat.ne_of_lt ((hY z1).lt)), (fun z0 => (nYA z0)), (fun z0 => (nYB z0)), (fun z0 => (nYC z0))⟩
      refine lin_cons [] [10] rfl (by kernel_rfl) (by kernel_rfl) ?_ ?_
      · intro L ac Wn hI hi hds hus Kc hK
        obtain ⟨l0, l1, l2, l3, l4, l5, l6, l7, l8, l9, l10, rfl, hI⟩ := hI
        obtain rfl : l9 = false := hi
        obtain ⟨rfl, -⟩ : l10 = false ∧ True := hus
        simp only [sel_f] at hI
        obtain ⟨p7, p8, g18, g22, rfl, hb, hA, hB, hC, hZ, hZ', hY, hW2, hW6, dZ, dY, nZA, nZB, nZC, nZY, nYA, nYB, nYC⟩ := hI
        go_simp
        exact hK.out _ _ ⟨l0, l1, l2, l3, l4, l5, l6, l7, l8, true, false, by kernel_rfl, p7, _, g18, g22, by kernel_rfl, (hb.alloc hb.size _), (hA.alloc _), (hB.alloc _), (hC.alloc _), (fun z0 z1 => (hZ z0 z1).alloc _), (fun h => not_ft h), (fun z0 => Nk.new _ _ _ _), (fun z0 z1 => (hW2 z0 z1).alloc _), (fun z0 z1 => (hW6 z0 z1).alloc _), (fun z0 => (dZ z0)), (fun z0 => hb.size), (fun z0 => (nZA z0)), (fun z0 => (nZB z0)), (fun z0 => (nZC z0)), (fun z0 z1 => Nat.ne_of_gt ((hZ z0 rfl).lt)), (fun z0 => Nat.ne_of_lt ((hA).lt)), (fun z0 => Nat.ne_of_lt ((hB).lt)), (fun z0 => Nat.ne_of_lt ((hC).lt))⟩
      refine lin_cons [0, 1, 2, 3, 4, 5, 6, 7, 8, 9] [] rfl (by kernel_rfl) (by kernel_rfl) ?_ lin_nil
      intro L ac Wn hI hi hds hus Kc hK
      obtain ⟨l0, l1, l2, l3, l4, l5, l6, l7, l8, l9, l10, rfl, hI⟩ := hI
      obtain rfl : l10 = false := hi
      obtain ⟨rfl, rfl, rfl, rfl, rfl, rfl, rfl, rfl, rfl, rfl, -⟩ : l0 = true ∧ l1 = true ∧ l2 = true ∧ l3 = true ∧ l4 = true ∧ l5 = true ∧ l6 = true ∧ l7 = true ∧ l8 = true ∧ l9 = true ∧ True := hds
      simp only [sel_t] at hI
      obtain ⟨p7, p8, g18, g22, rfl, hb, hA, hB, hC, hZ, hZ', hY, hW2, hW6, dZ, dY, nZA, nZB, nZC, nZY, nYA, nYB, nYC⟩ := hI
      obtain ⟨q0, q1, q2, q3, q4, q5⟩ := (hZ rfl rfl).facts
      have edZ := dZ rfl
      have edY := dY rfl
      have enZA := nZA rfl
      have enZB := nZB rfl
      have enZC := nZC rfl
      have enZY := nZY rfl rfl
      have enYA := nYA rfl
      have enYB := nYB rfl
      have enYC := nYC rfl
      go_simp
      exact hK.out _ _ ⟨true, true, true, true, true, true, true, true, true, true, true, by kernel_rfl, p7, p8, g18, g22, by kernel_rfl, (((hb.setCell (p := ⟨p7, 0, none⟩) (by show w.heap.size ≤ p7; omega) (.bool z1)).setCell (p := ⟨p7, 1, none⟩) (by show w.heap.size ≤ p7; omega) (.string o1)).setCell (p := ⟨p7, 2, none⟩) (by show w.heap.size ≤ p7; omega) (.int .i64 e1)), ((((hA).far (p := ⟨p7, 0, none⟩) (by show w.heap.size ≠ p7; omega) (.bool z1)).far (p := ⟨p7, 1, none⟩) (by show w.heap.size ≠ p7; omega) (.string o1)).far (p := ⟨p7, 2, none⟩) (by show w.heap.size ≠ p7; omega) (.int .i64 e1)), ((((hB).far (p := ⟨p7, 0, none⟩) (by show w.heap.size + 1 ≠ p7; omega) (.bool z1)).far (p := ⟨p7, 1, none⟩) (by show w.heap.size + 1 ≠ p7; omega) (.string o1)).far (p := ⟨p7, 2, none⟩) (by show w.heap.size + 1 ≠ p7; omega) (.int .i64 e1)), ((((hC).far (p := ⟨p7, 0, none⟩) (by show w.heap.size + 1 + 1 ≠ p7; omega) (.bool z1)).far (p := ⟨p7, 1, none⟩) (by show w.heap.size + 1 + 1 ≠ p7; omega) (.string o1)).far (p := ⟨p7, 2, none⟩) (by show w.heap.size + 1 + 1 ≠ p7; omega) (.int .i64 e1)), (fun _ h => not_tf h), (fun _ => (hZ rfl rfl).set3 (z1) (o1) (e1)), (fun z0 => ((((hY z0)).far (p := ⟨p7, 0, none⟩) (by show p8 ≠ p7; omega) (.bool z1)).far (p := ⟨p7, 1, none⟩) (by show p8 ≠ p7; omega) (.string o1)).far (p := ⟨p7, 2, none⟩) (by show p8 ≠ p7; omega) (.int .i64 e1)), (fun _ h => not_tf h), (fun _ h => not_tf h), (fun z0 => (dZ z0)), (fun z0 => (dY z0)), (fun z0 => (nZA z0)), (fun z0 => (nZB z0)), (fun z0 => (nZC z0)), (fun z0 z1 => (nZY z0 z1)), (fun z0 => (nYA z0)), (fun z0 => (nYB z0)), (fun z0 => (nYC z0))⟩
    refine bar_of [0, 1, 2, 3, 4, 5, 6, 7, 8, 9, 10] rfl (by kernel_rfl) ?_
    intro L ac Wn hI hds Kc hK
    obtain ⟨l0, l1, l2, l3, l4, l5, l6, l7, l8, l9, l10, rfl, hI⟩ := hI
    obtain ⟨rfl, rfl, rfl, rfl, rfl, rfl, rfl, rfl, rfl, rfl, rfl, -⟩ : l0 = true ∧ l1 = true ∧ l2 = true ∧ l3 = true ∧ l4 = true ∧ l5 = true ∧ l6 = true ∧ l7 = true ∧ l8 = true ∧ l9 = true ∧ l10 = true ∧ True := hds
    simp only [sel_t] at hI
    obtain ⟨p7, p8, g18, g22, rfl, hb, hA, hB, hC, hZ, hZ', hY, hW2, hW6, dZ, dY, nZA, nZB, nZC, nZY, nYA, nYB, nYC⟩ := hI
    clear hZ
    replace hZ' := hZ' rfl
    replace hY := hY rfl
    clear hW2
    clear hW6
    replace dZ := dZ rfl
    replace dY := dY rfl
    replace nZA := nZA rfl
    replace nZB := nZB rfl
    replace nZC := nZC rfl
    replace nZY := nZY rfl rfl
    replace nYA := nYA rfl
    replace nYB := nYB rfl
    replace nYC := nYC rfl
    have hZ := hZ'
    clear hZ'
    obtain ⟨q0, q1, q2, q3, q4, q5⟩ := (hY).facts
    go_simp
    replace hA := (((hA).far (p := ⟨p8, 0, none⟩) (by show w.heap.size ≠ p8; omega) (.bool z2)).far (p := ⟨p8, 1, none⟩) (by show w.heap.size ≠ p8; omega) (.string o2)).far (p := ⟨p8, 2, none⟩) (by show w.heap.size ≠ p8; omega) (.int .i64 e2)
    replace hB := (((hB).far (p := ⟨p8, 0, none⟩) (by show w.heap.size + 1 ≠ p8; omega) (.bool z2)).far (p := ⟨p8, 1, none⟩) (by show w.heap.size + 1 ≠ p8; omega) (.string o2)).far (p := ⟨p8, 2, none⟩) (by show w.heap.size + 1 ≠ p8; omega) (.int .i64 e2)
    replace hC := (((hC).far (p := ⟨p8, 0, none⟩) (by show w.heap.size + 1 + 1 ≠ p8; omega) (.bool z2)).far (p := ⟨p8, 1, none⟩) (by show w.heap.size + 1 + 1 ≠ p8; omega) (.string o2)).far (p := ⟨p8, 2, none⟩) (by show w.heap.size + 1 + 1 ≠ p8; omega) (.int .i64 e2)
    replace hZ := (((hZ).far (p := ⟨p8, 0, none⟩) (by show p7 ≠ p8; omega) (.bool z2)).far (p := ⟨p8, 1, none⟩) (by show p7 ≠ p8; omega) (.string o2)).far (p := ⟨p8, 2, none⟩) (by show p7 ≠ p8; omega) (.int .i64 e2)
    replace hY := (hY).set3 (z2) (o2) (e2)
    replace hb := (((hb.setCell (p := ⟨p8, 0, none⟩) (by show w.heap.size ≤ p8; omega) (.bool z2)).setCell (p := ⟨p8, 1, none⟩) (by show w.heap.size ≤ p8; omega) (.string o2)).setCell (p := ⟨p8, 2, none⟩) (by show w.heap.size ≤ p8; omega) (.int .i64 e2))
    refine hK.out _ _ (fun fu hf => wpAnyH_done (by kernel_rfl) ?_ _)
    clear hK Kc hf
    generalize (((Wn.setCell ⟨p8, 0, none⟩ (.bool z2)).setCell ⟨p8, 1, none⟩ (.string o2)).setCell ⟨p8, 2, none⟩ (.int .i64 e2)) = W1 at *
    clear q0 q1 q2 q3 q4 q5
    obtain ⟨hA0, hA1, hA2⟩ := hA.cells
    obtain ⟨hB0, hB1, hB2⟩ := hB.cells
    obtain ⟨hC0, hC1, hC2⟩ := hC.cells
    obtain ⟨hZ0, hZ1, hZ2⟩ := hZ.cells
    obtain ⟨hY0, hY1, hY2⟩ := hY.cells
    go_wp2_with fail
    refine region_segs (n := 54) #[false, false, false, false, false, false, false, false, false, false, false, false, false, false, false, false, false, false, false, false, false, false, false, false, false, false, false, false, false, false, false, false, false, false, false, false, false, false, false, false, false, false, false, false, false, false, false, false, false, false, false, false, false, false] (by kernel_rfl) (by kernel_rfl) (by kernel_rfl) ?_
    intro fu hf
    refine lin_seg 54 [0, 1, 2, 3, 4, 5, 6] 6 (fun L ac Wn => ∃ l0 l1 l2 l3 l4 l5 : Bool, L = #[l0, l1, l2, l3, l4, l5, false, false, false, false, false, false, false, false, false, false, false, false, false, false, false, false, false, false, false, false, false, false, false, false, false, false, false, false, false, false, false, false, false, false, false, false, false, false, false, false, false, false, false, false, false, false, false, false] ∧ ∃ g27 : Nat, ac = { tmps := #[.agg #[.bool m, .string s, .int .i64 d], .agg #[.bool n, .string t, .int .i64 e], .agg #[.bool p, .string u, .int .i64 f], .pointer (some ⟨w.heap.size, 0, none⟩), .pointer (some ⟨w.heap.size + 1, 0, none⟩), .pointer (some ⟨w.heap.size + 1 + 1, 0, none⟩), .bool false, .pointer (some ⟨p7, 0, none⟩), .pointer (some ⟨p8, 0, none⟩), undef, .agg #[.bool m, .string s, .int .i64 d], .agg #[.bool n, .string t, .int .i64 e], .agg #[.bool p, .string u, .int .i64 f], .slice (some ⟨w.heap.size + 1 + 1 + 1, 0, none⟩) 3 3, .bool false, undef, .agg #[.bool m, .string s, .int .i64 d], .agg #[.bool n, .string t, .int .i64 e], .slice (some ⟨g18, 0, none⟩) 2 2, .agg #[.bool z1, .string o1, .int .i64 e1], .agg #[.bool m, .string s, .int .i64 d], .agg #[.bool n, .string t, .int .i64 e], .slice (some ⟨g22, 0, none⟩) 2 2, .agg #[.bool z2, .string o2, .int .i64 e2], sel l0 (.agg #[.bool z1, .string o1, .int .i64 e1]) (undef), sel l1 (.agg #[.bool n, .string t, .int .i64 e]) (undef), sel l2 (.agg #[.bool m, .string s, .int .i64 d]) (undef), sel l3 (.slice (some ⟨g27, 0, none⟩) 2 2) (undef), sel l4 (.agg #[.bool z1, .string o1, .int .i64 e1]) (undef), sel l5 (.bool false) (undef), undef, undef, undef, undef, undef, undef, undef, undef, undef, undef, undef, undef, undef, undef, undef, undef, undef, undef, undef, undef, undef, undef, undef, undef, undef, undef, undef, undef, undef, undef, undef, undef, undef, undef, undef, undef, undef, undef, undef, undef, undef, undef, undef, undef, undef, undef, undef, undef, undef, undef, undef, undef, undef, undef, undef, undef, undef, undef, undef, undef, undef, undef, undef, undef, undef, undef, undef, undef, undef, undef, undef, undef, undef, undef, undef, undef, undef, undef, undef, undef, undef, undef, undef, undef, undef, undef, undef, undef, undef, undef, undef, undef, undef, undef, undef, undef, undef, undef, undef, undef, undef, undef, undef, undef, undef, undef], defers := [] } ∧ Below (w.heap.size) w Wn ∧ (Nk Wn (w.heap.size) m s d) ∧ (Nk Wn (w.heap.size + 1) n t e) ∧ (Nk Wn (w.heap.size + 1 + 1) p u f) ∧ (Nk Wn p7 z1 o1 e1) ∧ (Nk Wn p8 z2 o2 e2) ∧ (On l3 → Off l4 → NAt Wn (some ⟨g27, 0, none⟩) [(n, t, e), (m, s, d)])) (by kernel_rfl) (by kernel_rfl) (by kernel_rfl) (by kernel_rfl) hf ?_ ?_ ?_ (by kernel_rfl) ?_ (by decide)
    · exact ⟨false, false, false, false, false, false, by kernel_rfl, 0, by kernel_rfl, hb.drew, hA.drew, hB.drew, hC.drew, hZ.drew, hY.drew, (fun h _ => not_ft h)⟩
    · rintro L ac Wn ⟨l0, l1, l2, l3, l4, l5, rfl, _⟩
      kernel_rfl
    · refine (seg_all (b := 6) [0, 1, 2, 3, 4, 5] ?_ : ∀ j ∈ [0, 1, 2, 3, 4, 5, 6], j ≠ 6 → _)
      refine lin_cons [] [5] rfl (by kernel_rfl) (by kernel_rfl) ?_ ?_
      · intro L ac Wn hI hi hds hus Kc hK
        obtain ⟨l0, l1, l2, l3, l4, l5, rfl, hI⟩ := hI
        obtain rfl : l0 = false := hi
        obtain ⟨rfl, -⟩ : l5 = false ∧ True := hus
        simp only [sel_f] at hI
        obtain ⟨g27, rfl, hb, hA, hB, hC, hZ, hY, hW3⟩ := hI
        obtain ⟨q0, q1, q2, q3, q4, q5⟩ := (hZ).facts
        refine lin_yield (.agg #[.bool z1, .string o1, .int .i64 e1]) rfl (by go_simp; first | done | with_reducible rfl) ?_
        exact hK.out _ _ ⟨true, l1, l2, l3, l4, false, by kernel_rfl, g27, by kernel_rfl, hb, (hA), (hB), (hC), (hZ), (hY), (fun z0 z1 => (hW3 z0 z1))⟩
      refine lin_cons [] [3, 4, 5] rfl (by kernel_rfl) (by kernel_rfl) ?_ ?_
      · intro L ac Wn hI hi hds hus Kc hK
        obtain ⟨l0, l1, l2, l3, l4, l5, rfl, hI⟩ := hI
        obtain rfl : l1 = false := hi
        obtain ⟨rfl, rfl, rfl, -⟩ : l3 = false ∧ l4 = false ∧ l5 = false ∧ True := hus
        simp only [sel_f] at hI
        obtain ⟨g27, rfl, hb, hA, hB, hC, hZ, hY, hW3⟩ := hI
        obtain ⟨q0, q1, q2, q3, q4, q5⟩ := (hB).facts
        refine lin_yield (.agg #[.bool n, .string t, .int .i64 e]) rfl (by go_simp; first | done | with_reducible rfl) ?_
        exact hK.out _ _ ⟨l0, true, l2, false, false, false, by kernel_rfl, g27, by kernel_rfl, hb, (hA), (hB), (hC), (hZ), (hY), (fun h _ => not_ft h)⟩
      refine lin_cons [] [3, 4, 5] rfl (by kernel_rfl) (by kernel_rfl) ?_ ?_
      · intro L ac Wn hI hi hds hus Kc hK
        obtain ⟨l0, l1, l2, l3, l4, l5, rfl, hI⟩ := hI
        obtain rfl : l2 = false := hi
        obtain ⟨rfl, rfl, rfl, -⟩ : l3 = false ∧ l4 = false ∧ l5 = false ∧ True := hus
        simp only [sel_f] at hI
        obtain ⟨g27, rfl, hb, hA, hB, hC, hZ, hY, hW3⟩ := hI
        obtain ⟨q0, q1, q2, q3, q4, q5⟩ := (hA).facts
        refine lin_yield (.agg #[.bool m, .string s, .int .i64 d]) rfl (by go_simp; first | done | with_reducible rfl) ?_
        exact hK.out _ _ ⟨l0, l1, true, false, false, false, by kernel_rfl, g27, by kernel_rfl, hb, (hA), (hB), (hC), (hZ), (hY), (fun h _ => not_ft h)⟩
      refine lin_cons [1, 2] [4, 5] rfl (by kernel_rfl) (by kernel_rfl) ?_ ?_
      · intro L ac Wn hI hi hds hus Kc hK
        obtain ⟨l0, l1, l2, l3, l4, l5, rfl, hI⟩ := hI
        obtain rfl : l3 = false := hi
        obtain ⟨rfl, rfl, -⟩ : l1 = true ∧ l2 = true ∧ True := hds
        obtain ⟨rfl, rfl, -⟩ : l4 = false ∧ l5 = false ∧ True := hus
        simp only [sel_t, sel_f] at hI
        obtain ⟨g27, rfl, hb, hA, hB, hC, hZ, hY, hW3⟩ := hI
        go_simp
        exact hK.out _ _ ⟨l0, true, true, true, false, false, by kernel_rfl, _, by kernel_rfl, (hb.alloc hb.size _), (hA.alloc _), (hB.alloc _), (hC.alloc _), (hZ.alloc _), (hY.alloc _), (fun _ _ => NAt.new _ _ _ _ rfl)⟩
      refine lin_cons [1, 2, 3] [5] rfl (by kernel_rfl) (by kernel_rfl) ?_ ?_
      · intro L ac Wn hI hi hds hus Kc hK
        obtain ⟨l0, l1, l2, l3, l4, l5, rfl, hI⟩ := hI
        obtain rfl : l4 = false := hi
        obtain ⟨rfl, rfl, rfl, -⟩ : l1 = true ∧ l2 = true ∧ l3 = true ∧ True := hds
        obtain ⟨rfl, -⟩ : l5 = false ∧ True := hus
        simp only [sel_t, sel_f] at hI
        obtain ⟨g27, rfl, hb, hA, hB, hC, hZ, hY, hW3⟩ := hI
        go_simp
        go_fit (use_yadd2 HO.out.2.1 HO.out.1 (hW3 rfl rfl) HK.out.2.2.1)
        rintro e V ⟨rfl, hq⟩
        exact hK.out _ _ ⟨l0, true, true, true, true, false, by kernel_rfl, g27, by kernel_rfl, (below_next hb hq), (hA.below hq), (hB.below hq), (hC.below hq), (hZ.below hq), (hY.below hq), (fun _ h => not_tf h)⟩
      refine lin_cons [0, 1, 2, 3, 4] [] rfl (by kernel_rfl) (by kernel_rfl) ?_ lin_nil
      intro L ac Wn hI hi hds hus Kc hK
      obtain ⟨l0, l1, l2, l3, l4, l5, rfl, hI⟩ := hI
      obtain rfl : l5 = false := hi
      obtain ⟨rfl, rfl, rfl, rfl, rfl, -⟩ : l0 = true ∧ l1 = true ∧ l2 = true ∧ l3 = true ∧ l4 = true ∧ True := hds
      simp only [sel_t, sel_f] at hI
      obtain ⟨g27, rfl, hb, hA, hB, hC, hZ, hY, hW3⟩ := hI
      refine lin_yield (.bool false) rfl (by go_simp; first | done | with_reducible rfl) ?_
      exact hK.out _ _ ⟨true, true, true, true, true, true, by kernel_rfl, g27, by kernel_rfl, hb, (hA), (hB), (hC), (hZ), (hY), (fun _ h => not_tf h)⟩
    refine bar_of [0, 1, 2, 3, 4, 5] rfl (by kernel_rfl) ?_
    intro L ac Wn hI hds Kc hK
    obtain ⟨l0, l1, l2, l3, l4, l5, rfl, hI⟩ := hI
    obtain ⟨rfl, rfl, rfl, rfl, rfl, rfl, -⟩ : l0 = true ∧ l1 = true ∧ l2 = true ∧ l3 = true ∧ l4 = true ∧ l5 = true ∧ True := hds
    simp only [sel_t] at hI
    obtain ⟨g27, rfl, hb, hA, hB, hC, hZ, hY, hW3⟩ := hI
    clear hW3
    refine lin_yield (.bool false) rfl (by go_simp; first | done | with_reducible rfl) ?_
    refine hK.out _ _ (fun fu hf => ?_)
    clear hK Kc
    refine lin_seg 54 [7, 8, 9, 10, 11, 12, 13, 14] 14 (fun L ac Wn => ∃ l7 l8 l9 l10 l11 l12 l13 : Bool, L = #[true, true, true, true, true, true, true, l7, l8, l9, l10, l11, l12, l13, false, false, false, false, false, false, false, false, false, false, false, false, false, false, false, false, false, false, false, false, false, false, false, false, false, false, false, false, false, false, false, false, false, false, false, false, false, false, false, false] ∧ ∃ g34 : Nat, ac = { tmps := #[.agg #[.bool m, .string s, .int .i64 d], .agg #[.bool n, .string t, .int .i64 e], .agg #[.bool p, .string u, .int .i64 f], .pointer (some ⟨w.heap.size, 0, none⟩), .pointer (some ⟨w.heap.size + 1, 0, none⟩), .pointer (some ⟨w.heap.size + 1 + 1, 0, none⟩), .bool false, .pointer (some ⟨p7, 0, none⟩), .pointer (some ⟨p8, 0, none⟩), undef, .agg #[.bool m, .string s, .int .i64 d], .agg #[.bool n, .string t, .int .i64 e], .agg #[.bool p, .string u, .int .i64 f], .slice (some ⟨w.heap.size + 1 + 1 + 1, 0, none⟩) 3 3, .bool false, undef, .agg #[.bool m, .string s, .int .i64 d], .agg #[.bool n, .string t, .int .i64 e], .slice (some ⟨g18, 0, none⟩) 2 2, .agg #[.bool z1, .string o1, .int .i64 e1], .agg #[.bool m, .string s, .int .i64 d], .agg #[.bool n, .string t, .int .i64 e], .slice (some ⟨g22, 0, none⟩) 2 2, .agg #[.bool z2, .string o2, .int .i64 e2], .agg #[.bool z1, .string o1, .int .i64 e1], .agg #[.bool n, .string t, .int .i64 e], .agg #[.bool m, .string s, .int .i64 d], .slice (some ⟨g27, 0, none⟩) 2 2, .agg #[.bool z1, .string o1, .int .i64 e1], .bool false, .bool false, sel l7 (.agg #[.bool z2, .string o2, .int .i64 e2]) (undef), sel l8 (.agg #[.bool n, .string t, .int .i64 e]) (undef), sel l9 (.agg #[.bool m, .string s, .int .i64 d]) (undef), sel l10 (.slice (some ⟨g34, 0, none⟩) 2 2) (undef), sel l11 (.agg #[.bool z2, .string o2, .int .i64 e2]) (undef), sel l12 (.bool false) (undef), sel l13 (.bool false) (undef), undef, undef, undef, undef, undef, undef, undef, undef, undef, undef, undef, undef, undef, undef, undef, undef, undef, undef, undef, undef, undef, undef, undef, undef, undef, undef, undef, undef, undef, undef, undef, undef, undef, undef, undef, undef, undef, undef, undef, undef, undef, undef, undef, undef, undef, undef, undef, undef, undef, undef, undef, undef, undef, undef, undef, undef, undef, undef, undef, undef, undef, undef, undef, undef, undef, undef, undef, undef, undef, undef, undef, undef, undef, undef, undef, undef, undef, undef, undef, undef, undef, undef, undef, undef, undef, undef, undef, undef, undef, undef, undef, undef, undef, undef, undef, undef, undef, undef], defers := [] } ∧ Below (w.heap.size) w Wn ∧ (Nk Wn (w.heap.size) m s d) ∧ (Nk Wn (w.heap.size + 1) n t e) ∧ (Nk Wn (w.heap.size + 1 + 1) p u f) ∧ (Nk Wn p7 z1 o1 e1) ∧ (Nk Wn p8 z2 o2 e2) ∧ (On l10 → Off l11 → NAt Wn (some ⟨g34, 0, none⟩) [(n, t, e), (m, s, d)])) (by kernel_rfl) (by kernel_rfl) (by kernel_rfl) (by kernel_rfl) hf ?_ ?_ ?_ (by kernel_rfl) ?_ (by decide)
    · exact ⟨false, false, false, false, false, false, false, by kernel_rfl, 0, by kernel_rfl, hb, hA, hB, hC, hZ, hY, (fun h _ => not_ft h)⟩
    · rintro L ac Wn ⟨l7, l8, l9, l10, l11, l12, l13, rfl, _⟩
      kernel_rfl
    · refine (seg_all (b := 14) [7, 8, 9, 10, 11, 12, 13] ?_ : ∀ j ∈ [7, 8, 9, 10, 11, 12, 13, 14], j ≠ 14 → _)
      refine lin_cons [] [12, 13] rfl (by kernel_rfl) (by kernel_rfl) ?_ ?_
      · intro L ac Wn hI hi hds hus Kc hK
        obtain ⟨l7, l8, l9, l10, l11, l12, l13, rfl, hI⟩ := hI
        obtain rfl : l7 = false := hi
        obtain ⟨rfl, rfl, -⟩ : l12 = false ∧ l13 = false ∧ True := hus
        simp only [sel_f] at hI
        obtain ⟨g34, rfl, hb, hA, hB, hC, hZ, hY, hW10⟩ := hI
        obtain ⟨q0, q1, q2, q3, q4, q5⟩ := (hY).facts
        refine lin_yield (.agg #[.bool z2, .string o2, .int .i64 e2]) rfl (by go_simp; first | done | with_reducible rfl) ?_
        exact hK.out _ _ ⟨true, l8, l9, l10, l11, false, false, by kernel_rfl, g34, by kernel_rfl, hb, (hA), (hB), (hC), (hZ), (hY), (fun z0 z1 => (hW10 z0 z1))⟩
      refine lin_cons [] [10, 11, 12, 13] rfl (by kernel_rfl) (by kernel_rfl) ?_ ?_
      · intro L ac Wn hI hi hds hus Kc hK
        obtain ⟨l7, l8, l9, l10, l11, l12, l13, rfl, hI⟩ := hI
        obtain rfl : l8 = false := hi
        obtain ⟨rfl, rfl, rfl, rfl, -⟩ : l10 = false ∧ l11 = false ∧ l12 = false ∧ l13 = false ∧ True := hus
        simp only [sel_f] at hI
        obtain ⟨g34, rfl, hb, hA, hB, hC, hZ, hY, hW10⟩ := hI
        obtain ⟨q0, q1, q2, q3, q4, q5⟩ := (hB).facts
        refine lin_yield (.agg #[.bool n, .string t, .int .i64 e]) rfl (by go_simp; first | done | with_reducible rfl) ?_
        exact hK.out _ _ ⟨l7, true, l9, false, false, false, false, by kernel_rfl, g34, by kernel_rfl, hb, (hA), (hB), (hC), (hZ), (hY), (fun h _ => not_ft h)⟩
      refine lin_cons [] [10, 11, 12, 13] rfl (by kernel_rfl) (by kernel_rfl) ?_ ?_
      · intro L ac Wn hI hi hds hus Kc hK
        obtain ⟨l7, l8, l9, l10, l11, l12, l13, rfl, hI⟩ := hI
        obtain rfl : l9 = false := hi
        obtain ⟨rfl, rfl, rfl, rfl, -⟩ : l10 = false ∧ l11 = false ∧ l12 = false ∧ l13 = false ∧ True := hus
        simp only [sel_f] at hI
        obtain ⟨g34, rfl, hb, hA, hB, hC, hZ, hY, hW10⟩ := hI
        obtain ⟨q0, q1, q2, q3, q4, q5⟩ := (hA).facts
        refine lin_yield (.agg #[.bool m, .string s, .int .i64 d]) rfl (by go_simp; first | done | with_reducible rfl) ?_
        exact hK.out _ _ ⟨l7, l8, true, false, false, false, false, by kernel_rfl, g34, by kernel_rfl, hb, (hA), (hB), (hC), (hZ), (hY), (fun h _ => not_ft h)⟩
      refine lin_cons [8, 9] [11, 12, 13] rfl (by kernel_rfl) (by kernel_rfl) ?_ ?_
      · intro L ac Wn hI hi hds hus Kc hK
        obtain ⟨l7, l8, l9, l10, l11, l12, l13, rfl, hI⟩ := hI
        obtain rfl : l10 = false := hi
        obtain ⟨rfl, rfl, -⟩ : l8 = true ∧ l9 = true ∧ True := hds
        obtain ⟨rfl, rfl, rfl, -⟩ : l11 = false ∧ l12 = false ∧ l13 = false ∧ True := hus
        simp only [sel_t, sel_f] at hI
        obtain ⟨g34, rfl, hb, hA, hB, hC, hZ, hY, hW10⟩ := hI
        go_simp
        exact hK.out _ _ ⟨l7, true, true, true, false, false, false, by kernel_rfl, _, by kernel_rfl, (hb.alloc hb.size _), (hA.alloc _), (hB.alloc _), (hC.alloc _), (hZ.alloc _), (hY.alloc _), (fun _ _ => NAt.new _ _ _ _ rfl)⟩
      refine lin_cons [8, 9, 10] [12, 13] rfl (by kernel_rfl) (by kernel_rfl) ?_ ?_
      · intro L ac Wn hI hi hds hus Kc hK
        obtain ⟨l7, l8, l9, l10, l11, l12, l13, rfl, hI⟩ := hI
        obtain rfl : l11 = false := hi
        obtain ⟨rfl, rfl, rfl, -⟩ : l8 = true ∧ l9 = true ∧ l10 = true ∧ True := hds
        obtain ⟨rfl, rfl, -⟩ : l12 = false ∧ l13 = false ∧ True := hus
        simp only [sel_t, sel_f] at hI
        obtain ⟨g34, rfl, hb, hA, hB, hC, hZ, hY, hW10⟩ := hI
        go_simp
        go_fit (use_ymul2 HO.out.2.1 HO.out.1 (hW10 rfl rfl) HK.out.2.2.2.1)
        rintro e V ⟨rfl, hq⟩
        exact hK.out _ _ ⟨l7, true, true, true, true, false, false, by kernel_rfl, g34, by kernel_rfl, (below_next hb hq), (hA.below hq), (hB.below hq), (hC.below hq), (hZ.below hq), (hY.below hq), (fun _ h => not_tf h)⟩
      refine lin_cons [7, 8, 9, 10, 11] [13] rfl (by kernel_rfl) (by kernel_rfl) ?_ ?_
      · intro L ac Wn hI hi hds hus Kc hK
        obtain ⟨l7, l8, l9, l10, l11, l12, l13, rfl, hI⟩ := hI
        obtain rfl : l12 = false := hi
        obtain ⟨rfl, rfl, rfl, rfl, rfl, -⟩ : l7 = true ∧ l8 = true ∧ l9 = true ∧ l10 = true ∧ l11 = true ∧ True := hds
        obtain ⟨rfl, -⟩ : l13 = false ∧ True := hus
        simp only [sel_t, sel_f] at hI
        obtain ⟨g34, rfl, hb, hA, hB, hC, hZ, hY, hW10⟩ := hI
        refine lin_yield (.bool false) rfl (by go_simp; first | done | with_reducible rfl) ?_
        exact hK.out _ _ ⟨true, true, true, true, true, true, false, by kernel_rfl, g34, by kernel_rfl, hb, (hA), (hB), (hC), (hZ), (hY), (fun _ h => not_tf h)⟩
      refine lin_cons [7, 8, 9, 10, 11, 12] [] rfl (by kernel_rfl) (by kernel_rfl) ?_ lin_nil
      intro L ac Wn hI hi hds hus Kc hK
      obtain ⟨l7, l8, l9, l10, l11, l12, l13, rfl, hI⟩ := hI
      obtain rfl : l13 = false := hi
      obtain ⟨rfl, rfl, rfl, rfl, rfl, rfl, -⟩ : l7 = true ∧ l8 = true ∧ l9 = true ∧ l10 = true ∧ l11 = true ∧ l12 = true ∧ True := hds
      simp only [sel_t, sel_f] at hI
      obtain ⟨g34, rfl, hb, hA, hB, hC, hZ, hY, hW10⟩ := hI
      refine lin_yield (.bool false) rfl (by go_simp; first | done | with_reducible rfl) ?_
      exact hK.out _ _ ⟨true, true, true, true, true, true, true, by kernel_rfl, g34, by kernel_rfl, hb, (hA), (hB), (hC), (hZ), (hY), (fun _ h => not_tf h)⟩
    refine bar_of [7, 8, 9, 10, 11, 12, 13] rfl (by kernel_rfl) ?_
    intro L ac Wn hI hds Kc hK
    obtain ⟨l7, l8, l9, l10, l11, l12, l13, rfl, hI⟩ := hI
    obtain ⟨rfl, rfl, rfl, rfl, rfl, rfl, rfl, -⟩ : l7 = true ∧ l8 = true ∧ l9 = true ∧ l10 = true ∧ l11 = true ∧ l12 = true ∧ l13 = true ∧ True := hds
    simp only [sel_t] at hI
    obtain ⟨g34, rfl, hb, hA, hB, hC, hZ, hY, hW10⟩ := hI
    clear hW10
    refine lin_yield (.bool false) rfl (by go_simp; first | done | with_reducible rfl) ?_
    refine hK.out _ _ (fun fu hf => ?_)
    clear hK Kc
    refine lin_seg 54 [15, 16, 17, 18, 19, 20, 21, 22, 23, 24, 25, 26] 26 (fun L ac Wn => ∃ l15 l16 l17 l18 l19 l20 l21 l22 l23 l24 l25 : Bool, L = #[true, true, true, true, true, true, true, true, true, true, true, true, true, true, true, l15, l16, l17, l18, l19, l20, l21, l22, l23, l24, l25, false, false, false, false, false, false, false, false, false, false, false, false, false, false, false, false, false, false, false, false, false, false, false, false, false, false, false, false] ∧ ∃ g41 g46 : Nat, ac = { tmps := #[.agg #[.bool m, .string s, .int .i64 d], .agg #[.bool n, .string t, .int .i64 e], .agg #[.bool p, .string u, .int .i64 f], .pointer (some ⟨w.heap.size, 0, none⟩), .pointer (some ⟨w.heap.size + 1, 0, none⟩), .pointer (some ⟨w.heap.size + 1 + 1, 0, none⟩), .bool false, .pointer (some ⟨p7, 0, none⟩), .pointer (some ⟨p8, 0, none⟩), undef, .agg #[.bool m, .string s, .int .i64 d], .agg #[.bool n, .string t, .int .i64 e], .agg #[.bool p, .string u, .int .i64 f], .slice (some ⟨w.heap.size + 1 + 1 + 1, 0, none⟩) 3 3, .bool false, undef, .agg #[.bool m, .string s, .int .i64 d], .agg #[.bool n, .string t, .int .i64 e], .slice (some ⟨g18, 0, none⟩) 2 2, .agg #[.bool z1, .string o1, .int .i64 e1], .agg #[.bool m, .string s, .int .i64 d], .agg #[.bool n, .string t, .int .i64 e], .slice (some ⟨g22, 0, none⟩) 2 2, .agg #[.bool z2, .string o2, .int .i64 e2], .agg #[.bool z1, .string o1, .int .i64 e1], .agg #[.bool n, .string t, .int .i64 e], .agg #[.bool m, .string s, .int .i64 d], .slice (some ⟨g27, 0, none⟩) 2 2, .agg #[.bool z1, .string o1, .int .i64 e1], .bool false, .bool false, .agg #[.bool z2, .string o2, .int .i64 e2], .agg #[.bool n, .string t, .int .i64 e], .agg #[.bool m, .string s, .int .i64 d], .slice (some ⟨g34, 0, none⟩) 2 2, .agg #[.bool z2, .string o2, .int .i64 e2], .bool false, .bool false, .bool false, sel l15 (.agg #[.bool z1, .string o1, .int .i64 e1]) (undef), sel l16 (.agg #[.bool p, .string u, .int .i64 f]) (undef), sel l17 (.slice (some ⟨g41, 0, none⟩) 2 2) (undef), sel l18 (.agg #[.bool z3, .string o3, .int .i64 e3]) (undef), sel l19 (.agg #[.bool m, .string s, .int .i64 d]) (undef), sel l20 (.agg #[.bool n, .string t, .int .i64 e]) (undef), sel l21 (.agg #[.bool p, .string u, .int .i64 f]) (undef), sel l22 (.slice (some ⟨g46, 0, none⟩) 3 3) (undef), sel l23 (.agg #[.bool z3, .string o3, .int .i64 e3]) (undef), sel l24 (.bool false) (undef), sel l25 (.bool false) (undef), undef, undef, undef, undef, undef, undef, undef, undef, undef, undef, undef, undef, undef, undef, undef, undef, undef, undef, undef, undef, undef, undef, undef, undef, undef, undef, undef, undef, undef, undef, undef, undef, undef, undef, undef, undef, undef, undef, undef, undef, undef, undef, undef, undef, undef, undef, undef, undef, undef, undef, undef, undef, undef, undef, undef, undef, undef, undef, undef, undef, undef, undef, undef, undef, undef, undef, undef, undef, undef, undef, undef, undef, undef, undef, undef, undef, undef, undef, undef, undef, undef, undef, undef, undef, undef, undef], defers := [] } ∧ Below (w.heap.size) w Wn ∧ (Nk Wn (w.heap.size) m s d) ∧ (Nk Wn (w.heap.size + 1) n t e) ∧ (Nk Wn (w.heap.size + 1 + 1) p u f) ∧ (Nk Wn p7 z1 o1 e1) ∧ (Nk Wn p8 z2 o2 e2) ∧ (On l17 → Off l18 → NAt Wn (some ⟨g41, 0, none⟩) [(z1, o1, e1), (p, u, f)]) ∧ (On l22 → Off l23 → NAt Wn (some ⟨g46, 0, none⟩) [(m, s, d), (n, t, e), (p, u, f)])) (by kernel_rfl) (by kernel_rfl) (by kernel_rfl) (by kernel_rfl) hf ?_ ?_ ?_ (by kernel_rfl) ?_ (by decide)
    · exact ⟨false, false, false, false, false, false, false, false, false, false, false, by kernel_rfl, 0, 0, by kernel_rfl, hb, hA, hB, hC, hZ, hY, (fun h _ => not_ft h), (fun h _ => not_ft h)⟩
    · rintro L ac Wn ⟨l15, l16, l17, l18, l19, l20, l21, l22, l23, l24, l25, rfl, _⟩
      kernel_rfl
    · refine (seg_all (b := 26) [15, 16, 17, 18, 19, 20, 21, 22, 23, 24, 25] ?_ : ∀ j ∈ [15, 16, 17, 18, 19, 20, 21, 22, 23, 24, 25, 26], j ≠ 26 → _)
      refine lin_cons [] [17, 18, 23, 24, 25] rfl (by kernel_rfl) (by kernel_rfl) ?_ ?_
      · intro L ac Wn hI hi hds hus Kc hK
        obtain ⟨l15, l16, l17, l18, l19, l20, l21, l22, l23, l24, l25, rfl, hI⟩ := hI
        obtain rfl : l15 = false := hi
        obtain ⟨rfl, rfl, rfl, rfl, rfl, -⟩ : l17 = false ∧ l18 = false ∧ l23 = false ∧ l24 = false ∧ l25 = false ∧ True := hus
        simp only [sel_f] at hI
        obtain ⟨g41, g46, rfl, hb, hA, hB, hC, hZ, hY, hW17, hW22⟩ := hI
        obtain ⟨q0, q1, q2, q3, q4, q5⟩ := (hZ).facts
        refine lin_yield (.agg #[.bool z1, .string o1, .int .i64 e1]) rfl (by go_simp; first | done | with_reducible rfl) ?_
        exact hK.out _ _ ⟨true, l16, false, false, l19, l20, l21, l22, false, false, false, by kernel_rfl, g41, g46, by kernel_rfl, hb, (hA), (hB), (hC), (hZ), (hY), (fun h _ => not_ft h), (fun z0 z1 => (hW22 z0 z1))⟩
      refine lin_cons [] [17, 18, 23, 24, 25] rfl (by kernel_rfl) (by kernel_rfl) ?_ ?_
      · intro L ac Wn hI hi hds hus Kc hK
        obtain ⟨l15, l16, l17, l18, l19, l20, l21, l22, l23, l24, l25, rfl, hI⟩ := hI
        obtain rfl : l16 = false := hi
        obtain ⟨rfl, rfl, rfl, rfl, rfl, -⟩ : l17 = false ∧ l18 = false ∧ l23 = false ∧ l24 = false ∧ l25 = false ∧ True := hus
        simp only [sel_f] at hI
        obtain ⟨g41, g46, rfl, hb, hA, hB, hC, hZ, hY, hW17, hW22⟩ := hI
        obtain ⟨q0, q1, q2, q3, q4, q5⟩ := (hC).facts
        refine lin_yield (.agg #[.bool p, .string u, .int .i64 f]) rfl (by go_simp; first | done | with_reducible rfl) ?_
        exact hK.out _ _ ⟨l15, true, false, false, l19, l20, l21, l22, false, false, false, by kernel_rfl, g41, g46, by kernel_rfl, hb, (hA), (hB), (hC), (hZ), (hY), (fun h _ => not_ft h), (fun z0 z1 => (hW22 z0 z1))⟩
      refine lin_cons [15, 16] [18, 23, 24, 25] rfl (by kernel_rfl) (by kernel_rfl) ?_ ?_
      · intro L ac Wn hI hi hds hus Kc hK
        obtain ⟨l15, l16, l17, l18, l19, l20, l21, l22, l23, l24, l25, rfl, hI⟩ := hI
        obtain rfl : l17 = false := hi
        obtain ⟨rfl, rfl, -⟩ : l15 = true ∧ l16 = true ∧ True := hds
        obtain ⟨rfl, rfl, rfl, rfl, -⟩ : l18 = false ∧ l23 = false ∧ l24 = false ∧ l25 = false ∧ True := hus
        simp only [sel_t, sel_f] at hI
        obtain ⟨g41, g46, rfl, hb, hA, hB, hC, hZ, hY, hW17, hW22⟩ := hI
        go_simp
        exact hK.out _ _ ⟨true, true, true, false, l19, l20, l21, l22, false, false, false, by kernel_rfl, _, g46, by kernel_rfl, (hb.alloc hb.size _), (hA.alloc _), (hB.alloc _), (hC.alloc _), (hZ.alloc _), (hY.alloc _), (fun _ _ => NAt.new _ _ _ _ rfl), (fun z0 z1 => (hW22 z0 z1).alloc _)⟩
      refine lin_cons [15, 16, 17] [23, 24, 25] rfl (by kernel_rfl) (by kernel_rfl) ?_ ?_
      · intro L ac Wn hI hi hds hus Kc hK
        obtain ⟨l15, l16, l17, l18, l19, l20, l21, l22, l23, l24, l25, rfl, hI⟩ := hI
        obtain rfl : l18 = false := hi
        obtain ⟨rfl, rfl, rfl, -⟩ : l15 = true ∧ l16 = true ∧ l17 = true ∧ True := hds
        obtain ⟨rfl, rfl, rfl, -⟩ : l23 = false ∧ l24 = false ∧ l25 = false ∧ True := hus
        simp only [sel_t, sel_f] at hI
        obtain ⟨g41, g46, rfl, hb, hA, hB, hC, hZ, hY, hW17, hW22⟩ := hI
        go_simp
        go_fit (use_yadd2 HO.out.2.2.2.1 HO.out.2.2.1 (hW17 rfl rfl) HK.out.2.2.2.2.1)
        rintro e V ⟨rfl, hq⟩
        exact hK.out _ _ ⟨true, true, true, true, l19, l20, l21, l22, false, false, false, by kernel_rfl, g41, g46, by kernel_rfl, (below_next hb hq), (hA.below hq), (hB.below hq), (hC.below hq), (hZ.below hq), (hY.below hq), (fun _ h => not_tf h), (fun z0 z1 => (hW22 z0 z1).below hq)⟩
      refine lin_cons [] [22, 23, 24, 25] rfl (by kernel_rfl) (by kernel_rfl) ?_ ?_
      · intro L ac Wn hI hi hds hus Kc hK
        obtain ⟨l15, l16, l17, l18, l19, l20, l21, l22, l23, l24, l25, rfl, hI⟩ := hI
        obtain rfl : l19 = false := hi
        obtain ⟨rfl, rfl, rfl, rfl, -⟩ : l22 = false ∧ l23 = false ∧ l24 = false ∧ l25 = false ∧ True := hus
        simp only [sel_f] at hI
        obtain ⟨g41, g46, rfl, hb, hA, hB, hC, hZ, hY, hW17, hW22⟩ := hI
        obtain ⟨q0, q1, q2, q3, q4, q5⟩ := (hA).facts
        refine lin_yield (.agg #[.bool m, .string s, .int .i64 d]) rfl (by go_simp; first | done | with_reducible rfl) ?_
        exact hK.out _ _ ⟨l15, l16, l17, l18, true, l20, l21, false, false, false, false, by kernel_rfl, g41, g46, by kernel_rfl, hb, (hA), (hB), (hC), (hZ), (hY), (fun z0 z1 => (hW17 z0 z1)), (fun h _ => not_ft h)⟩
      refine lin_cons [] [22, 23, 24, 25] rfl (by kernel_rfl) (by kernel_rfl) ?_ ?_
      · intro L ac Wn hI hi hds hus Kc hK
        obtain ⟨l15, l16, l17, l18, l19, l20, l21, l22, l23, l24, l25, rfl, hI⟩ := hI
        obtain rfl : l20 = false := hi
        obtain ⟨rfl, rfl, rfl, rfl, -⟩ : l22 = false ∧ l23 = false ∧ l24 = false ∧ l25 = false ∧ True := hus
        simp only [sel_f] at hI
        obtain ⟨g41, g46, rfl, hb, hA, hB, hC, hZ, hY, hW17, hW22⟩ := hI
        obtain ⟨q0, q1, q2, q3, q4, q5⟩ := (hB).facts
        refine lin_yield (.agg #[.bool n, .string t, .int .i64 e]) rfl (by go_simp; first | done | with_reducible rfl) ?_
        exact hK.out _ _ ⟨l15, l16, l17, l18, l19, true, l21, false, false, false, false, by kernel_rfl, g41, g46, by kernel_rfl, hb, (hA), (hB), (hC), (hZ), (hY), (fun z0 z1 => (hW17 z0 z1)), (fun h _ => not_ft h)⟩
      refine lin_cons [] [22, 23, 24, 25] rfl (by kernel_rfl) (by kernel_rfl) ?_ ?_
      · intro L ac Wn hI hi hds hus Kc hK
        obtain ⟨l15, l16, l17, l18, l19, l20, l21, l22, l23, l24, l25, rfl, hI⟩ := hI
        obtain rfl : l21 = false := hi
        obtain ⟨rfl, rfl, rfl, rfl, -⟩ : l22 = false ∧ l23 = false ∧ l24 = false ∧ l25 = false ∧ True := hus
        simp only [sel_f] at hI
        obtain ⟨g41, g46, rfl, hb, hA, hB, hC, hZ, hY, hW17, hW22⟩ := hI
        obtain ⟨q0, q1, q2, q3, q4, q5⟩ := (hC).facts
        refine lin_yield (.agg #[.bool p, .string u, .int .i64 f]) rfl (by go_simp; first | done | with_reducible rfl) ?_
        exact hK.out _ _ ⟨l15, l16, l17, l18, l19, l20, true, false, false, false, false, by kernel_rfl, g41, g46, by kernel_rfl, hb, (hA), (hB), (hC), (hZ), (hY), (fun z0 z1 => (hW17 z0 z1)), (fun h _ => not_ft h)⟩
      refine lin_cons [19, 20, 21] [23, 24, 25] rfl (by kernel_rfl) (by kernel_rfl) ?_ ?_
      · intro L ac Wn hI hi hds hus Kc hK
        obtain ⟨l15, l16, l17, l18, l19, l20, l21, l22, l23, l24, l25, rfl, hI⟩ := hI
        obtain rfl : l22 = false := hi
        obtain ⟨rfl, rfl, rfl, -⟩ : l19 = true ∧ l20 = true ∧ l21 = true ∧ True := hds
        obtain ⟨rfl, rfl, rfl, -⟩ : l23 = false ∧ l24 = false ∧ l25 = false ∧ True := hus
        simp only [sel_t, sel_f] at hI
        obtain ⟨g41, g46, rfl, hb, hA, hB, hC, hZ, hY, hW17, hW22⟩ := hI
        go_simp
        exact hK.out _ _ ⟨l15, l16, l17, l18, true, true, true, true, false, false, false, by kernel_rfl, g41, _, by kernel_rfl, (hb.alloc hb.size _), (hA.alloc _), (hB.alloc _), (hC.alloc _), (hZ.alloc _), (hY.alloc _), (fun z0 z1 => (hW17 z0 z1).alloc _), (fun _ _ => NAt.new _ _ _ _ rfl)⟩
      refine lin_cons [15, 16, 17, 18, 19, 20, 21, 22] [24, 25] rfl (by kernel_rfl) (by kernel_rfl) ?_ ?_
      · intro L ac Wn hI hi hds hus Kc hK
        obtain ⟨l15, l16, l17, l18, l19, l20, l21, l22, l23, l24, l25, rfl, hI⟩ := hI
        obtain rfl : l23 = false := hi
        obtain ⟨rfl, rfl, rfl, rfl, rfl, rfl, rfl, rfl, -⟩ : l15 = true ∧ l16 = true ∧ l17 = true ∧ l18 = true ∧ l19 = true ∧ l20 = true ∧ l21 = true ∧ l22 = true ∧ True := hds
        obtain ⟨rfl, rfl, -⟩ : l24 = false ∧ l25 = false ∧ True := hus
        simp only [sel_t, sel_f] at hI
        obtain ⟨g41, g46, rfl, hb, hA, hB, hC, hZ, hY, hW17, hW22⟩ := hI
        go_simp
        go_fit (use_yadd3 HO.out.1 HO.out.2.1 HO.out.2.2.1 (hW22 rfl rfl) HK.out.2.2.2.2.2.1)
        rintro e V ⟨rfl, hq⟩
        exact hK.out _ _ ⟨true, true, true, true, true, true, true, true, true, false, false, by kernel_rfl, g41, g46, by kernel_rfl, (below_next hb hq), (hA.below hq), (hB.below hq), (hC.below hq), (hZ.below hq), (hY.below hq), (fun _ h => not_tf h), (fun _ h => not_tf h)⟩
      refine lin_cons [15, 16, 17, 18, 19, 20, 21, 22, 23] [25] rfl (by kernel_rfl) (by kernel_rfl) ?_ ?_
      · intro L ac Wn hI hi hds hus Kc hK
        obtain ⟨l15, l16, l17, l18, l19, l20, l21, l22, l23, l24, l25, rfl, hI⟩ := hI
        obtain rfl : l24 = false := hi
        obtain ⟨rfl, rfl, rfl, rfl, rfl, rfl, rfl, rfl, rfl, -⟩ : l15 = true ∧ l16 = true ∧ l17 = true ∧ l18 = true ∧ l19 = true ∧ l20 = true ∧ l21 = true ∧ l22 = true ∧ l23 = true ∧ True := hds
        obtain ⟨rfl, -⟩ : l25 = false ∧ True := hus
        simp only [sel_t, sel_f] at hI
        obtain ⟨g41, g46, rfl, hb, hA, hB, hC, hZ, hY, hW17, hW22⟩ := hI
        refine lin_yield (.bool false) rfl (by go_simp; first | done | with_reducible rfl) ?_
        exact hK.out _ _ ⟨true, true, true, true, true, true, true, true, true, true, false, by kernel_rfl, g41, g46, by kernel_rfl, hb, (hA), (hB), (hC), (hZ), (hY), (fun _ h => not_tf h), (fun _ h => not_tf h)⟩
      refine lin_cons [15, 16, 17, 18, 19, 20, 21, 22, 23, 24] [] rfl (by kernel_rfl) (by kernel_rfl) ?_ lin_nil
      intro L ac Wn hI hi hds hus Kc hK
      obtain ⟨l15, l16, l17, l18, l19, l20, l21, l22, l23, l24, l25, rfl, hI⟩ := hI
      obtain rfl : l25 = false := hi
      obtain ⟨rfl, rfl, rfl, rfl, rfl, rfl, rfl, rfl, rfl, rfl, -⟩ : l15 = true ∧ l16 = true ∧ l17 = true ∧ l18 = true ∧ l19 = true ∧ l20 = true ∧ l21 = true ∧ l22 = true ∧ l23 = true ∧ l24 = true ∧ True := hds
      simp only [sel_t, sel_f] at hI
      obtain ⟨g41, g46, rfl, hb, hA, hB, hC, hZ, hY, hW17, hW22⟩ := hI
      refine lin_yield (.bool false) rfl (by go_simp; first | done | with_reducible rfl) ?_
      exact hK.out _ _ ⟨true, true, true, true, true, true, true, true, true, true, true, by kernel_rfl, g41, g46, by kernel_rfl, hb, (hA), (hB), (hC), (hZ), (hY), (fun _ h => not_tf h), (fun _ h => not_tf h)⟩
    refine bar_of [15, 16, 17, 18, 19, 20, 21, 22, 23, 24, 25] rfl (by kernel_rfl) ?_
    intro L ac Wn hI hds Kc hK
    obtain ⟨l15, l16, l17, l18, l19, l20, l21, l22, l23, l24, l25, rfl, hI⟩ := hI
    obtain ⟨rfl, rfl, rfl, rfl, rfl, rfl, rfl, rfl, rfl, rfl, rfl, -⟩ : l15 = true ∧ l16 = true ∧ l17 = true ∧ l18 = true ∧ l19 = true ∧ l20 = true ∧ l21 = true ∧ l22 = true ∧ l23 = true ∧ l24 = true ∧ l25 = true ∧ True := hds
    simp only [sel_t] at hI
    obtain ⟨g41, g46, rfl, hb, hA, hB, hC, hZ, hY, hW17, hW22⟩ := hI
    clear hW17
    clear hW22
    refine lin_yield (.bool false) rfl (by go_simp; first | done | with_reducible rfl) ?_
    refine hK.out _ _ (fun fu hf => ?_)
    clear hK Kc
    refine lin_seg 54 [27, 28, 29, 30, 31, 32, 33, 34, 35, 36, 37, 38, 39, 40] 40 (fun L ac Wn => ∃ l27 l28 l29 l30 l31 l32 l33 l34 l35 l36 l37 l38 l39 : Bool, L = #[true, true, true, true, true, true, true, true, true, true, true, true, true, true, true, true, true, true, true, true, true, true, true, true, true, true, true, l27, l28, l29, l30, l31, l32, l33, l34, l35, l36, l37, l38, l39, false, false, false, false, false, false, false, false, false, false, false, false, false, false] ∧ ∃ g54 g56 g60 : Nat, ac = { tmps := #[.agg #[.bool m, .string s, .int .i64 d], .agg #[.bool n, .string t, .int .i64 e], .agg #[.bool p, .string u, .int .i64 f], .pointer (some ⟨w.heap.size, 0, none⟩), .pointer (some ⟨w.heap.size + 1, 0, none⟩), .pointer (some ⟨w.heap.size + 1 + 1, 0, none⟩), .bool false, .pointer (some ⟨p7, 0, none⟩), .pointer (some ⟨p8, 0, none⟩), undef, .agg #[.bool m, .string s, .int .i64 d], .agg #[.bool n, .string t, .int .i64 e], .agg #[.bool p, .string u, .int .i64 f], .slice (some ⟨w.heap.size + 1 + 1 + 1, 0, none⟩) 3 3, .bool false, undef, .agg #[.bool m, .string s, .int .i64 d], .agg #[.bool n, .string t, .int .i64 e], .slice (some ⟨g18, 0, none⟩) 2 2, .agg #[.bool z1, .string o1, .int .i64 e1], .agg #[.bool m, .string s, .int .i64 d], .agg #[.bool n, .string t, .int .i64 e], .slice (some ⟨g22, 0, none⟩) 2 2, .agg #[.bool z2, .string o2, .int .i64 e2], .agg #[.bool z1, .string o1, .int .i64 e1], .agg #[.bool n, .string t, .int .i64 e], .agg #[.bool m, .string s, .int .i64 d], .slice (some ⟨g27, 0, none⟩) 2 2, .agg #[.bool z1, .string o1, .int .i64 e1], .bool false, .bool false, .agg #[.bool z2, .string o2, .int .i64 e2], .agg #[.bool n, .string t, .int .i64 e], .agg #[.bool m, .string s, .int .i64 d], .slice (some ⟨g34, 0, none⟩) 2 2, .agg #[.bool z2, .string o2, .int .i64 e2], .bool false, .bool false, .bool false, .agg #[.bool z1, .string o1, .int .i64 e1], .agg #[.bool p, .string u, .int .i64 f], .slice (some ⟨g41, 0, none⟩) 2 2, .agg #[.bool z3, .string o3, .int .i64 e3], .agg #[.bool m, .string s, .int .i64 d], .agg #[.bool n, .string t, .int .i64 e], .agg #[.bool p, .string u, .int .i64 f], .slice (some ⟨g46, 0, none⟩) 3 3, .agg #[.bool z3, .string o3, .int .i64 e3], .bool false, .bool false, .bool false, sel l27 (.agg #[.bool m, .string s, .int .i64 d]) (undef), sel l28 (.agg #[.bool n, .string t, .int .i64 e]) (undef), sel l29 (.agg #[.bool p, .string u, .int .i64 f]) (undef), sel l30 (.slice (some ⟨g54, 0, none⟩) 2 2) (undef), sel l31 (.agg #[.bool z4, .string o4, .int .i64 e4]) (undef), sel l32 (.slice (some ⟨g56, 0, none⟩) 2 2) (undef), sel l33 (.agg #[.bool z3, .string o3, .int .i64 e3]) (undef), sel l34 (.agg #[.bool z1, .string o1, .int .i64 e1]) (undef), sel l35 (.agg #[.bool p, .string u, .int .i64 f]) (undef), sel l36 (.slice (some ⟨g60, 0, none⟩) 2 2) (undef), sel l37 (.agg #[.bool z3, .string o3, .int .i64 e3]) (undef), sel l38 (.bool false) (undef), sel l39 (.bool false) (undef), undef, undef, undef, undef, undef, undef, undef, undef, undef, undef, undef, undef, undef, undef, undef, undef, undef, undef, undef, undef, undef, undef, undef, undef, undef, undef, undef, undef, undef, undef, undef, undef, undef, undef, undef, undef, undef, undef, undef, undef, undef, undef, undef, undef, undef, undef, undef, undef, undef, undef, undef, undef, undef, undef, undef, undef, undef, undef, undef, undef, undef, undef, undef, undef, undef, undef, undef, undef, undef, undef, undef, undef], defers := [] } ∧ Below (w.heap.size) w Wn ∧ (Nk Wn (w.heap.size) m s d) ∧ (Nk Wn (w.heap.size + 1) n t e) ∧ (Nk Wn (w.heap.size + 1 + 1) p u f) ∧ (Nk Wn p7 z1 o1 e1) ∧ (Nk Wn p8 z2 o2 e2) ∧ (On l30 → Off l31 → NAt Wn (some ⟨g54, 0, none⟩) [(n, t, e), (p, u, f)]) ∧ (On l32 → Off l33 → NAt Wn (some ⟨g56, 0, none⟩) [(m, s, d), (z4, o4, e4)]) ∧ (On l36 → Off l37 → NAt Wn (some ⟨g60, 0, none⟩) [(z1, o1, e1), (p, u, f)])) (by kernel_rfl) (by kernel_rfl) (by kernel_rfl) (by kernel_rfl) hf ?_ ?_ ?_ (by kernel_rfl) ?_ (by decide)
    · exact ⟨false, false, false, false, false, false, false, false, false, false, false, false, false, by kernel_rfl, 0, 0, 0, by kernel_rfl, hb, hA, hB, hC, hZ, hY, (fun h _ => not_ft h), (fun h _ => not_ft h), (fun h _ => not_ft h)⟩
    · rintro L ac Wn ⟨l27, l28, l29, l30, l31, l32, l33, l34, l35, l36, l37, l38, l39, rfl, _⟩
      kernel_rfl
    · refine (seg_all (b := 40) [27, 28, 29, 30, 31, 32, 33, 34, 35, 36, 37, 38, 39] ?_ : ∀ j ∈ [27, 28, 29, 30, 31, 32, 33, 34, 35, 36, 37, 38, 39, 40], j ≠ 40 → _)
      refine lin_cons [] [32, 33, 37, 38, 39] rfl (by kernel_rfl) (by kernel_rfl) ?_ ?_
      · intro L ac Wn hI hi hds hus Kc hK
        obtain ⟨l27, l28, l29, l30, l31, l32, l33, l34, l35, l36, l37, l38, l39, rfl, hI⟩ := hI
        obtain rfl : l27 = false := hi
        obtain ⟨rfl, rfl, rfl, rfl, rfl, -⟩ : l32 = false ∧ l33 = false ∧ l37 = false ∧ l38 = false ∧ l39 = false ∧ True := hus
        simp only [sel_f] at hI
        obtain ⟨g54, g56, g60, rfl, hb, hA, hB, hC, hZ, hY, hW30, hW32, hW36⟩ := hI
        obtain ⟨q0, q1, q2, q3, q4, q5⟩ := (hA).facts
        refine lin_yield (.agg #[.bool m, .string s, .int .i64 d]) rfl (by go_simp; first | done | with_reducible rfl) ?_
        exact hK.out _ _ ⟨true, l28, l29, l30, l31, false, false, l34, l35, l36, false, false, false, by kernel_rfl, g54, g56, g60, by kernel_rfl, hb, (hA), (hB), (hC), (hZ), (hY), (fun z0 z1 => (hW30 z0 z1)), (fun h _ => not_ft h), (fun z0 z1 => (hW36 z0 z1))⟩
      refine lin_cons [] [30, 31, 32, 33, 37, 38, 39] rfl (by kernel_rfl) (by kernel_rfl) ?_ ?_
      · intro L ac Wn hI hi hds hus Kc hK
        obtain ⟨l27, l28, l29, l30, l31, l32, l33, l34, l35, l36, l37, l38, l39, rfl, hI⟩ := hI
        obtain rfl : l28 = false := hi
        obtain ⟨rfl, rfl, rfl, rfl, rfl, rfl, rfl, -⟩ : l30 = false ∧ l31 = false ∧ l32 = false ∧ l33 = false ∧ l37 = false ∧ l38 = false ∧ l39 = false ∧ True := hus
        simp only [sel_f] at hI
        obtain ⟨g54, g56, g60, rfl, hb, hA, hB, hC, hZ, hY, hW30, hW32, hW36⟩ := hI
        obtain ⟨q0, q1, q2, q3, q4, q5⟩ := (hB).facts
        refine lin_yield (.agg #[.bool n, .string t, .int .i64 e]) rfl (by go_simp; first | done | with_reducible rfl) ?_
        exact hK.out _ _ ⟨l27, true, l29, false, false, false, false, l34, l35, l36, false, false, false, by kernel_rfl, g54, g56, g60, by kernel_rfl, hb, (hA), (hB), (hC), (hZ), (hY), (fun h _ => not_ft h), (fun h _ => not_ft h), (fun z0 z1 => (hW36 z0 z1))⟩
      refine lin_cons [] [30, 31, 32, 33, 37, 38, 39] rfl (by kernel_rfl) (by kernel_rfl) ?_ ?_
      · intro L ac Wn hI hi hds hus Kc hK
        obtain ⟨l27, l28, l29, l30, l31, l32, l33, l34, l35, l36, l37, l38, l39, rfl, hI⟩ := hI
        obtain rfl : l29 = false := hi
        obtain ⟨rfl, rfl, rfl, rfl, rfl, rfl, rfl, -⟩ : l30 = false ∧ l31 = false ∧ l32 = false ∧ l33 = false ∧ l37 = false ∧ l38 = false ∧ l39 = false ∧ True := hus
        simp only [sel_f] at hI
        obtain ⟨g54, g56, g60, rfl, hb, hA, hB, hC, hZ, hY, hW30, hW32, hW36⟩ := hI
        obtain ⟨q0, q1, q2, q3, q4, q5⟩ := (hC).facts
        refine lin_yield (.agg #[.bool p, .string u, .int .i64 f]) rfl (by go_simp; first | done | with_reducible rfl) ?_
        exact hK.out _ _ ⟨l27, l28, true, false, false, false, false, l34, l35, l36, false, false, false, by kernel_rfl, g54, g56, g60, by kernel_rfl, hb, (hA), (hB), (hC), (hZ), (hY), (fun h _ => not_ft h), (fun h _ => not_ft h), (fun z0 z1 => (hW36 z0 z1))⟩
      refine lin_cons [28, 29] [31, 32, 33, 37, 38, 39] rfl (by kernel_rfl) (by kernel_rfl) ?_ ?_
      · intro L ac Wn hI hi hds hus Kc hK
        obtain ⟨l27, l28, l29, l30, l31, l32, l33, l34, l35, l36, l37, l38, l39, rfl, hI⟩ := hI
        obtain rfl : l30 = false := hi
        obtain ⟨rfl, rfl, -⟩ : l28 = true ∧ l29 = true ∧ True := hds
        obtain ⟨rfl, rfl, rfl, rfl, rfl, rfl, -⟩ : l31 = false ∧ l32 = false ∧ l33 = false ∧ l37 = false ∧ l38 = false ∧ l39 = false ∧ True := hus
        simp only [sel_t, sel_f] at hI
        obtain ⟨g54, g56, g60, rfl, hb, hA, hB, hC, hZ, hY, hW30, hW32, hW36⟩ := hI
        go_simp
        exact hK.out _ _ ⟨l27, true, true, true, false, false, false, l34, l35, l36, false, false, false, by kernel_rfl, _, g56, g60, by kernel_rfl, (hb.alloc hb.size _), (hA.alloc _), (hB.alloc _), (hC.alloc _), (hZ.alloc _), (hY.alloc _), (fun _ _ => NAt.new _ _ _ _ rfl), (fun h _ => not_ft h), (fun z0 z1 => (hW36 z0 z1).alloc _)⟩
      refine lin_cons [28, 29, 30] [32, 33, 37, 38, 39] rfl (by kernel_rfl) (by kernel_rfl) ?_ ?_
      · intro L ac Wn hI hi hds hus Kc hK
        obtain ⟨l27, l28, l29, l30, l31, l32, l33, l34, l35, l36, l37, l38, l39, rfl, hI⟩ := hI
        obtain rfl : l31 = false := hi
        obtain ⟨rfl, rfl, rfl, -⟩ : l28 = true ∧ l29 = true ∧ l30 = true ∧ True := hds
        obtain ⟨rfl, rfl, rfl, rfl, rfl, -⟩ : l32 = false ∧ l33 = false ∧ l37 = false ∧ l38 = false ∧ l39 = false ∧ True := hus
        simp only [sel_t, sel_f] at hI
        obtain ⟨g54, g56, g60, rfl, hb, hA, hB, hC, hZ, hY, hW30, hW32, hW36⟩ := hI
        go_simp
        go_fit (use_yadd2 HO.out.2.1 HO.out.2.2.1 (hW30 rfl rfl) HK.out.2.2.2.2.2.2.1)
        rintro e V ⟨rfl, hq⟩
        exact hK.out _ _ ⟨l27, true, true, true, true, false, false, l34, l35, l36, false, false, false, by kernel_rfl, g54, g56, g60, by kernel_rfl, (below_next hb hq), (hA.below hq), (hB.below hq), (hC.below hq), (hZ.below hq), (hY.below hq), (fun _ h => not_tf h), (fun h _ => not_ft h), (fun z0 z1 => (hW36 z0 z1).below hq)⟩
      refine lin_cons [27, 28, 29, 30, 31] [33, 37, 38, 39] rfl (by kernel_rfl) (by kernel_rfl) ?_ ?_
      · intro L ac Wn hI hi hds hus Kc hK
        obtain ⟨l27, l28, l29, l30, l31, l32, l33, l34, l35, l36, l37, l38, l39, rfl, hI⟩ := hI
        obtain rfl : l32 = false := hi
        obtain ⟨rfl, rfl, rfl, rfl, rfl, -⟩ : l27 = true ∧ l28 = true ∧ l29 = true ∧ l30 = true ∧ l31 = true ∧ True := hds
        obtain ⟨rfl, rfl, rfl, rfl, -⟩ : l33 = false ∧ l37 = false ∧ l38 = false ∧ l39 = false ∧ True := hus
        simp only [sel_t, sel_f] at hI
        obtain ⟨g54, g56, g60, rfl, hb, hA, hB, hC, hZ, hY, hW30, hW32, hW36⟩ := hI
        go_simp
        exact hK.out _ _ ⟨true, true, true, true, true, true, false, l34, l35, l36, false, false, false, by kernel_rfl, g54, _, g60, by kernel_rfl, (hb.alloc hb.size _), (hA.alloc _), (hB.alloc _), (hC.alloc _), (hZ.alloc _), (hY.alloc _), (fun _ h => not_tf h), (fun _ _ => NAt.new _ _ _ _ rfl), (fun z0 z1 => (hW36 z0 z1).alloc _)⟩
      refine lin_cons [27, 28, 29, 30, 31, 32] [37, 38, 39] rfl (by kernel_rfl) (by kernel_rfl) ?_ ?_
      · intro L ac Wn hI hi hds hus Kc hK
        obtain ⟨l27, l28, l29, l30, l31, l32, l33, l34, l35, l36, l37, l38, l39, rfl, hI⟩ := hI
        obtain rfl : l33 = false := hi
        obtain ⟨rfl, rfl, rfl, rfl, rfl, rfl, -⟩ : l27 = true ∧ l28 = true ∧ l29 = true ∧ l30 = true ∧ l31 = true ∧ l32 = true ∧ True := hds
        obtain ⟨rfl, rfl, rfl, -⟩ : l37 = false ∧ l38 = false ∧ l39 = false ∧ True := hus
        simp only [sel_t, sel_f] at hI
        obtain ⟨g54, g56, g60, rfl, hb, hA, hB, hC, hZ, hY, hW30, hW32, hW36⟩ := hI
        go_simp
        go_fit (use_yadd2 HO.out.1 HO.out.2.2.2.2.2.1 (hW32 rfl rfl) HK.out.2.2.2.2.2.2.2.1)
        rintro e V ⟨rfl, hq⟩
        exact hK.out _ _ ⟨true, true, true, true, true, true, true, l34, l35, l36, false, false, false, by kernel_rfl, g54, g56, g60, by kernel_rfl, (below_next hb hq), (hA.below hq), (hB.below hq), (hC.below hq), (hZ.below hq), (hY.below hq), (fun _ h => not_tf h), (fun _ h => not_tf h), (fun z0 z1 => (hW36 z0 z1).below hq)⟩
      refine lin_cons [] [36, 37, 38, 39] rfl (by kernel_rfl) (by kernel_rfl) ?_ ?_
      · intro L ac Wn hI hi hds hus Kc hK
        obtain ⟨l27, l28, l29, l30, l31, l32, l33, l34, l35, l36, l37, l38, l39, rfl, hI⟩ := hI
        obtain rfl : l34 = false := hi
        obtain ⟨rfl, rfl, rfl, rfl, -⟩ : l36 = false ∧ l37 = false ∧ l38 = false ∧ l39 = false ∧ True := hus
        simp only [sel_f] at hI
        obtain ⟨g54, g56, g60, rfl, hb, hA, hB, hC, hZ, hY, hW30, hW32, hW36⟩ := hI
        obtain ⟨q0, q1, q2, q3, q4, q5⟩ := (hZ).facts
        refine lin_yield (.agg #[.bool z1, .string o1, .int .i64 e1]) rfl (by go_simp; first | done | with_reducible rfl) ?_
        exact hK.out _ _ ⟨l27, l28, l29, l30, l31, l32, l33, true, l35, false, false, false, false, by kernel_rfl, g54, g56, g60, by kernel_rfl, hb, (hA), (hB), (hC), (hZ), (hY), (fun z0 z1 => (hW30 z0 z1)), (fun z0 z1 => (hW32 z0 z1)), (fun h _ => not_ft h)⟩
      refine lin_cons [] [36, 37, 38, 39] rfl (by kernel_rfl) (by kernel_rfl) ?_ ?_
      · intro L ac Wn hI hi hds hus Kc hK
        obtain ⟨l27, l28, l29, l30, l31, l32, l33, l34, l35, l36, l37, l38, l39, rfl, hI⟩ := hI
        obtain rfl : l35 = false := hi
        obtain ⟨rfl, rfl, rfl, rfl, -⟩ : l36 = false ∧ l37 = false ∧ l38 = false ∧ l39 = false ∧ True := hus
        simp only [sel_f] at hI
        obtain ⟨g54, g56, g60, rfl, hb, hA, hB, hC, hZ, hY, hW30, hW32, hW36⟩ := hI
        obtain ⟨q0, q1, q2, q3, q4, q5⟩ := (hC).facts
        refine lin_yield (.agg #[.bool p, .string u, .int .i64 f]) rfl (by go_simp; first | done | with_reducible rfl) ?_
        exact hK.out _ _ ⟨l27, l28, l29, l30, l31, l32, l33, l34, true, false, false, false, false, by kernel_rfl, g54, g56, g60, by kernel_rfl, hb, (hA), (hB), (hC), (hZ), (hY), (fun z0 z1 => (hW30 z0 z1)), (fun z0 z1 => (hW32 z0 z1)), (fun h _ => not_ft h)⟩
      refine lin_cons [34, 35] [37, 38, 39] rfl (by kernel_rfl) (by kernel_rfl) ?_ ?_
      · intro L ac Wn hI hi hds hus Kc hK
        obtain ⟨l27, l28, l29, l30, l31, l32, l33, l34, l35, l36, l37, l38, l39, rfl, hI⟩ := hI
        obtain rfl : l36 = false := hi
        obtain ⟨rfl, rfl, -⟩ : l34 = true ∧ l35 = true ∧ True := hds
        obtain ⟨rfl, rfl, rfl, -⟩ : l37 = false ∧ l38 = false ∧ l39 = false ∧ True := hus
        simp only [sel_t, sel_f] at hI
        obtain ⟨g54, g56, g60, rfl, hb, hA, hB, hC, hZ, hY, hW30, hW32, hW36⟩ := hI
        go_simp
        exact hK.out _ _ ⟨l27, l28, l29, l30, l31, l32, l33, true, true, true, false, false, false, by kernel_rfl, g54, g56, _, by kernel_rfl, (hb.alloc hb.size _), (hA.alloc _), (hB.alloc _), (hC.alloc _), (hZ.alloc _), (hY.alloc _), (fun z0 z1 => (hW30 z0 z1).alloc _), (fun z0 z1 => (hW32 z0 z1).alloc _), (fun _ _ => NAt.new _ _ _ _ rfl)⟩
      refine lin_cons [27, 28, 29, 30, 31, 32, 33, 34, 35, 36] [38, 39] rfl (by kernel_rfl) (by kernel_rfl) ?_ ?_
      · intro L ac Wn hI hi hds hus Kc hK
        obtain ⟨l27, l28, l29, l30, l31, l32, l33, l34, l35, l36, l37, l38, l39, rfl, hI⟩ := hI
        obtain rfl : l37 = false := hi
        obtain ⟨rfl, rfl, rfl, rfl, rfl, rfl, rfl, rfl, rfl, rfl, -⟩ : l27 = true ∧ l28 = true ∧ l29 = true ∧ l30 = true ∧ l31 = true ∧ l32 = true ∧ l33 = true ∧ l34 = true ∧ l35 = true ∧ l36 = true ∧ True := hds
        obtain ⟨rfl, rfl, -⟩ : l38 = false ∧ l39 = false ∧ True := hus
        simp only [sel_t, sel_f] at hI
        obtain ⟨g54, g56, g60, rfl, hb, hA, hB, hC, hZ, hY, hW30, hW32, hW36⟩ := hI
        go_simp
        go_fit (use_yadd2 HO.out.2.2.2.1 HO.out.2.2.1 (hW36 rfl rfl) HK.out.2.2.2.2.1)
        rintro e V ⟨rfl, hq⟩
        exact hK.out _ _ ⟨true, true, true, true, true, true, true, true, true, true, true, false, false, by kernel_rfl, g54, g56, g60, by kernel_rfl, (below_next hb hq), (hA.below hq), (hB.below hq), (hC.below hq), (hZ.below hq), (hY.below hq), (fun _ h => not_tf h), (fun _ h => not_tf h), (fun _ h => not_tf h)⟩
      refine lin_cons [27, 28, 29, 30, 31, 32, 33, 34, 35, 36, 37] [39] rfl (by kernel_rfl) (by kernel_rfl) ?_ ?_
      · intro L ac Wn hI hi hds hus Kc hK
        obtain ⟨l27, l28, l29, l30, l31, l32, l33, l34, l35, l36, l37, l38, l39, rfl, hI⟩ := hI
        obtain rfl : l38 = false := hi
        obtain ⟨rfl, rfl, rfl, rfl, rfl, rfl, rfl, rfl, rfl, rfl, rfl, -⟩ : l27 = true ∧ l28 = true ∧ l29 = true ∧ l30 = true ∧ l31 = true ∧ l32 = true ∧ l33 = true ∧ l34 = true ∧ l35 = true ∧ l36 = true ∧ l37 = true ∧ True := hds
        obtain ⟨rfl, -⟩ : l39 = false ∧ True := hus
        simp only [sel_t, sel_f] at hI
        obtain ⟨g54, g56, g60, rfl, hb, hA, hB, hC, hZ, hY, hW30, hW32, hW36⟩ := hI
        refine lin_yield (.bool false) rfl (by go_simp; first | done | with_reducible rfl) ?_
        exact hK.out _ _ ⟨true, true, true, true, true, true, true, true, true, true, true, true, false, by kernel_rfl, g54, g56, g60, by kernel_rfl, hb, (hA), (hB), (hC), (hZ), (hY), (fun _ h => not_tf h), (fun _ h => not_tf h), (fun _ h => not_tf h)⟩
      refine lin_cons [27, 28, 29, 30, 31, 32, 33, 34, 35, 36, 37, 38] [] rfl (by kernel_rfl) (by kernel_rfl) ?_ lin_nil
      intro L ac Wn hI hi hds hus Kc hK
      obtain ⟨l27, l28, l29, l30, l31, l32, l33, l34, l35, l36, l37, l38, l39, rfl, hI⟩ := hI
      obtain rfl : l39 = false := hi
      obtain ⟨rfl, rfl, rfl, rfl, rfl, rfl, rfl, rfl, rfl, rfl, rfl, rfl, -⟩ : l27 = true ∧ l28 = true ∧ l29 = true ∧ l30 = true ∧ l31 = true ∧ l32 = true ∧ l33 = true ∧ l34 = true ∧ l35 = true ∧ l36 = true ∧ l37 = true ∧ l38 = true ∧ True := hds
      simp only [sel_t, sel_f] at hI
      obtain ⟨g54, g56, g60, rfl, hb, hA, hB, hC, hZ, hY, hW30, hW32, hW36⟩ := hI
      refine lin_yield (.bool false) rfl (by go_simp; first | done | with_reducible rfl) ?_
      exact hK.out _ _ ⟨true, true, true, true, true, true, true, true, true, true, true, true, true, by kernel_rfl, g54, g56, g60, by kernel_rfl, hb, (hA), (hB), (hC), (hZ), (hY), (fun _ h => not_tf h), (fun _ h => not_tf h), (fun _ h => not_tf h)⟩
    refine bar_of [27, 28, 29, 30, 31, 32, 33, 34, 35, 36, 37, 38, 39] rfl (by kernel_rfl) ?_
    intro L ac Wn hI hds Kc hK
    obtain ⟨l27, l28, l29, l30, l31, l32, l33, l34, l35, l36, l37, l38, l39, rfl, hI⟩ := hI
    obtain ⟨rfl, rfl, rfl, rfl, rfl, rfl, rfl, rfl, rfl, rfl, rfl, rfl, rfl, -⟩ : l27 = true ∧ l28 = true ∧ l29 = true ∧ l30 = true ∧ l31 = true ∧ l32 = true ∧ l33 = true ∧ l34 = true ∧ l35 = true ∧ l36 = true ∧ l37 = true ∧ l38 = true ∧ l39 = true ∧ True := hds
    simp only [sel_t] at hI
    obtain ⟨g54, g56, g60, rfl, hb, hA, hB, hC, hZ, hY, hW30, hW32, hW36⟩ := hI
    clear hW30
    clear hW32
    clear hW36
    refine lin_yield (.bool false) rfl (by go_simp; first | done | with_reducible rfl) ?_
    refine hK.out _ _ (fun fu hf => ?_)
    clear hK Kc
    refine lin_seg 54 [41, 42, 43, 44, 45, 46, 47, 48, 49, 50, 51, 52, 53] 53 (fun L ac Wn => ∃ l41 l42 l43 l44 l45 l46 l47 l48 l49 l50 l51 l52 : Bool, L = #[true, true, true, true, true, true, true, true, true, true, true, true, true, true, true, true, true, true, true, true, true, true, true, true, true, true, true, true, true, true, true, true, true, true, true, true, true, true, true, true, true, l41, l42, l43, l44, l45, l46, l47, l48, l49, l50, l51, l52, false] ∧ ∃ g67 g72 g74 : Nat, ac = { tmps := #[.agg #[.bool m, .string s, .int .i64 d], .agg #[.bool n, .string t, .int .i64 e], .agg #[.bool p, .string u, .int .i64 f], .pointer (some ⟨w.heap.size, 0, none⟩), .pointer (some ⟨w.heap.size + 1, 0, none⟩), .pointer (some ⟨w.heap.size + 1 + 1, 0, none⟩), .bool false, .pointer (some ⟨p7, 0, none⟩), .pointer (some ⟨p8, 0, none⟩), undef, .agg #[.bool m, .string s, .int .i64 d], .agg #[.bool n, .string t, .int .i64 e], .agg #[.bool p, .string u, .int .i64 f], .slice (some ⟨w.heap.size + 1 + 1 + 1, 0, none⟩) 3 3, .bool false, undef, .agg #[.bool m, .string s, .int .i64 d], .agg #[.bool n, .string t, .int .i64 e], .slice (some ⟨g18, 0, none⟩) 2 2, .agg #[.bool z1, .string o1, .int .i64 e1], .agg #[.bool m, .string s, .int .i64 d], .agg #[.bool n, .string t, .int .i64 e], .slice (some ⟨g22, 0, none⟩) 2 2, .agg #[.bool z2, .string o2, .int .i64 e2], .agg #[.bool z1, .string o1, .int .i64 e1], .agg #[.bool n, .string t, .int .i64 e], .agg #[.bool m, .string s, .int .i64 d], .slice (some ⟨g27, 0, none⟩) 2 2, .agg #[.bool z1, .string o1, .int .i64 e1], .bool false, .bool false, .agg #[.bool z2, .string o2, .int .i64 e2], .agg #[.bool n, .string t, .int .i64 e], .agg #[.bool m, .string s, .int .i64 d], .slice (some ⟨g34, 0, none⟩) 2 2, .agg #[.bool z2, .string o2, .int .i64 e2], .bool false, .bool false, .bool false, .agg #[.bool z1, .string o1, .int .i64 e1], .agg #[.bool p, .string u, .int .i64 f], .slice (some ⟨g41, 0, none⟩) 2 2, .agg #[.bool z3, .string o3, .int .i64 e3], .agg #[.bool m, .string s, .int .i64 d], .agg #[.bool n, .string t, .int .i64 e], .agg #[.bool p, .string u, .int .i64 f], .slice (some ⟨g46, 0, none⟩) 3 3, .agg #[.bool z3, .string o3, .int .i64 e3], .bool false, .bool false, .bool false, .agg #[.bool m, .string s, .int .i64 d], .agg #[.bool n, .string t, .int .i64 e], .agg #[.bool p, .string u, .int .i64 f], .slice (some ⟨g54, 0, none⟩) 2 2, .agg #[.bool z4, .string o4, .int .i64 e4], .slice (some ⟨g56, 0, none⟩) 2 2, .agg #[.bool z3, .string o3, .int .i64 e3], .agg #[.bool z1, .string o1, .int .i64 e1], .agg #[.bool p, .string u, .int .i64 f], .slice (some ⟨g60, 0, none⟩) 2 2, .agg #[.bool z3, .string o3, .int .i64 e3], .bool false, .bool false, .bool false, sel l41 (.agg #[.bool z2, .string o2, .int .i64 e2]) (undef), sel l42 (.agg #[.bool p, .string u, .int .i64 f]) (undef), sel l43 (.slice (some ⟨g67, 0, none⟩) 2 2) (undef), sel l44 (.agg #[.bool z5, .string o5, .int .i64 e5]) (undef), sel l45 (.agg #[.bool m, .string s, .int .i64 d]) (undef), sel l46 (.agg #[.bool n, .string t, .int .i64 e]) (undef), sel l47 (.agg #[.bool p, .string u, .int .i64 f]) (undef), sel l48 (.slice (some ⟨g72, 0, none⟩) 2 2) (undef), sel l49 (.agg #[.bool z6, .string o6, .int .i64 e6]) (undef), sel l50 (.slice (some ⟨g74, 0, none⟩) 2 2) (undef), sel l51 (.agg #[.bool z5, .string o5, .int .i64 e5]) (undef), sel l52 (.bool false) (undef), undef, undef, undef, undef, undef, undef, undef, undef, undef, undef, undef, undef, undef, undef, undef, undef, undef, undef, undef, undef, undef, undef, undef, undef, undef, undef, undef, undef, undef, undef, undef, undef, undef, undef, undef, undef, undef, undef, undef, undef, undef, undef, undef, undef, undef, undef, undef, undef, undef, undef, undef, undef, undef, undef, undef, undef, undef, undef, undef], defers := [] } ∧ Below (w.heap.size) w Wn ∧ (Nk Wn (w.heap.size) m s d) ∧ (Nk Wn (w.heap.size + 1) n t e) ∧ (Nk Wn (w.heap.size + 1 + 1) p u f) ∧ (Nk Wn p7 z1 o1 e1) ∧ (Nk Wn p8 z2 o2 e2) ∧ (On l43 → Off l44 → NAt Wn (some ⟨g67, 0, none⟩) [(z2, o2, e2), (p, u, f)]) ∧ (On l48 → Off l49 → NAt Wn (some ⟨g72, 0, none⟩) [(n, t, e), (p, u, f)]) ∧ (On l50 → Off l51 → NAt Wn (some ⟨g74, 0, none⟩) [(m, s, d), (z6, o6, e6)])) (by kernel_rfl) (by kernel_rfl) (by kernel_rfl) (by kernel_rfl) hf ?_ ?_ ?_ (by kernel_rfl) ?_ (by decide)
    · exact ⟨false, false, false, false, false, false, false, false, false, false, false, false, by kernel_rfl, 0, 0, 0, by kernel_rfl, hb, hA, hB, hC, hZ, hY, (fun h _ => not_ft h), (fun h _ => not_ft h), (fun h _ => not_ft h)⟩
    · rintro L ac Wn ⟨l41, l42, l43, l44, l45, l46, l47, l48, l49, l50, l51, l52, rfl, _⟩
      kernel_rfl
    · refine (seg_all (b := 53) [41, 42, 43, 44, 45, 46, 47, 48, 49, 50, 51, 52] ?_ : ∀ j ∈ [41, 42, 43, 44, 45, 46, 47, 48, 49, 50, 51, 52, 53], j ≠ 53 → _)
      refine lin_cons [] [43, 44, 49, 50, 51, 52] rfl (by kernel_rfl) (by kernel_rfl) ?_ ?_
      · intro L ac Wn hI hi hds hus Kc hK
        obtain ⟨l41, l42, l43, l44, l45, l46, l47, l48, l49, l50, l51, l52, rfl, hI⟩ := hI
        obtain rfl : l41 = false := hi
        obtain ⟨rfl, rfl, rfl, rfl, rfl, rfl, -⟩ : l43 = false ∧ l44 = false ∧ l49 = false ∧ l50 = false ∧ l51 = false ∧ l52 = false ∧ True := hus
        simp only [sel_f] at hI
        obtain ⟨g67, g72, g74, rfl, hb, hA, hB, hC, hZ, hY, hW43, hW48, hW50⟩ := hI
        obtain ⟨q0, q1, q2, q3, q4, q5⟩ := (hY).facts
        refine lin_yield (.agg #[.bool z2, .string o2, .int .i64 e2]) rfl (by go_simp; first | done | with_reducible rfl) ?_
        exact hK.out _ _ ⟨true, l42, false, false, l45, l46, l47, l48, false, false, false, false, by kernel_rfl, g67, g72, g74, by kernel_rfl, hb, (hA), (hB), (hC), (hZ), (hY), (fun h _ => not_ft h), (fun z0 z1 => (hW48 z0 z1)), (fun h _ => not_ft h)⟩
      refine lin_cons [] [43, 44, 49, 50, 51, 52] rfl (by kernel_rfl) (by kernel_rfl) ?_ ?_
      · intro L ac Wn hI hi hds hus Kc hK
        obtain ⟨l41, l42, l43, l44, l45, l46, l47, l48, l49, l50, l51, l52, rfl, hI⟩ := hI
        obtain rfl : l42 = false := hi
        obtain ⟨rfl, rfl, rfl, rfl, rfl, rfl, -⟩ : l43 = false ∧ l44 = false ∧ l49 = false ∧ l50 = false ∧ l51 = false ∧ l52 = false ∧ True := hus
        simp only [sel_f] at hI
        obtain ⟨g67, g72, g74, rfl, hb, hA, hB, hC, hZ, hY, hW43, hW48, hW50⟩ := hI
        obtain ⟨q0, q1, q2, q3, q4, q5⟩ := (hC).facts
        refine lin_yield (.agg #[.bool p, .string u, .int .i64 f]) rfl (by go_simp; first | done | with_reducible rfl) ?_
        exact hK.out _ _ ⟨l41, true, false, false, l45, l46, l47, l48, false, false, false, false, by kernel_rfl, g67, g72, g74, by kernel_rfl, hb, (hA), (hB), (hC), (hZ), (hY), (fun h _ => not_ft h), (fun z0 z1 => (hW48 z0 z1)), (fun h _ => not_ft h)⟩
      refine lin_cons [41, 42] [44, 49, 50, 51, 52] rfl (by kernel_rfl) (by kernel_rfl) ?_ ?_
      · intro L ac Wn hI hi hds hus Kc hK
        obtain ⟨l41, l42, l43, l44, l45, l46, l47, l48, l49, l50, l51, l52, rfl, hI⟩ := hI
        obtain rfl : l43 = false := hi
        obtain ⟨rfl, rfl, -⟩ : l41 = true ∧ l42 = true ∧ True := hds
        obtain ⟨rfl, rfl, rfl, rfl, rfl, -⟩ : l44 = false ∧ l49 = false ∧ l50 = false ∧ l51 = false ∧ l52 = false ∧ True := hus
        simp only [sel_t, sel_f] at hI
        obtain ⟨g67, g72, g74, rfl, hb, hA, hB, hC, hZ, hY, hW43, hW48, hW50⟩ := hI
        go_simp
        exact hK.out _ _ ⟨true, true, true, false, l45, l46, l47, l48, false, false, false, false, by kernel_rfl, _, g72, g74, by kernel_rfl, (hb.alloc hb.size _), (hA.alloc _), (hB.alloc _), (hC.alloc _), (hZ.alloc _), (hY.alloc _), (fun _ _ => NAt.new _ _ _ _ rfl), (fun z0 z1 => (hW48 z0 z1).alloc _), (fun h _ => not_ft h)⟩
      refine lin_cons [41, 42, 43] [49, 50, 51, 52] rfl (by kernel_rfl) (by kernel_rfl) ?_ ?_
      · intro L ac Wn hI hi hds hus Kc hK
        obtain ⟨l41, l42, l43, l44, l45, l46, l47, l48, l49, l50, l51, l52, rfl, hI⟩ := hI
        obtain rfl : l44 = false := hi
        obtain ⟨rfl, rfl, rfl, -⟩ : l41 = true ∧ l42 = true ∧ l43 = true ∧ True := hds
        obtain ⟨rfl, rfl, rfl, rfl, -⟩ : l49 = false ∧ l50 = false ∧ l51 = false ∧ l52 = false ∧ True := hus
        simp only [sel_t, sel_f] at hI
        obtain ⟨g67, g72, g74, rfl, hb, hA, hB, hC, hZ, hY, hW43, hW48, hW50⟩ := hI
        go_simp
        go_fit (use_ymul2 HO.out.2.2.2.2.1 HO.out.2.2.1 (hW43 rfl rfl) HK.out.2.2.2.2.2.2.2.2.1)
        rintro e V ⟨rfl, hq⟩
        exact hK.out _ _ ⟨true, true, true, true, l45, l46, l47, l48, false, false, false, false, by kernel_rfl, g67, g72, g74, by kernel_rfl, (below_next hb hq), (hA.below hq), (hB.below hq), (hC.below hq), (hZ.below hq), (hY.below hq), (fun _ h => not_tf h), (fun z0 z1 => (hW48 z0 z1).below hq), (fun h _ => not_ft h)⟩
      refine lin_cons [] [50, 51, 52] rfl (by kernel_rfl) (by kernel_rfl) ?_ ?_
      · intro L ac Wn hI hi hds hus Kc hK
        obtain ⟨l41, l42, l43, l44, l45, l46, l47, l48, l49, l50, l51, l52, rfl, hI⟩ := hI
        obtain rfl : l45 = false := hi
        obtain ⟨rfl, rfl, rfl, -⟩ : l50 = false ∧ l51 = false ∧ l52 = false ∧ True := hus
        simp only [sel_f] at hI
        obtain ⟨g67, g72, g74, rfl, hb, hA, hB, hC, hZ, hY, hW43, hW48, hW50⟩ := hI
        obtain ⟨q0, q1, q2, q3, q4, q5⟩ := (hA).facts
        refine lin_yield (.agg #[.bool m, .string s, .int .i64 d]) rfl (by go_simp; first | done | with_reducible rfl) ?_
        exact hK.out _ _ ⟨l41, l42, l43, l44, true, l46, l47, l48, l49, false, false, false, by kernel_rfl, g67, g72, g74, by kernel_rfl, hb, (hA), (hB), (hC), (hZ), (hY), (fun z0 z1 => (hW43 z0 z1)), (fun z0 z1 => (hW48 z0 z1)), (fun h _ => not_ft h)⟩
      refine lin_cons [] [48, 49, 50, 51, 52] rfl (by kernel_rfl) (by kernel_rfl) ?_ ?_
      · intro L ac Wn hI hi hds hus Kc hK
        obtain ⟨l41, l42, l43, l44, l45, l46, l47, l48, l49, l50, l51, l52, rfl, hI⟩ := hI
        obtain rfl : l46 = false := hi
        obtain ⟨rfl, rfl, rfl, rfl, rfl, -⟩ : l48 = false ∧ l49 = false ∧ l50 = false ∧ l51 = false ∧ l52 = false ∧ True := hus
        simp only [sel_f] at hI
        obtain ⟨g67, g72, g74, rfl, hb, hA, hB, hC, hZ, hY, hW43, hW48, hW50⟩ := hI
        obtain ⟨q0, q1, q2, q3, q4, q5⟩ := (hB).facts
        refine lin_yield (.agg #[.bool n, .string t, .int .i64 e]) rfl (by go_simp; first | done | with_reducible rfl) ?_
        exact hK.out _ _ ⟨l41, l42, l43, l44, l45, true, l47, false, false, false, false, false, by kernel_rfl, g67, g72, g74, by kernel_rfl, hb, (hA), (hB), (hC), (hZ), (hY), (fun z0 z1 => (hW43 z0 z1)), (fun h _ => not_ft h), (fun h _ => not_ft h)⟩
      refine lin_cons [] [48, 49, 50, 51, 52] rfl (by kernel_rfl) (by kernel_rfl) ?_ ?_
      · intro L ac Wn hI hi hds hus Kc hK
        obtain ⟨l41, l42, l43, l44, l45, l46, l47, l48, l49, l50, l51, l52, rfl, hI⟩ := hI
        obtain rfl : l47 = false := hi
        obtain ⟨rfl, rfl, rfl, rfl, rfl, -⟩ : l48 = false ∧ l49 = false ∧ l50 = false ∧ l51 = false ∧ l52 = false ∧ True := hus
        simp only [sel_f] at hI
        obtain ⟨g67, g72, g74, rfl, hb, hA, hB, hC, hZ, hY, hW43, hW48, hW50⟩ := hI
        obtain ⟨q0, q1, q2, q3, q4, q5⟩ := (hC).facts
        refine lin_yield (.agg #[.bool p, .string u, .int .i64 f]) rfl (by go_simp; first | done | with_reducible rfl) ?_
        exact hK.out _ _ ⟨l41, l42, l43, l44, l45, l46, true, false, false, false, false, false, by kernel_rfl, g67, g72, g74, by kernel_rfl, hb, (hA), (hB), (hC), (hZ), (hY), (fun z0 z1 => (hW43 z0 z1)), (fun h _ => not_ft h), (fun h _ => not_ft h)⟩
      refine lin_cons [46, 47] [49, 50, 51, 52] rfl (by kernel_rfl) (by kernel_rfl) ?_ ?_
      · intro L ac Wn hI hi hds hus Kc hK
        obtain ⟨l41, l42, l43, l44, l45, l46, l47, l48, l49, l50, l51, l52, rfl, hI⟩ := hI
        obtain rfl : l48 = false := hi
        obtain ⟨rfl, rfl, -⟩ : l46 = true ∧ l47 = true ∧ True := hds
        obtain ⟨rfl, rfl, rfl, rfl, -⟩ : l49 = false ∧ l50 = false ∧ l51 = false ∧ l52 = false ∧ True := hus
        simp only [sel_t, sel_f] at hI
        obtain ⟨g67, g72, g74, rfl, hb, hA, hB, hC, hZ, hY, hW43, hW48, hW50⟩ := hI
        go_simp
        exact hK.out _ _ ⟨l41, l42, l43, l44, l45, true, true, true, false, false, false, false, by kernel_rfl, g67, _, g74, by kernel_rfl, (hb.alloc hb.size _), (hA.alloc _), (hB.alloc _), (hC.alloc _), (hZ.alloc _), (hY.alloc _), (fun z0 z1 => (hW43 z0 z1).alloc _), (fun _ _ => NAt.new _ _ _ _ rfl), (fun h _ => not_ft h)⟩
      refine lin_cons [41, 42, 43, 44, 46, 47, 48] [50, 51, 52] rfl (by kernel_rfl) (by kernel_rfl) ?_ ?_
      · intro L ac Wn hI hi hds hus Kc hK
        obtain ⟨l41, l42, l43, l44, l45, l46, l47, l48, l49, l50, l51, l52, rfl, hI⟩ := hI
        obtain rfl : l49 = false := hi
        obtain ⟨rfl, rfl, rfl, rfl, rfl, rfl, rfl, -⟩ : l41 = true ∧ l42 = true ∧ l43 = true ∧ l44 = true ∧ l46 = true ∧ l47 = true ∧ l48 = true ∧ True := hds
        obtain ⟨rfl, rfl, rfl, -⟩ : l50 = false ∧ l51 = false ∧ l52 = false ∧ True := hus
        simp only [sel_t, sel_f] at hI
        obtain ⟨g67, g72, g74, rfl, hb, hA, hB, hC, hZ, hY, hW43, hW48, hW50⟩ := hI
        go_simp
        go_fit (use_ymul2 HO.out.2.1 HO.out.2.2.1 (hW48 rfl rfl) HK.out.2.2.2.2.2.2.2.2.2.1)
        rintro e V ⟨rfl, hq⟩
        exact hK.out _ _ ⟨true, true, true, true, l45, true, true, true, true, false, false, false, by kernel_rfl, g67, g72, g74, by kernel_rfl, (below_next hb hq), (hA.below hq), (hB.below hq), (hC.below hq), (hZ.below hq), (hY.below hq), (fun _ h => not_tf h), (fun _ h => not_tf h), (fun h _ => not_ft h)⟩
      refine lin_cons [41, 42, 43, 44, 45, 46, 47, 48, 49] [51, 52] rfl (by kernel_rfl) (by kernel_rfl) ?_ ?_
      · intro L ac Wn hI hi hds hus Kc hK
        obtain ⟨l41, l42, l43, l44, l45, l46, l47, l48, l49, l50, l51, l52, rfl, hI⟩ := hI
        obtain rfl : l50 = false := hi
        obtain ⟨rfl, rfl, rfl, rfl, rfl, rfl, rfl, rfl, rfl, -⟩ : l41 = true ∧ l42 = true ∧ l43 = true ∧ l44 = true ∧ l45 = true ∧ l46 = true ∧ l47 = true ∧ l48 = true ∧ l49 = true ∧ True := hds
        obtain ⟨rfl, rfl, -⟩ : l51 = false ∧ l52 = false ∧ True := hus
        simp only [sel_t, sel_f] at hI
        obtain ⟨g67, g72, g74, rfl, hb, hA, hB, hC, hZ, hY, hW43, hW48, hW50⟩ := hI
        go_simp
        exact hK.out _ _ ⟨true, true, true, true, true, true, true, true, true, true, false, false, by kernel_rfl, g67, g72, _, by kernel_rfl, (hb.alloc hb.size _), (hA.alloc _), (hB.alloc _), (hC.alloc _), (hZ.alloc _), (hY.alloc _), (fun _ h => not_tf h), (fun _ h => not_tf h), (fun _ _ => NAt.new _ _ _ _ rfl)⟩
      refine lin_cons [41, 42, 43, 44, 45, 46, 47, 48, 49, 50] [52] rfl (by kernel_rfl) (by kernel_rfl) ?_ ?_
      · intro L ac Wn hI hi hds hus Kc hK
        obtain ⟨l41, l42, l43, l44, l45, l46, l47, l48, l49, l50, l51, l52, rfl, hI⟩ := hI
        obtain rfl : l51 = false := hi
        obtain ⟨rfl, rfl, rfl, rfl, rfl, rfl, rfl, rfl, rfl, rfl, -⟩ : l41 = true ∧ l42 = true ∧ l43 = true ∧ l44 = true ∧ l45 = true ∧ l46 = true ∧ l47 = true ∧ l48 = true ∧ l49 = true ∧ l50 = true ∧ True := hds
        obtain ⟨rfl, -⟩ : l52 = false ∧ True := hus
        simp only [sel_t, sel_f] at hI
        obtain ⟨g67, g72, g74, rfl, hb, hA, hB, hC, hZ, hY, hW43, hW48, hW50⟩ := hI
        go_simp
        go_fit (use_ymul2 HO.out.1 HO.out.2.2.2.2.2.2.2.1 (hW50 rfl rfl) HK.out.2.2.2.2.2.2.2.2.2.2.1)
        rintro e V ⟨rfl, hq⟩
        exact hK.out _ _ ⟨true, true, true, true, true, true, true, true, true, true, true, false, by kernel_rfl, g67, g72, g74, by kernel_rfl, (below_next hb hq), (hA.below hq), (hB.below hq), (hC.below hq), (hZ.below hq), (hY.below hq), (fun _ h => not_tf h), (fun _ h => not_tf h), (fun _ h => not_tf h)⟩
      refine lin_cons [41, 42, 43, 44, 45, 46, 47, 48, 49, 50, 51] [] rfl (by kernel_rfl) (by kernel_rfl) ?_ lin_nil
      intro L ac Wn hI hi hds hus Kc hK
      obtain ⟨l41, l42, l43, l44, l45, l46, l47, l48, l49, l50, l51, l52, rfl, hI⟩ := hI
      obtain rfl : l52 = false := hi
      obtain ⟨rfl, rfl, rfl, rfl, rfl, rfl, rfl, rfl, rfl, rfl, rfl, -⟩ : l41 = true ∧ l42 = true ∧ l43 = true ∧ l44 = true ∧ l45 = true ∧ l46 = true ∧ l47 = true ∧ l48 = true ∧ l49 = true ∧ l50 = true ∧ l51 = true ∧ True := hds
      simp only [sel_t, sel_f] at hI
      obtain ⟨g67, g72, g74, rfl, hb, hA, hB, hC, hZ, hY, hW43, hW48, hW50⟩ := hI
      refine lin_yield (.bool false) rfl (by go_simp; first | done | with_reducible rfl) ?_
      exact hK.out _ _ ⟨true, true, true, true, true, true, true, true, true, true, true, true, by kernel_rfl, g67, g72, g74, by kernel_rfl, hb, (hA), (hB), (hC), (hZ), (hY), (fun _ h => not_tf h), (fun _ h => not_tf h), (fun _ h => not_tf h)⟩
    refine bar_of [41, 42, 43, 44, 45, 46, 47, 48, 49, 50, 51, 52] rfl (by kernel_rfl) ?_
    intro L ac Wn hI hds Kc hK
    obtain ⟨l41, l42, l43, l44, l45, l46, l47, l48, l49, l50, l51, l52, rfl, hI⟩ := hI
    obtain ⟨rfl, rfl, rfl, rfl, rfl, rfl, rfl, rfl, rfl, rfl, rfl, rfl, -⟩ : l41 = true ∧ l42 = true ∧ l43 = true ∧ l44 = true ∧ l45 = true ∧ l46 = true ∧ l47 = true ∧ l48 = true ∧ l49 = true ∧ l50 = true ∧ l51 = true ∧ l52 = true ∧ True := hds
    simp only [sel_t] at hI
    obtain ⟨g67, g72, g74, rfl, hb, hA, hB, hC, hZ, hY, hW43, hW48, hW50⟩ := hI
    clear hW43
    clear hW48
    clear hW50
    refine lin_yield (.bool false) rfl (by go_simp; first | done | with_reducible rfl) ?_
    refine hK.out _ _ (fun fu hf => wpAnyH_done (by kernel_rfl) ?_ _)
    clear hK Kc hf
    clear hA0 hA1 hA2 hB0 hB1 hB2 hC0 hC1 hC2 hZ0 hZ1 hZ2 hY0 hY1 hY2
    obtain ⟨hA0, hA1, hA2⟩ := hA.cells
    go_wp2_with fail
    refine (yshift_any _ m s d (-1) (by omega) (by omega) (by omega) z7 o7 e7 HK.out.2.2.2.2.2.2.2.2.2.2.2.1).mono ?_
    rintro e' W2 ⟨rfl, hq⟩
    replace hb := below_next hb hq
    replace hA := hA.below hq
    replace hB := hB.below hq
    replace hC := hC.below hq
    replace hZ := hZ.below hq
    replace hY := hY.below hq
    clear hq hA0 hA1 hA2
    have hH := Nk.new W2 z7 o7 e7
    replace hA := hA.alloc (Obj.cells #[Value.bool z7, Value.string o7, Value.int IntKind.i64 e7] 25)
    replace hB := hB.alloc (Obj.cells #[Value.bool z7, Value.string o7, Value.int IntKind.i64 e7] 25)
    replace hC := hC.alloc (Obj.cells #[Value.bool z7, Value.string o7, Value.int IntKind.i64 e7] 25)
    replace hZ := hZ.alloc (Obj.cells #[Value.bool z7, Value.string o7, Value.int IntKind.i64 e7] 25)
    replace hY := hY.alloc (Obj.cells #[Value.bool z7, Value.string o7, Value.int IntKind.i64 e7] 25)
    replace hb := hb.alloc hb.size (Obj.cells #[Value.bool z7, Value.string o7, Value.int IntKind.i64 e7] 25)
    go_wp2_with fail
    generalize (W2.alloc (Obj.cells #[Value.bool z7, Value.string o7, Value.int IntKind.i64 e7] 25)) = W3 at *
    generalize W2.heap.size = Q7 at *
    refine region_segs (n := 57) #[false, false, false, false, false, false, false, false, false, false, false, false, false, false, false, false, false, false, false, false, false, false, false, false, false, false, false, false, false, false, false, false, false, false, false, false, false, false, false, false, false, false, false, false, false, false, false, false, false, false, false, false, false, false, false, false, false] (by kernel_rfl) (by kernel_rfl) (by kernel_rfl) ?_
    intro fu hf
    refine lin_seg 57 [0, 1, 2, 3, 4, 5, 6, 7, 8, 9, 10, 11, 12, 13, 14, 15] 15 (fun L ac Wn => ∃ l0 l1 l2 l3 l4 l5 l6 l7 l8 l9 l10 l11 l12 l13 l14 : Bool, L = #[l0, l1, l2, l3, l4, l5, l6, l7, l8, l9, l10, l11, l12, l13, l14, false, false, false, false, false, false, false, false, false, false, false, false, false, false, false, false, false, false, false, false, false, false, false, false, false, false, false, false, false, false, false, false, false, false, false, false, false, false, false, false, false, false] ∧ ∃ g82 g86 g90 g92 : Nat, ac = { tmps := #[.agg #[.bool m, .string s, .int .i64 d], .agg #[.bool n, .string t, .int .i64 e], .agg #[.bool p, .string u, .int .i64 f], .pointer (some ⟨w.heap.size, 0, none⟩), .pointer (some ⟨w.heap.size + 1, 0, none⟩), .pointer (some ⟨w.heap.size + 1 + 1, 0, none⟩), .bool false, .pointer (some ⟨p7, 0, none⟩), .pointer (some ⟨p8, 0, none⟩), .pointer (some ⟨Q7, 0, none⟩), .agg #[.bool m, .string s, .int .i64 d], .agg #[.bool n, .string t, .int .i64 e], .agg #[.bool p, .string u, .int .i64 f], .slice (some ⟨w.heap.size + 1 + 1 + 1, 0, none⟩) 3 3, .bool false, undef, .agg #[.bool m, .string s, .int .i64 d], .agg #[.bool n, .string t, .int .i64 e], .slice (some ⟨g18, 0, none⟩) 2 2, .agg #[.bool z1, .string o1, .int .i64 e1], .agg #[.bool m, .string s, .int .i64 d], .agg #[.bool n, .string t, .int .i64 e], .slice (some ⟨g22, 0, none⟩) 2 2, .agg #[.bool z2, .string o2, .int .i64 e2], .agg #[.bool z1, .string o1, .int .i64 e1], .agg #[.bool n, .string t, .int .i64 e], .agg #[.bool m, .string s, .int .i64 d], .slice (some ⟨g27, 0, none⟩) 2 2, .agg #[.bool z1, .string o1, .int .i64 e1], .bool false, .bool false, .agg #[.bool z2, .string o2, .int .i64 e2], .agg #[.bool n, .string t, .int .i64 e], .agg #[.bool m, .string s, .int .i64 d], .slice (some ⟨g34, 0, none⟩) 2 2, .agg #[.bool z2, .string o2, .int .i64 e2], .bool false, .bool false, .bool false, .agg #[.bool z1, .string o1, .int .i64 e1], .agg #[.bool p, .string u, .int .i64 f], .slice (some ⟨g41, 0, none⟩) 2 2, .agg #[.bool z3, .string o3, .int .i64 e3], .agg #[.bool m, .string s, .int .i64 d], .agg #[.bool n, .string t, .int .i64 e], .agg #[.bool p, .string u, .int .i64 f], .slice (some ⟨g46, 0, none⟩) 3 3, .agg #[.bool z3, .string o3, .int .i64 e3], .bool false, .bool false, .bool false, .agg #[.bool m, .string s, .int .i64 d], .agg #[.bool n, .string t, .int .i64 e], .agg #[.bool p, .string u, .int .i64 f], .slice (some ⟨g54, 0, none⟩) 2 2, .agg #[.bool z4, .string o4, .int .i64 e4], .slice (some ⟨g56, 0, none⟩) 2 2, .agg #[.bool z3, .string o3, .int .i64 e3], .agg #[.bool z1, .string o1, .int .i64 e1], .agg #[.bool p, .string u, .int .i64 f], .slice (some ⟨g60, 0, none⟩) 2 2, .agg #[.bool z3, .string o3, .int .i64 e3], .bool false, .bool false, .bool false, .agg #[.bool z2, .string o2, .int .i64 e2], .agg #[.bool p, .string u, .int .i64 f], .slice (some ⟨g67, 0, none⟩) 2 2, .agg #[.bool z5, .string o5, .int .i64 e5], .agg #[.bool m, .string s, .int .i64 d], .agg #[.bool n, .string t, .int .i64 e], .agg #[.bool p, .string u, .int .i64 f], .slice (some ⟨g72, 0, none⟩) 2 2, .agg #[.bool z6, .string o6, .int .i64 e6], .slice (some ⟨g74, 0, none⟩) 2 2, .agg #[.bool z5, .string o5, .int .i64 e5], .bool false, .bool false, .agg #[.bool m, .string s, .int .i64 d], .agg #[.bool z7, .string o7, .int .i64 e7], sel l0 (.agg #[.bool z1, .string o1, .int .i64 e1]) (undef), sel l1 (.agg #[.bool p, .string u, .int .i64 f]) (undef), sel l2 (.slice (some ⟨g82, 0, none⟩) 2 2) (undef), sel l3 (.agg #[.bool z8, .string o8, .int .i64 e8]) (undef), sel l4 (.agg #[.bool m, .string s, .int .i64 d]) (undef), sel l5 (.agg #[.bool p, .string u, .int .i64 f]) (undef), sel l6 (.slice (some ⟨g86, 0, none⟩) 2 2) (undef), sel l7 (.agg #[.bool z9, .string o9, .int .i64 e9]) (undef), sel l8 (.agg #[.bool n, .string t, .int .i64 e]) (undef), sel l9 (.agg #[.bool p, .string u, .int .i64 f]) (undef), sel l10 (.slice (some ⟨g90, 0, none⟩) 2 2) (undef), sel l11 (.agg #[.bool z6, .string o6, .int .i64 e6]) (undef), sel l12 (.slice (some ⟨g92, 0, none⟩) 2 2) (undef), sel l13 (.agg #[.bool z8, .string o8, .int .i64 e8]) (undef), sel l14 (.bool true) (undef), undef, undef, undef, undef, undef, undef, undef, undef, undef, undef, undef, undef, undef, undef, undef, undef, undef, undef, undef, undef, undef, undef, undef, undef, undef, undef, undef, undef, undef, undef, undef, undef, undef, undef, undef, undef, undef, undef, undef, undef, undef], defers := [] } ∧ Below (w.heap.size) w Wn ∧ (Nk Wn (w.heap.size) m s d) ∧ (Nk Wn (w.heap.size + 1) n t e) ∧ (Nk Wn (w.heap.size + 1 + 1) p u f) ∧ (Nk Wn p7 z1 o1 e1) ∧ (Nk Wn p8 z2 o2 e2) ∧ (Nk Wn Q7 z7 o7 e7) ∧ (On l2 → Off l3 → NAt Wn (some ⟨g82, 0, none⟩) [(z1, o1, e1), (p, u, f)]) ∧ (On l6 → Off l7 → NAt Wn (some ⟨g86, 0, none⟩) [(m, s, d), (p, u, f)]) ∧ (On l10 → Off l11 → NAt Wn (some ⟨g90, 0, none⟩) [(n, t, e), (p, u, f)]) ∧ (On l12 → Off l13 → NAt Wn (some ⟨g92, 0, none⟩) [(z9, o9, e9), (z6, o6, e6)])) (by kernel_rfl) (by kernel_rfl) (by kernel_rfl) (by kernel_rfl) hf ?_ ?_ ?_ (by kernel_rfl) ?_ (by decide)
    · exact ⟨false, false, false, false, false, false, false, false, false, false, false, false, false, false, false, by kernel_rfl, 0, 0, 0, 0, by kernel_rfl, hb.drew, hA.drew, hB.drew, hC.drew, hZ.drew, hY.drew, hH.drew, (fun h _ => not_ft h), (fun h _ => not_ft h), (fun h _ => not_ft h), (fun h _ => not_ft h)⟩
    · rintro L ac Wn ⟨l0, l1, l2, l3, l4, l5, l6, l7, l8, l9, l10, l11, l12, l13, l14, rfl, _⟩
      kernel_rfl
    · refine (seg_all (b := 15) [0, 1, 2, 3, 4, 5, 6, 7, 8, 9, 10, 11, 12, 13, 14] ?_ : ∀ j ∈ [0, 1, 2, 3, 4, 5, 6, 7, 8, 9, 10, 11, 12, 13, 14, 15], j ≠ 15 → _)
      refine lin_cons [] [2, 3, 7, 11, 12, 13, 14] rfl (by kernel_rfl) (by kernel_rfl) ?_ ?_
      · intro L ac Wn hI hi hds hus Kc hK
        obtain ⟨l0, l1, l2, l3, l4, l5, l6, l7, l8, l9, l10, l11, l12, l13, l14, rfl, hI⟩ := hI
        obtain rfl : l0 = false := hi
        obtain ⟨rfl, rfl, rfl, rfl, rfl, rfl, rfl, -⟩ : l2 = false ∧ l3 = false ∧ l7 = false ∧ l11 = false ∧ l12 = false ∧ l13 = false ∧ l14 = false ∧ True := hus
        simp only [sel_f] at hI
        obtain ⟨g82, g86, g90, g92, rfl, hb, hA, hB, hC, hZ, hY, hH, hW2, hW6, hW10, hW12⟩ := hI
        obtain ⟨q0, q1, q2, q3, q4, q5⟩ := (hZ).facts
        refine lin_yield (.agg #[.bool z1, .string o1, .int .i64 e1]) rfl (by go_simp; first | done | with_reducible rfl) ?_
        exact hK.out _ _ ⟨true, l1, false, false, l4, l5, l6, false, l8, l9, l10, false, false, false, false, by kernel_rfl, g82, g86, g90, g92, by kernel_rfl, hb, (hA), (hB), (hC), (hZ), (hY), (hH), (fun h _ => not_ft h), (fun z0 z1 => (hW6 z0 z1)), (fun z0 z1 => (hW10 z0 z1)), (fun h _ => not_ft h)⟩
      refine lin_cons [] [2, 3, 7, 11, 12, 13, 14] rfl (by kernel_rfl) (by kernel_rfl) ?_ ?_
      · intro L ac Wn hI hi hds hus Kc hK
        obtain ⟨l0, l1, l2, l3, l4, l5, l6, l7, l8, l9, l10, l11, l12, l13, l14, rfl, hI⟩ := hI
        obtain rfl : l1 = false := hi
        obtain ⟨rfl, rfl, rfl, rfl, rfl, rfl, rfl, -⟩ : l2 = false ∧ l3 = false ∧ l7 = false ∧ l11 = false ∧ l12 = false ∧ l13 = false ∧ l14 = false ∧ True := hus
        simp only [sel_f] at hI
        obtain ⟨g82, g86, g90, g92, rfl, hb, hA, hB, hC, hZ, hY, hH, hW2, hW6, hW10, hW12⟩ := hI
        obtain ⟨q0, q1, q2, q3, q4, q5⟩ := (hC).facts
        refine lin_yield (.agg #[.bool p, .string u, .int .i64 f]) rfl (by go_simp; first | done | with_reducible rfl) ?_
        exact hK.out _ _ ⟨l0, true, false, false, l4, l5, l6, false, l8, l9, l10, false, false, false, false, by kernel_rfl, g82, g86, g90, g92, by kernel_rfl, hb, (hA), (hB), (hC), (hZ), (hY), (hH), (fun h _ => not_ft h), (fun z0 z1 => (hW6 z0 z1)), (fun z0 z1 => (hW10 z0 z1)), (fun h _ => not_ft h)⟩
      refine lin_cons [0, 1] [3, 7, 11, 12, 13, 14] rfl (by kernel_rfl) (by kernel_rfl) ?_ ?_
      · intro L ac Wn hI hi hds hus Kc hK
        obtain ⟨l0, l1, l2, l3, l4, l5, l6, l7, l8, l9, l10, l11, l12, l13, l14, rfl, hI⟩ := hI
        obtain rfl : l2 = false := hi
        obtain ⟨rfl, rfl, -⟩ : l0 = true ∧ l1 = true ∧ True := hds
        obtain ⟨rfl, rfl, rfl, rfl, rfl, rfl, -⟩ : l3 = false ∧ l7 = false ∧ l11 = false ∧ l12 = false ∧ l13 = false ∧ l14 = false ∧ True := hus
        simp only [sel_t, sel_f] at hI
        obtain ⟨g82, g86, g90, g92, rfl, hb, hA, hB, hC, hZ, hY, hH, hW2, hW6, hW10, hW12⟩ := hI
        go_simp
        exact hK.out _ _ ⟨true, true, true, false, l4, l5, l6, false, l8, l9, l10, false, false, false, false, by kernel_rfl, _, g86, g90, g92, by kernel_rfl, (hb.alloc hb.size _), (hA.alloc _), (hB.alloc _), (hC.alloc _), (hZ.alloc _), (hY.alloc _), (hH.alloc _), (fun _ _ => NAt.new _ _ _ _ rfl), (fun z0 z1 => (hW6 z0 z1).alloc _), (fun z0 z1 => (hW10 z0 z1).alloc _), (fun h _ => not_ft h)⟩
      refine lin_cons [0, 1, 2] [7, 11, 12, 13, 14] rfl (by kernel_rfl) (by kernel_rfl) ?_ ?_
      · intro L ac Wn hI hi hds hus Kc hK
        obtain ⟨l0, l1, l2, l3, l4, l5, l6, l7, l8, l9, l10, l11, l12, l13, l14, rfl, hI⟩ := hI
        obtain rfl : l3 = false := hi
        obtain ⟨rfl, rfl, rfl, -⟩ : l0 = true ∧ l1 = true ∧ l2 = true ∧ True := hds
        obtain ⟨rfl, rfl, rfl, rfl, rfl, -⟩ : l7 = false ∧ l11 = false ∧ l12 = false ∧ l13 = false ∧ l14 = false ∧ True := hus
        simp only [sel_t, sel_f] at hI
        obtain ⟨g82, g86, g90, g92, rfl, hb, hA, hB, hC, hZ, hY, hH, hW2, hW6, hW10, hW12⟩ := hI
        go_simp
        go_fit (use_ymul2 HO.out.2.2.2.1 HO.out.2.2.1 (hW2 rfl rfl) HK.out.2.2.2.2.2.2.2.2.2.2.2.2.1)
        rintro e V ⟨rfl, hq⟩
        exact hK.out _ _ ⟨true, true, true, true, l4, l5, l6, false, l8, l9, l10, false, false, false, false, by kernel_rfl, g82, g86, g90, g92, by kernel_rfl, (below_next hb hq), (hA.below hq), (hB.below hq), (hC.below hq), (hZ.below hq), (hY.below hq), (hH.below hq), (fun _ h => not_tf h), (fun z0 z1 => (hW6 z0 z1).below hq), (fun z0 z1 => (hW10 z0 z1).below hq), (fun h _ => not_ft h)⟩
      refine lin_cons [] [6, 7, 11, 12, 13, 14] rfl (by kernel_rfl) (by kernel_rfl) ?_ ?_
      · intro L ac Wn hI hi hds hus Kc hK
        obtain ⟨l0, l1, l2, l3, l4, l5, l6, l7, l8, l9, l10, l11, l12, l13, l14, rfl, hI⟩ := hI
        obtain rfl : l4 = false := hi
        obtain ⟨rfl, rfl, rfl, rfl, rfl, rfl, -⟩ : l6 = false ∧ l7 = false ∧ l11 = false ∧ l12 = false ∧ l13 = false ∧ l14 = false ∧ True := hus
        simp only [sel_f] at hI
        obtain ⟨g82, g86, g90, g92, rfl, hb, hA, hB, hC, hZ, hY, hH, hW2, hW6, hW10, hW12⟩ := hI
        obtain ⟨q0, q1, q2, q3, q4, q5⟩ := (hA).facts
        refine lin_yield (.agg #[.bool m, .string s, .int .i64 d]) rfl (by go_simp; first | done | with_reducible rfl) ?_
        exact hK.out _ _ ⟨l0, l1, l2, l3, true, l5, false, false, l8, l9, l10, false, false, false, false, by kernel_rfl, g82, g86, g90, g92, by kernel_rfl, hb, (hA), (hB), (hC), (hZ), (hY), (hH), (fun z0 z1 => (hW2 z0 z1)), (fun h _ => not_ft h), (fun z0 z1 => (hW10 z0 z1)), (fun h _ => not_ft h)⟩
      refine lin_cons [] [6, 7, 11, 12, 13, 14] rfl (by kernel_rfl) (by kernel_rfl) ?_ ?_
      · intro L ac Wn hI hi hds hus Kc hK
        obtain ⟨l0, l1, l2, l3, l4, l5, l6, l7, l8, l9, l10, l11, l12, l13, l14, rfl, hI⟩ := hI
        obtain rfl : l5 = false := hi
        obtain ⟨rfl, rfl, rfl, rfl, rfl, rfl, -⟩ : l6 = false ∧ l7 = false ∧ l11 = false ∧ l12 = false ∧ l13 = false ∧ l14 = false ∧ True := hus
        simp only [sel_f] at hI
        obtain ⟨g82, g86, g90, g92, rfl, hb, hA, hB, hC, hZ, hY, hH, hW2, hW6, hW10, hW12⟩ := hI
        obtain ⟨q0, q1, q2, q3, q4, q5⟩ := (hC).facts
        refine lin_yield (.agg #[.bool p, .string u, .int .i64 f]) rfl (by go_simp; first | done | with_reducible rfl) ?_
        exact hK.out _ _ ⟨l0, l1, l2, l3, l4, true, false, false, l8, l9, l10, false, false, false, false, by kernel_rfl, g82, g86, g90, g92, by kernel_rfl, hb, (hA), (hB), (hC), (hZ), (hY), (hH), (fun z0 z1 => (hW2 z0 z1)), (fun h _ => not_ft h), (fun z0 z1 => (hW10 z0 z1)), (fun h _ => not_ft h)⟩
      refine lin_cons [4, 5] [7, 11, 12, 13, 14] rfl (by kernel_rfl) (by kernel_rfl) ?_ ?_
      · intro L ac Wn hI hi hds hus Kc hK
        obtain ⟨l0, l1, l2, l3, l4, l5, l6, l7, l8, l9, l10, l11, l12, l13, l14, rfl, hI⟩ := hI
        obtain rfl : l6 = false := hi
        obtain ⟨rfl, rfl, -⟩ : l4 = true ∧ l5 = true ∧ True := hds
        obtain ⟨rfl, rfl, rfl, rfl, rfl, -⟩ : l7 = false ∧ l11 = false ∧ l12 = false ∧ l13 = false ∧ l14 = false ∧ True := hus
        simp only [sel_t, sel_f] at hI
        obtain ⟨g82, g86, g90, g92, rfl, hb, hA, hB, hC, hZ, hY, hH, hW2, hW6, hW10, hW12⟩ := hI
        go_simp
        exact hK.out _ _ ⟨l0, l1, l2, l3, true, true, true, false, l8, l9, l10, false, false, false, false, by kernel_rfl, g82, _, g90, g92, by kernel_rfl, (hb.alloc hb.size _), (hA.alloc _), (hB.alloc _), (hC.alloc _), (hZ.alloc _), (hY.alloc _), (hH.alloc _), (fun z0 z1 => (hW2 z0 z1).alloc _), (fun _ _ => NAt.new _ _ _ _ rfl), (fun z0 z1 => (hW10 z0 z1).alloc _), (fun h _ => not_ft h)⟩
      refine lin_cons [0, 1, 2, 3, 4, 5, 6] [11, 12, 13, 14] rfl (by kernel_rfl) (by kernel_rfl) ?_ ?_
      · intro L ac Wn hI hi hds hus Kc hK
        obtain ⟨l0, l1, l2, l3, l4, l5, l6, l7, l8, l9, l10, l11, l12, l13, l14, rfl, hI⟩ := hI
        obtain rfl : l7 = false := hi
        obtain ⟨rfl, rfl, rfl, rfl, rfl, rfl, rfl, -⟩ : l0 = true ∧ l1 = true ∧ l2 = true ∧ l3 = true ∧ l4 = true ∧ l5 = true ∧ l6 = true ∧ True := hds
        obtain ⟨rfl, rfl, rfl, rfl, -⟩ : l11 = false ∧ l12 = false ∧ l13 = false ∧ l14 = false ∧ True := hus
        simp only [sel_t, sel_f] at hI
        obtain ⟨g82, g86, g90, g92, rfl, hb, hA, hB, hC, hZ, hY, hH, hW2, hW6, hW10, hW12⟩ := hI
        go_simp
        go_fit (use_ymul2 HO.out.1 HO.out.2.2.1 (hW6 rfl rfl) HK.out.2.2.2.2.2.2.2.2.2.2.2.2.2.1)
        rintro e V ⟨rfl, hq⟩
        exact hK.out _ _ ⟨true, true, true, true, true, true, true, true, l8, l9, l10, false, false, false, false, by kernel_rfl, g82, g86, g90, g92, by kernel_rfl, (below_next hb hq), (hA.below hq), (hB.below hq), (hC.below hq), (hZ.below hq), (hY.below hq), (hH.below hq), (fun _ h => not_tf h), (fun _ h => not_tf h), (fun z0 z1 => (hW10 z0 z1).below hq), (fun h _ => not_ft h)⟩
      refine lin_cons [] [10, 11, 12, 13, 14] rfl (by kernel_rfl) (by kernel_rfl) ?_ ?_
      · intro L ac Wn hI hi hds hus Kc hK
        obtain ⟨l0, l1, l2, l3, l4, l5, l6, l7, l8, l9, l10, l11, l12, l13, l14, rfl, hI⟩ := hI
        obtain rfl : l8 = false := hi
        obtain ⟨rfl, rfl, rfl, rfl, rfl, -⟩ : l10 = false ∧ l11 = false ∧ l12 = false ∧ l13 = false ∧ l14 = false ∧ True := hus
        simp only [sel_f] at hI
        obtain ⟨g82, g86, g90, g92, rfl, hb, hA, hB, hC, hZ, hY, hH, hW2, hW6, hW10, hW12⟩ := hI
        obtain ⟨q0, q1, q2, q3, q4, q5⟩ := (hB).facts
        refine lin_yield (.agg #[.bool n, .string t, .int .i64 e]) rfl (by go_simp; first | done | with_reducible rfl) ?_
        exact hK.out _ _ ⟨l0, l1, l2, l3, l4, l5, l6, l7, true, l9, false, false, false, false, false, by kernel_rfl, g82, g86, g90, g92, by kernel_rfl, hb, (hA), (hB), (hC), (hZ), (hY), (hH), (fun z0 z1 => (hW2 z0 z1)), (fun z0 z1 => (hW6 z0 z1)), (fun h _ => not_ft h), (fun h _ => not_ft h)⟩
      refine lin_cons [] [10, 11, 12, 13, 14] rfl (by kernel_rfl) (by kernel_rfl) ?_ ?_
      · intro L ac Wn hI hi hds hus Kc hK
        obtain ⟨l0, l1, l2, l3, l4, l5, l6, l7, l8, l9, l10, l11, l12, l13, l14, rfl, hI⟩ := hI
        obtain rfl : l9 = false := hi
        obtain ⟨rfl, rfl, rfl, rfl, rfl, -⟩ : l10 = false ∧ l11 = false ∧ l12 = false ∧ l13 = false ∧ l14 = false ∧ True := hus
        simp only [sel_f] at hI
        obtain ⟨g82, g86, g90, g92, rfl, hb, hA, hB, hC, hZ, hY, hH, hW2, hW6, hW10, hW12⟩ := hI
        obtain ⟨q0, q1, q2, q3, q4, q5⟩ := (hC).facts
        refine lin_yield (.agg #[.bool p, .string u, .int .i64 f]) rfl (by go_simp; first | done | with_reducible rfl) ?_
        exact hK.out _ _ ⟨l0, l1, l2, l3, l4, l5, l6, l7, l8, true, false, false, false, false, false, by kernel_rfl, g82, g86, g90, g92, by kernel_rfl, hb, (hA), (hB), (hC), (hZ), (hY), (hH), (fun z0 z1 => (hW2 z0 z1)), (fun z0 z1 => (hW6 z0 z1)), (fun h _ => not_ft h), (fun h _ => not_ft h)⟩
      refine lin_cons [8, 9] [11, 12, 13, 14] rfl (by kernel_rfl) (by kernel_rfl) ?_ ?_
      · intro L ac Wn hI hi hds hus Kc hK
        obtain ⟨l0, l1, l2, l3, l4, l5, l6, l7, l8, l9, l10, l11, l12, l13, l14, rfl, hI⟩ := hI
        obtain rfl : l10 = false := hi
        obtain ⟨rfl, rfl, -⟩ : l8 = true ∧ l9 = true ∧ True := hds
        obtain ⟨rfl, rfl, rfl, rfl, -⟩ : l11 = false ∧ l12 = false ∧ l13 = false ∧ l14 = false ∧ True := hus
        simp only [sel_t, sel_f] at hI
        obtain ⟨g82, g86, g90, g92, rfl, hb, hA, hB, hC, hZ, hY, hH, hW2, hW6, hW10, hW12⟩ := hI
        go_simp
        exact hK.out _ _ ⟨l0, l1, l2, l3, l4, l5, l6, l7, true, true, true, false, false, false, false, by kernel_rfl, g82, g86, _, g92, by kernel_rfl, (hb.alloc hb.size _), (hA.alloc _), (hB.alloc _), (hC.alloc _), (hZ.alloc _), (hY.alloc _), (hH.alloc _), (fun z0 z1 => (hW2 z0 z1).alloc _), (fun z0 z1 => (hW6 z0 z1).alloc _), (fun _ _ => NAt.new _ _ _ _ rfl), (fun h _ => not_ft h)⟩
      refine lin_cons [0, 1, 2, 3, 4, 5, 6, 7, 8, 9, 10] [12, 13, 14] rfl (by kernel_rfl) (by kernel_rfl) ?_ ?_
      · intro L ac Wn hI hi hds hus Kc hK
        obtain ⟨l0, l1, l2, l3, l4, l5, l6, l7, l8, l9, l10, l11, l12, l13, l14, rfl, hI⟩ := hI
        obtain rfl : l11 = false := hi
        obtain ⟨rfl, rfl, rfl, rfl, rfl, rfl, rfl, rfl, rfl, rfl, rfl, -⟩ : l0 = true ∧ l1 = true ∧ l2 = true ∧ l3 = true ∧ l4 = true ∧ l5 = true ∧ l6 = true ∧ l7 = true ∧ l8 = true ∧ l9 = true ∧ l10 = true ∧ True := hds
        obtain ⟨rfl, rfl, rfl, -⟩ : l12 = false ∧ l13 = false ∧ l14 = false ∧ True := hus
        simp only [sel_t, sel_f] at hI
        obtain ⟨g82, g86, g90, g92, rfl, hb, hA, hB, hC, hZ, hY, hH, hW2, hW6, hW10, hW12⟩ := hI
        go_simp
        go_fit (use_ymul2 HO.out.2.1 HO.out.2.2.1 (hW10 rfl rfl) HK.out.2.2.2.2.2.2.2.2.2.1)
        rintro e V ⟨rfl, hq⟩
        exact hK.out _ _ ⟨true, true, true, true, true, true, true, true, true, true, true, true, false, false, false, by kernel_rfl, g82, g86, g90, g92, by kernel_rfl, (below_next hb hq), (hA.below hq), (hB.below hq), (hC.below hq), (hZ.below hq), (hY.below hq), (hH.below hq), (fun _ h => not_tf h), (fun _ h => not_tf h), (fun _ h => not_tf h), (fun h _ => not_ft h)⟩
      refine lin_cons [0, 1, 2, 3, 4, 5, 6, 7, 8, 9, 10, 11] [13, 14] rfl (by kernel_rfl) (by kernel_rfl) ?_ ?_
      · intro L ac Wn hI hi hds hus Kc hK
        obtain ⟨l0, l1, l2, l3, l4, l5, l6, l7, l8, l9, l10, l11, l12, l13, l14, rfl, hI⟩ := hI
        obtain rfl : l12 = false := hi
        obtain ⟨rfl, rfl, rfl, rfl, rfl, rfl, rfl, rfl, rfl, rfl, rfl, rfl, -⟩ : l0 = true ∧ l1 = true ∧ l2 = true ∧ l3 = true ∧ l4 = true ∧ l5 = true ∧ l6 = true ∧ l7 = true ∧ l8 = true ∧ l9 = true ∧ l10 = true ∧ l11 = true ∧ True := hds
        obtain ⟨rfl, rfl, -⟩ : l13 = false ∧ l14 = false ∧ True := hus
        simp only [sel_t, sel_f] at hI
        obtain ⟨g82, g86, g90, g92, rfl, hb, hA, hB, hC, hZ, hY, hH, hW2, hW6, hW10, hW12⟩ := hI
        go_simp
        exact hK.out _ _ ⟨true, true, true, true, true, true, true, true, true, true, true, true, true, false, false, by kernel_rfl, g82, g86, g90, _, by kernel_rfl, (hb.alloc hb.size _), (hA.alloc _), (hB.alloc _), (hC.alloc _), (hZ.alloc _), (hY.alloc _), (hH.alloc _), (fun _ h => not_tf h), (fun _ h => not_tf h), (fun _ h => not_tf h), (fun _ _ => NAt.new _ _ _ _ rfl)⟩
      refine lin_cons [0, 1, 2, 3, 4, 5, 6, 7, 8, 9, 10, 11, 12] [14] rfl (by kernel_rfl) (by kernel_rfl) ?_ ?_
      · intro L ac Wn hI hi hds hus Kc hK
        obtain ⟨l0, l1, l2, l3, l4, l5, l6, l7, l8, l9, l10, l11, l12, l13, l14, rfl, hI⟩ := hI
        obtain rfl : l13 = false := hi
        obtain ⟨rfl, rfl, rfl, rfl, rfl, rfl, rfl, rfl, rfl, rfl, rfl, rfl, rfl, -⟩ : l0 = true ∧ l1 = true ∧ l2 = true ∧ l3 = true ∧ l4 = true ∧ l5 = true ∧ l6 = true ∧ l7 = true ∧ l8 = true ∧ l9 = true ∧ l10 = true ∧ l11 = true ∧ l12 = true ∧ True := hds
        obtain ⟨rfl, -⟩ : l14 = false ∧ True := hus
        simp only [sel_t, sel_f] at hI
        obtain ⟨g82, g86, g90, g92, rfl, hb, hA, hB, hC, hZ, hY, hH, hW2, hW6, hW10, hW12⟩ := hI
        go_simp
        go_fit (use_yadd2 HO.out.2.2.2.2.2.2.2.2.2.1 HO.out.2.2.2.2.2.2.2.1 (hW12 rfl rfl) HK.out.2.2.2.2.2.2.2.2.2.2.2.2.2.2.1)
        rintro e V ⟨rfl, hq⟩
        exact hK.out _ _ ⟨true, true, true, true, true, true, true, true, true, true, true, true, true, true, false, by kernel_rfl, g82, g86, g90, g92, by kernel_rfl, (below_next hb hq), (hA.below hq), (hB.below hq), (hC.below hq), (hZ.below hq), (hY.below hq), (hH.below hq), (fun _ h => not_tf h), (fun _ h => not_tf h), (fun _ h => not_tf h), (fun _ h => not_tf h)⟩
      refine lin_cons [0, 1, 2, 3, 4, 5, 6, 7, 8, 9, 10, 11, 12, 13] [] rfl (by kernel_rfl) (by kernel_rfl) ?_ lin_nil
      intro L ac Wn hI hi hds hus Kc hK
      obtain ⟨l0, l1, l2, l3, l4, l5, l6, l7, l8, l9, l10, l11, l12, l13, l14, rfl, hI⟩ := hI
      obtain rfl : l14 = false := hi
      obtain ⟨rfl, rfl, rfl, rfl, rfl, rfl, rfl, rfl, rfl, rfl, rfl, rfl, rfl, rfl, -⟩ : l0 = true ∧ l1 = true ∧ l2 = true ∧ l3 = true ∧ l4 = true ∧ l5 = true ∧ l6 = true ∧ l7 = true ∧ l8 = true ∧ l9 = true ∧ l10 = true ∧ l11 = true ∧ l12 = true ∧ l13 = true ∧ True := hds
      simp only [sel_t, sel_f] at hI
      obtain ⟨g82, g86, g90, g92, rfl, hb, hA, hB, hC, hZ, hY, hH, hW2, hW6, hW10, hW12⟩ := hI
      refine lin_yield (.bool true) rfl (by go_simp; first | done | with_reducible rfl) ?_
      exact hK.out _ _ ⟨true, true, true, true, true, true, true, true, true, true, true, true, true, true, true, by kernel_rfl, g82, g86, g90, g92, by kernel_rfl, hb, (hA), (hB), (hC), (hZ), (hY), (hH), (fun _ h => not_tf h), (fun _ h => not_tf h), (fun _ h => not_tf h), (fun _ h => not_tf h)⟩
    refine bar_of [0, 1, 2, 3, 4, 5, 6, 7, 8, 9, 10, 11, 12, 13, 14] rfl (by kernel_rfl) ?_
    intro L ac Wn hI hds Kc hK
    obtain ⟨l0, l1, l2, l3, l4, l5, l6, l7, l8, l9, l10, l11, l12, l13, l14, rfl, hI⟩ := hI
    obtain ⟨rfl, rfl, rfl, rfl, rfl, rfl, rfl, rfl, rfl, rfl, rfl, rfl, rfl, rfl, rfl, -⟩ : l0 = true ∧ l1 = true ∧ l2 = true ∧ l3 = true ∧ l4 = true ∧ l5 = true ∧ l6 = true ∧ l7 = true ∧ l8 = true ∧ l9 = true ∧ l10 = true ∧ l11 = true ∧ l12 = true ∧ l13 = true ∧ l14 = true ∧ True := hds
    simp only [sel_t] at hI
    obtain ⟨g82, g86, g90, g92, rfl, hb, hA, hB, hC, hZ, hY, hH, hW2, hW6, hW10, hW12⟩ := hI
    clear hW2
    clear hW6
    clear hW10
    clear hW12
    refine lin_yield (.bool true) rfl (by go_simp; first | done | with_reducible rfl) ?_
    refine hK.out _ _ (fun fu hf => ?_)
    clear hK Kc
    refine lin_seg 57 [16, 17, 18, 19, 20, 21, 22, 23] 23 (fun L ac Wn => ∃ l16 l17 l18 l19 l20 l21 l22 : Bool, L = #[true, true, true, true, true, true, true, true, true, true, true, true, true, true, true, true, l16, l17, l18, l19, l20, l21, l22, false, false, false, false, false, false, false, false, false, false, false, false, false, false, false, false, false, false, false, false, false, false, false, false, false, false, false, false, false, false, false, false, false, false] ∧ ac = { tmps := #[.agg #[.bool m, .string s, .int .i64 d], .agg #[.bool n, .string t, .int .i64 e], .agg #[.bool p, .string u, .int .i64 f], .pointer (some ⟨w.heap.size, 0, none⟩), .pointer (some ⟨w.heap.size + 1, 0, none⟩), .pointer (some ⟨w.heap.size + 1 + 1, 0, none⟩), .bool false, .pointer (some ⟨p7, 0, none⟩), .pointer (some ⟨p8, 0, none⟩), .pointer (some ⟨Q7, 0, none⟩), .agg #[.bool m, .string s, .int .i64 d], .agg #[.bool n, .string t, .int .i64 e], .agg #[.bool p, .string u, .int .i64 f], .slice (some ⟨w.heap.size + 1 + 1 + 1, 0, none⟩) 3 3, .bool false, undef, .agg #[.bool m, .string s, .int .i64 d], .agg #[.bool n, .string t, .int .i64 e], .slice (some ⟨g18, 0, none⟩) 2 2, .agg #[.bool z1, .string o1, .int .i64 e1], .agg #[.bool m, .string s, .int .i64 d], .agg #[.bool n, .string t, .int .i64 e], .slice (some ⟨g22, 0, none⟩) 2 2, .agg #[.bool z2, .string o2, .int .i64 e2], .agg #[.bool z1, .string o1, .int .i64 e1], .agg #[.bool n, .string t, .int .i64 e], .agg #[.bool m, .string s, .int .i64 d], .slice (some ⟨g27, 0, none⟩) 2 2, .agg #[.bool z1, .string o1, .int .i64 e1], .bool false, .bool false, .agg #[.bool z2, .string o2, .int .i64 e2], .agg #[.bool n, .string t, .int .i64 e], .agg #[.bool m, .string s, .int .i64 d], .slice (some ⟨g34, 0, none⟩) 2 2, .agg #[.bool z2, .string o2, .int .i64 e2], .bool false, .bool false, .bool false, .agg #[.bool z1, .string o1, .int .i64 e1], .agg #[.bool p, .string u, .int .i64 f], .slice (some ⟨g41, 0, none⟩) 2 2, .agg #[.bool z3, .string o3, .int .i64 e3], .agg #[.bool m, .string s, .int .i64 d], .agg #[.bool n, .string t, .int .i64 e], .agg #[.bool p, .string u, .int .i64 f], .slice (some ⟨g46, 0, none⟩) 3 3, .agg #[.bool z3, .string o3, .int .i64 e3], .bool false, .bool false, .bool false, .agg #[.bool m, .string s, .int .i64 d], .agg #[.bool n, .string t, .int .i64 e], .agg #[.bool p, .string u, .int .i64 f], .slice (some ⟨g54, 0, none⟩) 2 2, .agg #[.bool z4, .string o4, .int .i64 e4], .slice (some ⟨g56, 0, none⟩) 2 2, .agg #[.bool z3, .string o3, .int .i64 e3], .agg #[.bool z1, .string o1, .int .i64 e1], .agg #[.bool p, .string u, .int .i64 f], .slice (some ⟨g60, 0, none⟩) 2 2, .agg #[.bool z3, .string o3, .int .i64 e3], .bool false, .bool false, .bool false, .agg #[.bool z2, .string o2, .int .i64 e2], .agg #[.bool p, .string u, .int .i64 f], .slice (some ⟨g67, 0, none⟩) 2 2, .agg #[.bool z5, .string o5, .int .i64 e5], .agg #[.bool m, .string s, .int .i64 d], .agg #[.bool n, .string t, .int .i64 e], .agg #[.bool p, .string u, .int .i64 f], .slice (some ⟨g72, 0, none⟩) 2 2, .agg #[.bool z6, .string o6, .int .i64 e6], .slice (some ⟨g74, 0, none⟩) 2 2, .agg #[.bool z5, .string o5, .int .i64 e5], .bool false, .bool false, .agg #[.bool m, .string s, .int .i64 d], .agg #[.bool z7, .string o7, .int .i64 e7], .agg #[.bool z1, .string o1, .int .i64 e1], .agg #[.bool p, .string u, .int .i64 f], .slice (some ⟨g82, 0, none⟩) 2 2, .agg #[.bool z8, .string o8, .int .i64 e8], .agg #[.bool m, .string s, .int .i64 d], .agg #[.bool p, .string u, .int .i64 f], .slice (some ⟨g86, 0, none⟩) 2 2, .agg #[.bool z9, .string o9, .int .i64 e9], .agg #[.bool n, .string t, .int .i64 e], .agg #[.bool p, .string u, .int .i64 f], .slice (some ⟨g90, 0, none⟩) 2 2, .agg #[.bool z6, .string o6, .int .i64 e6], .slice (some ⟨g92, 0, none⟩) 2 2, .agg #[.bool z8, .string o8, .int .i64 e8], .bool true, .bool true, sel l16 (.agg #[.bool z1, .string o1, .int .i64 e1]) (undef), sel l17 (.agg #[.bool n, .string t, .int .i64 e]) (undef), sel l18 (.agg #[.bool z10, .string o10, .int .i64 e10]) (undef), sel l19 (.agg #[.bool m, .string s, .int .i64 d]) (undef), sel l20 (.agg #[.bool z10, .string o10, .int .i64 e10]) (undef), sel l21 (.bool true) (undef), sel l22 (.bool true) (undef), undef, undef, undef, undef, undef, undef, undef, undef, undef, undef, undef, undef, undef, undef, undef, undef, undef, undef, undef, undef, undef, undef, undef, undef, undef, undef, undef, undef, undef, undef, undef, undef, undef], defers := [] } ∧ Below (w.heap.size) w Wn ∧ (Nk Wn (w.heap.size) m s d) ∧ (Nk Wn (w.heap.size + 1) n t e) ∧ (Nk Wn (w.heap.size + 1 + 1) p u f) ∧ (Nk Wn p7 z1 o1 e1) ∧ (Nk Wn p8 z2 o2 e2) ∧ (Nk Wn Q7 z7 o7 e7)) (by kernel_rfl) (by kernel_rfl) (by kernel_rfl) (by kernel_rfl) hf ?_ ?_ ?_ (by kernel_rfl) ?_ (by decide)
    · exact ⟨false, false, false, false, false, false, false, by kernel_rfl, by kernel_rfl, hb, hA, hB, hC, hZ, hY, hH⟩
    · rintro L ac Wn ⟨l16, l17, l18, l19, l20, l21, l22, rfl, _⟩
      kernel_rfl
    · refine (seg_all (b := 23) [16, 17, 18, 19, 20, 21, 22] ?_ : ∀ j ∈ [16, 17, 18, 19, 20, 21, 22, 23], j ≠ 23 → _)
      refine lin_cons [] [18, 20, 21, 22] rfl (by kernel_rfl) (by kernel_rfl) ?_ ?_
      · intro L ac Wn hI hi hds hus Kc hK
        obtain ⟨l16, l17, l18, l19, l20, l21, l22, rfl, hI⟩ := hI
        obtain rfl : l16 = false := hi
        obtain ⟨rfl, rfl, rfl, rfl, -⟩ : l18 = false ∧ l20 = false ∧ l21 = false ∧ l22 = false ∧ True := hus
        simp only [sel_f] at hI
        obtain ⟨rfl, hb, hA, hB, hC, hZ, hY, hH⟩ := hI
        obtain ⟨q0, q1, q2, q3, q4, q5⟩ := (hZ).facts
        refine lin_yield (.agg #[.bool z1, .string o1, .int .i64 e1]) rfl (by go_simp; first | done | with_reducible rfl) ?_
        exact hK.out _ _ ⟨true, l17, false, l19, false, false, false, by kernel_rfl, by kernel_rfl, hb, (hA), (hB), (hC), (hZ), (hY), (hH)⟩
      refine lin_cons [] [18, 20, 21, 22] rfl (by kernel_rfl) (by kernel_rfl) ?_ ?_
      · intro L ac Wn hI hi hds hus Kc hK
        obtain ⟨l16, l17, l18, l19, l20, l21, l22, rfl, hI⟩ := hI
        obtain rfl : l17 = false := hi
        obtain ⟨rfl, rfl, rfl, rfl, -⟩ : l18 = false ∧ l20 = false ∧ l21 = false ∧ l22 = false ∧ True := hus
        simp only [sel_f] at hI
        obtain ⟨rfl, hb, hA, hB, hC, hZ, hY, hH⟩ := hI
        obtain ⟨q0, q1, q2, q3, q4, q5⟩ := (hB).facts
        refine lin_yield (.agg #[.bool n, .string t, .int .i64 e]) rfl (by go_simp; first | done | with_reducible rfl) ?_
        exact hK.out _ _ ⟨l16, true, false, l19, false, false, false, by kernel_rfl, by kernel_rfl, hb, (hA), (hB), (hC), (hZ), (hY), (hH)⟩
      refine lin_cons [16, 17] [20, 21, 22] rfl (by kernel_rfl) (by kernel_rfl) ?_ ?_
      · intro L ac Wn hI hi hds hus Kc hK
        obtain ⟨l16, l17, l18, l19, l20, l21, l22, rfl, hI⟩ := hI
        obtain rfl : l18 = false := hi
        obtain ⟨rfl, rfl, -⟩ : l16 = true ∧ l17 = true ∧ True := hds
        obtain ⟨rfl, rfl, rfl, -⟩ : l20 = false ∧ l21 = false ∧ l22 = false ∧ True := hus
        simp only [sel_t, sel_f] at hI
        obtain ⟨rfl, hb, hA, hB, hC, hZ, hY, hH⟩ := hI
        go_simp
        go_fit (use_ysub HO.out.2.2.2.1 HO.out.2.1 HK.out.2.2.2.2.2.2.2.2.2.2.2.2.2.2.2.1)
        rintro e V ⟨rfl, hq⟩
        exact hK.out _ _ ⟨true, true, true, l19, false, false, false, by kernel_rfl, by kernel_rfl, (below_next hb hq), (hA.below hq), (hB.below hq), (hC.below hq), (hZ.below hq), (hY.below hq), (hH.below hq)⟩
      refine lin_cons [] [20, 21, 22] rfl (by kernel_rfl) (by kernel_rfl) ?_ ?_
      · intro L ac Wn hI hi hds hus Kc hK
        obtain ⟨l16, l17, l18, l19, l20, l21, l22, rfl, hI⟩ := hI
        obtain rfl : l19 = false := hi
        obtain ⟨rfl, rfl, rfl, -⟩ : l20 = false ∧ l21 = false ∧ l22 = false ∧ True := hus
        simp only [sel_f] at hI
        obtain ⟨rfl, hb, hA, hB, hC, hZ, hY, hH⟩ := hI
        obtain ⟨q0, q1, q2, q3, q4, q5⟩ := (hA).facts
        refine lin_yield (.agg #[.bool m, .string s, .int .i64 d]) rfl (by go_simp; first | done | with_reducible rfl) ?_
        exact hK.out _ _ ⟨l16, l17, l18, true, false, false, false, by kernel_rfl, by kernel_rfl, hb, (hA), (hB), (hC), (hZ), (hY), (hH)⟩
      refine lin_cons [16, 17, 18, 19] [21, 22] rfl (by kernel_rfl) (by kernel_rfl) ?_ ?_
      · intro L ac Wn hI hi hds hus Kc hK
        obtain ⟨l16, l17, l18, l19, l20, l21, l22, rfl, hI⟩ := hI
        obtain rfl : l20 = false := hi
        obtain ⟨rfl, rfl, rfl, rfl, -⟩ : l16 = true ∧ l17 = true ∧ l18 = true ∧ l19 = true ∧ True := hds
        obtain ⟨rfl, rfl, -⟩ : l21 = false ∧ l22 = false ∧ True := hus
        simp only [sel_t, sel_f] at hI
        obtain ⟨rfl, hb, hA, hB, hC, hZ, hY, hH⟩ := hI
        go_simp
        go_fit (use_yform HO.out.1 HK.out.2.2.2.2.2.2.2.2.2.2.2.2.2.2.2.2.2.1)
        rintro e V ⟨rfl, hq⟩
        exact hK.out _ _ ⟨true, true, true, true, true, false, false, by kernel_rfl, by kernel_rfl, (below_next hb hq), (hA.below hq), (hB.below hq), (hC.below hq), (hZ.below hq), (hY.below hq), (hH.below hq)⟩
      refine lin_cons [16, 17, 18, 19, 20] [22] rfl (by kernel_rfl) (by kernel_rfl) ?_ ?_
      · intro L ac Wn hI hi hds hus Kc hK
        obtain ⟨l16, l17, l18, l19, l20, l21, l22, rfl, hI⟩ := hI
        obtain rfl : l21 = false := hi
        obtain ⟨rfl, rfl, rfl, rfl, rfl, -⟩ : l16 = true ∧ l17 = true ∧ l18 = true ∧ l19 = true ∧ l20 = true ∧ True := hds
        obtain ⟨rfl, -⟩ : l22 = false ∧ True := hus
        simp only [sel_t, sel_f] at hI
        obtain ⟨rfl, hb, hA, hB, hC, hZ, hY, hH⟩ := hI
        refine lin_yield (.bool true) rfl (by go_simp; first | done | with_reducible rfl) ?_
        exact hK.out _ _ ⟨true, true, true, true, true, true, false, by kernel_rfl, by kernel_rfl, hb, (hA), (hB), (hC), (hZ), (hY), (hH)⟩
      refine lin_cons [16, 17, 18, 19, 20, 21] [] rfl (by kernel_rfl) (by kernel_rfl) ?_ lin_nil
      intro L ac Wn hI hi hds hus Kc hK
      obtain ⟨l16, l17, l18, l19, l20, l21, l22, rfl, hI⟩ := hI
      obtain rfl : l22 = false := hi
      obtain ⟨rfl, rfl, rfl, rfl, rfl, rfl, -⟩ : l16 = true ∧ l17 = true ∧ l18 = true ∧ l19 = true ∧ l20 = true ∧ l21 = true ∧ True := hds
      simp only [sel_t, sel_f] at hI
      obtain ⟨rfl, hb, hA, hB, hC, hZ, hY, hH⟩ := hI
      refine lin_yield (.bool true) rfl (by go_simp; first | done | with_reducible rfl) ?_
      exact hK.out _ _ ⟨true, true, true, true, true, true, true, by kernel_rfl, by kernel_rfl, hb, (hA), (hB), (hC), (hZ), (hY), (hH)⟩
    refine bar_of [16, 17, 18, 19, 20, 21, 22] rfl (by kernel_rfl) ?_
    intro L ac Wn hI hds Kc hK
    obtain ⟨l16, l17, l18, l19, l20, l21, l22, rfl, hI⟩ := hI
    obtain ⟨rfl, rfl, rfl, rfl, rfl, rfl, rfl, -⟩ : l16 = true ∧ l17 = true ∧ l18 = true ∧ l19 = true ∧ l20 = true ∧ l21 = true ∧ l22 = true ∧ True := hds
    simp only [sel_t] at hI
    obtain ⟨rfl, hb, hA, hB, hC, hZ, hY, hH⟩ := hI
    refine lin_yield (.bool true) rfl (by go_simp; first | done | with_reducible rfl) ?_
    refine hK.out _ _ (fun fu hf => ?_)
    clear hK Kc
    refine lin_seg 57 [24, 25, 26, 27, 28, 29, 30, 31, 32] 32 (fun L ac Wn => ∃ l24 l25 l26 l27 l28 l29 l30 l31 : Bool, L = #[true, true, true, true, true, true, true, true, true, true, true, true, true, true, true, true, true, true, true, true, true, true, true, true, l24, l25, l26, l27, l28, l29, l30, l31, false, false, false, false, false, false, false, false, false, false, false, false, false, false, false, false, false, false, false, false, false, false, false, false, false] ∧ ∃ g106 : Nat, ac = { tmps := #[.agg #[.bool m, .string s, .int .i64 d], .agg #[.bool n, .string t, .int .i64 e], .agg #[.bool p, .string u, .int .i64 f], .pointer (some ⟨w.heap.size, 0, none⟩), .pointer (some ⟨w.heap.size + 1, 0, none⟩), .pointer (some ⟨w.heap.size + 1 + 1, 0, none⟩), .bool false, .pointer (some ⟨p7, 0, none⟩), .pointer (some ⟨p8, 0, none⟩), .pointer (some ⟨Q7, 0, none⟩), .agg #[.bool m, .string s, .int .i64 d], .agg #[.bool n, .string t, .int .i64 e], .agg #[.bool p, .string u, .int .i64 f], .slice (some ⟨w.heap.size + 1 + 1 + 1, 0, none⟩) 3 3, .bool false, undef, .agg #[.bool m, .string s, .int .i64 d], .agg #[.bool n, .string t, .int .i64 e], .slice (some ⟨g18, 0, none⟩) 2 2, .agg #[.bool z1, .string o1, .int .i64 e1], .agg #[.bool m, .string s, .int .i64 d], .agg #[.bool n, .string t, .int .i64 e], .slice (some ⟨g22, 0, none⟩) 2 2, .agg #[.bool z2, .string o2, .int .i64 e2], .agg #[.bool z1, .string o1, .int .i64 e1], .agg #[.bool n, .string t, .int .i64 e], .agg #[.bool m, .string s, .int .i64 d], .slice (some ⟨g27, 0, none⟩) 2 2, .agg #[.bool z1, .string o1, .int .i64 e1], .bool false, .bool false, .agg #[.bool z2, .string o2, .int .i64 e2], .agg #[.bool n, .string t, .int .i64 e], .agg #[.bool m, .string s, .int .i64 d], .slice (some ⟨g34, 0, none⟩) 2 2, .agg #[.bool z2, .string o2, .int .i64 e2], .bool false, .bool false, .bool false, .agg #[.bool z1, .string o1, .int .i64 e1], .agg #[.bool p, .string u, .int .i64 f], .slice (some ⟨g41, 0, none⟩) 2 2, .agg #[.bool z3, .string o3, .int .i64 e3], .agg #[.bool m, .string s, .int .i64 d], .agg #[.bool n, .string t, .int .i64 e], .agg #[.bool p, .string u, .int .i64 f], .slice (some ⟨g46, 0, none⟩) 3 3, .agg #[.bool z3, .string o3, .int .i64 e3], .bool false, .bool false, .bool false, .agg #[.bool m, .string s, .int .i64 d], .agg #[.bool n, .string t, .int .i64 e], .agg #[.bool p, .string u, .int .i64 f], .slice (some ⟨g54, 0, none⟩) 2 2, .agg #[.bool z4, .string o4, .int .i64 e4], .slice (some ⟨g56, 0, none⟩) 2 2, .agg #[.bool z3, .string o3, .int .i64 e3], .agg #[.bool z1, .string o1, .int .i64 e1], .agg #[.bool p, .string u, .int .i64 f], .slice (some ⟨g60, 0, none⟩) 2 2, .agg #[.bool z3, .string o3, .int .i64 e3], .bool false, .bool false, .bool false, .agg #[.bool z2, .string o2, .int .i64 e2], .agg #[.bool p, .string u, .int .i64 f], .slice (some ⟨g67, 0, none⟩) 2 2, .agg #[.bool z5, .string o5, .int .i64 e5], .agg #[.bool m, .string s, .int .i64 d], .agg #[.bool n, .string t, .int .i64 e], .agg #[.bool p, .string u, .int .i64 f], .slice (some ⟨g72, 0, none⟩) 2 2, .agg #[.bool z6, .string o6, .int .i64 e6], .slice (some ⟨g74, 0, none⟩) 2 2, .agg #[.bool z5, .string o5, .int .i64 e5], .bool false, .bool false, .agg #[.bool m, .string s, .int .i64 d], .agg #[.bool z7, .string o7, .int .i64 e7], .agg #[.bool z1, .string o1, .int .i64 e1], .agg #[.bool p, .string u, .int .i64 f], .slice (some ⟨g82, 0, none⟩) 2 2, .agg #[.bool z8, .string o8, .int .i64 e8], .agg #[.bool m, .string s, .int .i64 d], .agg #[.bool p, .string u, .int .i64 f], .slice (some ⟨g86, 0, none⟩) 2 2, .agg #[.bool z9, .string o9, .int .i64 e9], .agg #[.bool n, .string t, .int .i64 e], .agg #[.bool p, .string u, .int .i64 f], .slice (some ⟨g90, 0, none⟩) 2 2, .agg #[.bool z6, .string o6, .int .i64 e6], .slice (some ⟨g92, 0, none⟩) 2 2, .agg #[.bool z8, .string o8, .int .i64 e8], .bool true, .bool true, .agg #[.bool z1, .string o1, .int .i64 e1], .agg #[.bool n, .string t, .int .i64 e], .agg #[.bool z10, .string o10, .int .i64 e10], .agg #[.bool m, .string s, .int .i64 d], .agg #[.bool z10, .string o10, .int .i64 e10], .bool true, .bool true, .bool true, sel l24 (.agg #[.bool z7, .string o7, .int .i64 e7]) (undef), sel l25 (.agg #[.bool z7, .string o7, .int .i64 e7]) (undef), sel l26 (.slice (some ⟨g106, 0, none⟩) 2 2) (undef), sel l27 (.agg #[.bool z10, .string o10, .int .i64 e10]) (undef), sel l28 (.agg #[.bool m, .string s, .int .i64 d]) (undef), sel l29 (.agg #[.bool z10, .string o10, .int .i64 e10]) (undef), sel l30 (.bool true) (undef), sel l31 (.bool true) (undef), undef, undef, undef, undef, undef, undef, undef, undef, undef, undef, undef, undef, undef, undef, undef, undef, undef, undef, undef, undef, undef, undef, undef, undef], defers := [] } ∧ Below (w.heap.size) w Wn ∧ (Nk Wn (w.heap.size) m s d) ∧ (Nk Wn (w.heap.size + 1) n t e) ∧ (Nk Wn (w.heap.size + 1 + 1) p u f) ∧ (Nk Wn p7 z1 o1 e1) ∧ (Nk Wn p8 z2 o2 e2) ∧ (Nk Wn Q7 z7 o7 e7) ∧ (On l26 → Off l27 → NAt Wn (some ⟨g106, 0, none⟩) [(z7, o7, e7), (z7, o7, e7)])) (by kernel_rfl) (by kernel_rfl) (by kernel_rfl) (by kernel_rfl) hf ?_ ?_ ?_ (by kernel_rfl) ?_ (by decide)
    · exact ⟨false, false, false, false, false, false, false, false, by kernel_rfl, 0, by kernel_rfl, hb, hA, hB, hC, hZ, hY, hH, (fun h _ => not_ft h)⟩
    · rintro L ac Wn ⟨l24, l25, l26, l27, l28, l29, l30, l31, rfl, _⟩
      kernel_rfl
    · refine (seg_all (b := 32) [24, 25, 26, 27, 28, 29, 30, 31] ?_ : ∀ j ∈ [24, 25, 26, 27, 28, 29, 30, 31, 32], j ≠ 32 → _)
      refine lin_cons [] [26, 27, 29, 30, 31] rfl (by kernel_rfl) (by kernel_rfl) ?_ ?_
      · intro L ac Wn hI hi hds hus Kc hK
        obtain ⟨l24, l25, l26, l27, l28, l29, l30, l31, rfl, hI⟩ := hI
        obtain rfl : l24 = false := hi
        obtain ⟨rfl, rfl, rfl, rfl, rfl, -⟩ : l26 = false ∧ l27 = false ∧ l29 = false ∧ l30 = false ∧ l31 = false ∧ True := hus
        simp only [sel_f] at hI
        obtain ⟨g106, rfl, hb, hA, hB, hC, hZ, hY, hH, hW26⟩ := hI
        obtain ⟨q0, q1, q2, q3, q4, q5⟩ := (hH).facts
        refine lin_yield (.agg #[.bool z7, .string o7, .int .i64 e7]) rfl (by go_simp; first | done | with_reducible rfl) ?_
        exact hK.out _ _ ⟨true, l25, false, false, l28, false, false, false, by kernel_rfl, g106, by kernel_rfl, hb, (hA), (hB), (hC), (hZ), (hY), (hH), (fun h _ => not_ft h)⟩
      refine lin_cons [] [26, 27, 29, 30, 31] rfl (by kernel_rfl) (by kernel_rfl) ?_ ?_
      · intro L ac Wn hI hi hds hus Kc hK
        obtain ⟨l24, l25, l26, l27, l28, l29, l30, l31, rfl, hI⟩ := hI
        obtain rfl : l25 = false := hi
        obtain ⟨rfl, rfl, rfl, rfl, rfl, -⟩ : l26 = false ∧ l27 = false ∧ l29 = false ∧ l30 = false ∧ l31 = false ∧ True := hus
        simp only [sel_f] at hI
        obtain ⟨g106, rfl, hb, hA, hB, hC, hZ, hY, hH, hW26⟩ := hI
        obtain ⟨q0, q1, q2, q3, q4, q5⟩ := (hH).facts
        refine lin_yield (.agg #[.bool z7, .string o7, .int .i64 e7]) rfl (by go_simp; first | done | with_reducible rfl) ?_
        exact hK.out _ _ ⟨l24, true, false, false, l28, false, false, false, by kernel_rfl, g106, by kernel_rfl, hb, (hA), (hB), (hC), (hZ), (hY), (hH), (fun h _ => not_ft h)⟩
      refine lin_cons [24, 25] [27, 29, 30, 31] rfl (by kernel_rfl) (by kernel_rfl) ?_ ?_
      · intro L ac Wn hI hi hds hus Kc hK
        obtain ⟨l24, l25, l26, l27, l28, l29, l30, l31, rfl, hI⟩ := hI
        obtain rfl : l26 = false := hi
        obtain ⟨rfl, rfl, -⟩ : l24 = true ∧ l25 = true ∧ True := hds
        obtain ⟨rfl, rfl, rfl, rfl, -⟩ : l27 = false ∧ l29 = false ∧ l30 = false ∧ l31 = false ∧ True := hus
        simp only [sel_t, sel_f] at hI
        obtain ⟨g106, rfl, hb, hA, hB, hC, hZ, hY, hH, hW26⟩ := hI
        go_simp
        exact hK.out _ _ ⟨true, true, true, false, l28, false, false, false, by kernel_rfl, _, by kernel_rfl, (hb.alloc hb.size _), (hA.alloc _), (hB.alloc _), (hC.alloc _), (hZ.alloc _), (hY.alloc _), (hH.alloc _), (fun _ _ => NAt.new _ _ _ _ rfl)⟩
      refine lin_cons [24, 25, 26] [29, 30, 31] rfl (by kernel_rfl) (by kernel_rfl) ?_ ?_
      · intro L ac Wn hI hi hds hus Kc hK
        obtain ⟨l24, l25, l26, l27, l28, l29, l30, l31, rfl, hI⟩ := hI
        obtain rfl : l27 = false := hi
        obtain ⟨rfl, rfl, rfl, -⟩ : l24 = true ∧ l25 = true ∧ l26 = true ∧ True := hds
        obtain ⟨rfl, rfl, rfl, -⟩ : l29 = false ∧ l30 = false ∧ l31 = false ∧ True := hus
        simp only [sel_t, sel_f] at hI
        obtain ⟨g106, rfl, hb, hA, hB, hC, hZ, hY, hH, hW26⟩ := hI
        go_simp
        go_fit (use_yadd2 HO.out.2.2.2.2.2.2.2.2.1 HO.out.2.2.2.2.2.2.2.2.1 (hW26 rfl rfl) HK.out.2.2.2.2.2.2.2.2.2.2.2.2.2.2.2.2.1)
        rintro e V ⟨rfl, hq⟩
        exact hK.out _ _ ⟨true, true, true, true, l28, false, false, false, by kernel_rfl, g106, by kernel_rfl, (below_next hb hq), (hA.below hq), (hB.below hq), (hC.below hq), (hZ.below hq), (hY.below hq), (hH.below hq), (fun _ h => not_tf h)⟩
      refine lin_cons [] [29, 30, 31] rfl (by kernel_rfl) (by kernel_rfl) ?_ ?_
      · intro L ac Wn hI hi hds hus Kc hK
        obtain ⟨l24, l25, l26, l27, l28, l29, l30, l31, rfl, hI⟩ := hI
        obtain rfl : l28 = false := hi
        obtain ⟨rfl, rfl, rfl, -⟩ : l29 = false ∧ l30 = false ∧ l31 = false ∧ True := hus
        simp only [sel_f] at hI
        obtain ⟨g106, rfl, hb, hA, hB, hC, hZ, hY, hH, hW26⟩ := hI
        obtain ⟨q0, q1, q2, q3, q4, q5⟩ := (hA).facts
        refine lin_yield (.agg #[.bool m, .string s, .int .i64 d]) rfl (by go_simp; first | done | with_reducible rfl) ?_
        exact hK.out _ _ ⟨l24, l25, l26, l27, true, false, false, false, by kernel_rfl, g106, by kernel_rfl, hb, (hA), (hB), (hC), (hZ), (hY), (hH), (fun z0 z1 => (hW26 z0 z1))⟩
      refine lin_cons [24, 25, 26, 27, 28] [30, 31] rfl (by kernel_rfl) (by kernel_rfl) ?_ ?_
      · intro L ac Wn hI hi hds hus Kc hK
        obtain ⟨l24, l25, l26, l27, l28, l29, l30, l31, rfl, hI⟩ := hI
        obtain rfl : l29 = false := hi
        obtain ⟨rfl, rfl, rfl, rfl, rfl, -⟩ : l24 = true ∧ l25 = true ∧ l26 = true ∧ l27 = true ∧ l28 = true ∧ True := hds
        obtain ⟨rfl, rfl, -⟩ : l30 = false ∧ l31 = false ∧ True := hus
        simp only [sel_t, sel_f] at hI
        obtain ⟨g106, rfl, hb, hA, hB, hC, hZ, hY, hH, hW26⟩ := hI
        go_simp
        go_fit (use_yform HO.out.1 HK.out.2.2.2.2.2.2.2.2.2.2.2.2.2.2.2.2.2.1)
        rintro e V ⟨rfl, hq⟩
        exact hK.out _ _ ⟨true, true, true, true, true, true, false, false, by kernel_rfl, g106, by kernel_rfl, (below_next hb hq), (hA.below hq), (hB.below hq), (hC.below hq), (hZ.below hq), (hY.below hq), (hH.below hq), (fun _ h => not_tf h)⟩
      refine lin_cons [24, 25, 26, 27, 28, 29] [31] rfl (by kernel_rfl) (by kernel_rfl) ?_ ?_
      · intro L ac Wn hI hi hds hus Kc hK
        obtain ⟨l24, l25, l26, l27, l28, l29, l30, l31, rfl, hI⟩ := hI
        obtain rfl : l30 = false := hi
        obtain ⟨rfl, rfl, rfl, rfl, rfl, rfl, -⟩ : l24 = true ∧ l25 = true ∧ l26 = true ∧ l27 = true ∧ l28 = true ∧ l29 = true ∧ True := hds
        obtain ⟨rfl, -⟩ : l31 = false ∧ True := hus
        simp only [sel_t, sel_f] at hI
        obtain ⟨g106, rfl, hb, hA, hB, hC, hZ, hY, hH, hW26⟩ := hI
        refine lin_yield (.bool true) rfl (by go_simp; first | done | with_reducible rfl) ?_
        exact hK.out _ _ ⟨true, true, true, true, true, true, true, false, by kernel_rfl, g106, by kernel_rfl, hb, (hA), (hB), (hC), (hZ), (hY), (hH), (fun _ h => not_tf h)⟩
      refine lin_cons [24, 25, 26, 27, 28, 29, 30] [] rfl (by kernel_rfl) (by kernel_rfl) ?_ lin_nil
      intro L ac Wn hI hi hds hus Kc hK
      obtain ⟨l24, l25, l26, l27, l28, l29, l30, l31, rfl, hI⟩ := hI
      obtain rfl : l31 = false := hi
      obtain ⟨rfl, rfl, rfl, rfl, rfl, rfl, rfl, -⟩ : l24 = true ∧ l25 = true ∧ l26 = true ∧ l27 = true ∧ l28 = true ∧ l29 = true ∧ l30 = true ∧ True := hds
      simp only [sel_t, sel_f] at hI
      obtain ⟨g106, rfl, hb, hA, hB, hC, hZ, hY, hH, hW26⟩ := hI
      refine lin_yield (.bool true) rfl (by go_simp; first | done | with_reducible rfl) ?_
      exact hK.out _ _ ⟨true, true, true, true, true, true, true, true, by kernel_rfl, g106, by kernel_rfl, hb, (hA), (hB), (hC), (hZ), (hY), (hH), (fun _ h => not_tf h)⟩
    refine bar_of [24, 25, 26, 27, 28, 29, 30, 31] rfl (by kernel_rfl) ?_
    intro L ac Wn hI hds Kc hK
    obtain ⟨l24, l25, l26, l27, l28, l29, l30, l31, rfl, hI⟩ := hI
    obtain ⟨rfl, rfl, rfl, rfl, rfl, rfl, rfl, rfl, -⟩ : l24 = true ∧ l25 = true ∧ l26 = true ∧ l27 = true ∧ l28 = true ∧ l29 = true ∧ l30 = true ∧ l31 = true ∧ True := hds
    simp only [sel_t] at hI
    obtain ⟨g106, rfl, hb, hA, hB, hC, hZ, hY, hH, hW26⟩ := hI
    clear hW26
    refine lin_yield (.bool true) rfl (by go_simp; first | done | with_reducible rfl) ?_
    refine hK.out _ _ (fun fu hf => ?_)
    clear hK Kc
    refine lin_seg 57 [33, 34, 35, 36, 37, 38] 38 (fun L ac Wn => ∃ l33 l34 l35 l36 l37 : Bool, L = #[true, true, true, true, true, true, true, true, true, true, true, true, true, true, true, true, true, true, true, true, true, true, true, true, true, true, true, true, true, true, true, true, true, l33, l34, l35, l36, l37, false, false, false, false, false, false, false, false, false, false, false, false, false, false, false, false, false, false, false] ∧ ac = { tmps := #[.agg #[.bool m, .string s, .int .i64 d], .agg #[.bool n, .string t, .int .i64 e], .agg #[.bool p, .string u, .int .i64 f], .pointer (some ⟨w.heap.size, 0, none⟩), .pointer (some ⟨w.heap.size + 1, 0, none⟩), .pointer (some ⟨w.heap.size + 1 + 1, 0, none⟩), .bool false, .pointer (some ⟨p7, 0, none⟩), .pointer (some ⟨p8, 0, none⟩), .pointer (some ⟨Q7, 0, none⟩), .agg #[.bool m, .string s, .int .i64 d], .agg #[.bool n, .string t, .int .i64 e], .agg #[.bool p, .string u, .int .i64 f], .slice (some ⟨w.heap.size + 1 + 1 + 1, 0, none⟩) 3 3, .bool false, undef, .agg #[.bool m, .string s, .int .i64 d], .agg #[.bool n, .string t, .int .i64 e], .slice (some ⟨g18, 0, none⟩) 2 2, .agg #[.bool z1, .string o1, .int .i64 e1], .agg #[.bool m, .string s, .int .i64 d], .agg #[.bool n, .string t, .int .i64 e], .slice (some ⟨g22, 0, none⟩) 2 2, .agg #[.bool z2, .string o2, .int .i64 e2], .agg #[.bool z1, .string o1, .int .i64 e1], .agg #[.bool n, .string t, .int .i64 e], .agg #[.bool m, .string s, .int .i64 d], .slice (some ⟨g27, 0, none⟩) 2 2, .agg #[.bool z1, .string o1, .int .i64 e1], .bool false, .bool false, .agg #[.bool z2, .string o2, .int .i64 e2], .agg #[.bool n, .string t, .int .i64 e], .agg #[.bool m, .string s, .int .i64 d], .slice (some ⟨g34, 0, none⟩) 2 2, .agg #[.bool z2, .string o2, .int .i64 e2], .bool false, .bool false, .bool false, .agg #[.bool z1, .string o1, .int .i64 e1], .agg #[.bool p, .string u, .int .i64 f], .slice (some ⟨g41, 0, none⟩) 2 2, .agg #[.bool z3, .string o3, .int .i64 e3], .agg #[.bool m, .string s, .int .i64 d], .agg #[.bool n, .string t, .int .i64 e], .agg #[.bool p, .string u, .int .i64 f], .slice (some ⟨g46, 0, none⟩) 3 3, .agg #[.bool z3, .string o3, .int .i64 e3], .bool false, .bool false, .bool false, .agg #[.bool m, .string s, .int .i64 d], .agg #[.bool n, .string t, .int .i64 e], .agg #[.bool p, .string u, .int .i64 f], .slice (some ⟨g54, 0, none⟩) 2 2, .agg #[.bool z4, .string o4, .int .i64 e4], .slice (some ⟨g56, 0, none⟩) 2 2, .agg #[.bool z3, .string o3, .int .i64 e3], .agg #[.bool z1, .string o1, .int .i64 e1], .agg #[.bool p, .string u, .int .i64 f], .slice (some ⟨g60, 0, none⟩) 2 2, .agg #[.bool z3, .string o3, .int .i64 e3], .bool false, .bool false, .bool false, .agg #[.bool z2, .string o2, .int .i64 e2], .agg #[.bool p, .string u, .int .i64 f], .slice (some ⟨g67, 0, none⟩) 2 2, .agg #[.bool z5, .string o5, .int .i64 e5], .agg #[.bool m, .string s, .int .i64 d], .agg #[.bool n, .string t, .int .i64 e], .agg #[.bool p, .string u, .int .i64 f], .slice (some ⟨g72, 0, none⟩) 2 2, .agg #[.bool z6, .string o6, .int .i64 e6], .slice (some ⟨g74, 0, none⟩) 2 2, .agg #[.bool z5, .string o5, .int .i64 e5], .bool false, .bool false, .agg #[.bool m, .string s, .int .i64 d], .agg #[.bool z7, .string o7, .int .i64 e7], .agg #[.bool z1, .string o1, .int .i64 e1], .agg #[.bool p, .string u, .int .i64 f], .slice (some ⟨g82, 0, none⟩) 2 2, .agg #[.bool z8, .string o8, .int .i64 e8], .agg #[.bool m, .string s, .int .i64 d], .agg #[.bool p, .string u, .int .i64 f], .slice (some ⟨g86, 0, none⟩) 2 2, .agg #[.bool z9, .string o9, .int .i64 e9], .agg #[.bool n, .string t, .int .i64 e], .agg #[.bool p, .string u, .int .i64 f], .slice (some ⟨g90, 0, none⟩) 2 2, .agg #[.bool z6, .string o6, .int .i64 e6], .slice (some ⟨g92, 0, none⟩) 2 2, .agg #[.bool z8, .string o8, .int .i64 e8], .bool true, .bool true, .agg #[.bool z1, .string o1, .int .i64 e1], .agg #[.bool n, .string t, .int .i64 e], .agg #[.bool z10, .string o10, .int .i64 e10], .agg #[.bool m, .string s, .int .i64 d], .agg #[.bool z10, .string o10, .int .i64 e10], .bool true, .bool true, .bool true, .agg #[.bool z7, .string o7, .int .i64 e7], .agg #[.bool z7, .string o7, .int .i64 e7], .slice (some ⟨g106, 0, none⟩) 2 2, .agg #[.bool z10, .string o10, .int .i64 e10], .agg #[.bool m, .string s, .int .i64 d], .agg #[.bool z10, .string o10, .int .i64 e10], .bool true, .bool true, .bool true, sel l33 (.agg #[.bool z1, .string o1, .int .i64 e1]) (undef), sel l34 (.agg #[.bool z1, .string o1, .int .i64 e1]) (undef), sel l35 (.agg #[.bool z1, .string o1, .int .i64 e1]) (undef), sel l36 (.bool true) (undef), sel l37 (.bool true) (undef), undef, undef, undef, undef, undef, undef, undef, undef, undef, undef, undef, undef, undef, undef, undef, undef, undef, undef], defers := [] } ∧ Below (w.heap.size) w Wn ∧ (Nk Wn (w.heap.size) m s d) ∧ (Nk Wn (w.heap.size + 1) n t e) ∧ (Nk Wn (w.heap.size + 1 + 1) p u f) ∧ (Nk Wn p7 z1 o1 e1) ∧ (Nk Wn p8 z2 o2 e2) ∧ (Nk Wn Q7 z7 o7 e7)) (by kernel_rfl) (by kernel_rfl) (by kernel_rfl) (by kernel_rfl) hf ?_ ?_ ?_ (by kernel_rfl) ?_ (by decide)
    · exact ⟨false, false, false, false, false, by kernel_rfl, by kernel_rfl, hb, hA, hB, hC, hZ, hY, hH⟩
    · rintro L ac Wn ⟨l33, l34, l35, l36, l37, rfl, _⟩
      kernel_rfl
    · refine (seg_all (b := 38) [33, 34, 35, 36, 37] ?_ : ∀ j ∈ [33, 34, 35, 36, 37, 38], j ≠ 38 → _)
      refine lin_cons [] [34, 36, 37] rfl (by kernel_rfl) (by kernel_rfl) ?_ ?_
      · intro L ac Wn hI hi hds hus Kc hK
        obtain ⟨l33, l34, l35, l36, l37, rfl, hI⟩ := hI
        obtain rfl : l33 = false := hi
        obtain ⟨rfl, rfl, rfl, -⟩ : l34 = false ∧ l36 = false ∧ l37 = false ∧ True := hus
        simp only [sel_f] at hI
        obtain ⟨rfl, hb, hA, hB, hC, hZ, hY, hH⟩ := hI
        obtain ⟨q0, q1, q2, q3, q4, q5⟩ := (hZ).facts
        refine lin_yield (.agg #[.bool z1, .string o1, .int .i64 e1]) rfl (by go_simp; first | done | with_reducible rfl) ?_
        exact hK.out _ _ ⟨true, false, l35, false, false, by kernel_rfl, by kernel_rfl, hb, (hA), (hB), (hC), (hZ), (hY), (hH)⟩
      refine lin_cons [33] [36, 37] rfl (by kernel_rfl) (by kernel_rfl) ?_ ?_
      · intro L ac Wn hI hi hds hus Kc hK
        obtain ⟨l33, l34, l35, l36, l37, rfl, hI⟩ := hI
        obtain rfl : l34 = false := hi
        obtain ⟨rfl, -⟩ : l33 = true ∧ True := hds
        obtain ⟨rfl, rfl, -⟩ : l36 = false ∧ l37 = false ∧ True := hus
        simp only [sel_t, sel_f] at hI
        obtain ⟨rfl, hb, hA, hB, hC, hZ, hY, hH⟩ := hI
        go_simp
        go_fit (use_yform HO.out.2.2.2.1 HK.out.2.2.2.2.2.2.2.2.2.2.2.2.2.2.2.2.2.2.1)
        rintro e V ⟨rfl, hq⟩
        exact hK.out _ _ ⟨true, true, l35, false, false, by kernel_rfl, by kernel_rfl, (below_next hb hq), (hA.below hq), (hB.below hq), (hC.below hq), (hZ.below hq), (hY.below hq), (hH.below hq)⟩
      refine lin_cons [] [36, 37] rfl (by kernel_rfl) (by kernel_rfl) ?_ ?_
      · intro L ac Wn hI hi hds hus Kc hK
        obtain ⟨l33, l34, l35, l36, l37, rfl, hI⟩ := hI
        obtain rfl : l35 = false := hi
        obtain ⟨rfl, rfl, -⟩ : l36 = false ∧ l37 = false ∧ True := hus
        simp only [sel_f] at hI
        obtain ⟨rfl, hb, hA, hB, hC, hZ, hY, hH⟩ := hI
        obtain ⟨q0, q1, q2, q3, q4, q5⟩ := (hZ).facts
        refine lin_yield (.agg #[.bool z1, .string o1, .int .i64 e1]) rfl (by go_simp; first | done | with_reducible rfl) ?_
        exact hK.out _ _ ⟨l33, l34, true, false, false, by kernel_rfl, by kernel_rfl, hb, (hA), (hB), (hC), (hZ), (hY), (hH)⟩
      refine lin_cons [33, 34, 35] [37] rfl (by kernel_rfl) (by kernel_rfl) ?_ ?_
      · intro L ac Wn hI hi hds hus Kc hK
        obtain ⟨l33, l34, l35, l36, l37, rfl, hI⟩ := hI
        obtain rfl : l36 = false := hi
        obtain ⟨rfl, rfl, rfl, -⟩ : l33 = true ∧ l34 = true ∧ l35 = true ∧ True := hds
        obtain ⟨rfl, -⟩ : l37 = false ∧ True := hus
        simp only [sel_t, sel_f] at hI
        obtain ⟨rfl, hb, hA, hB, hC, hZ, hY, hH⟩ := hI
        refine lin_yield (.bool true) rfl (by go_simp; first | done | with_reducible rfl) ?_
        exact hK.out _ _ ⟨true, true, true, true, false, by kernel_rfl, by kernel_rfl, hb, (hA), (hB), (hC), (hZ), (hY), (hH)⟩
      refine lin_cons [33, 34, 35, 36] [] rfl (by kernel_rfl) (by kernel_rfl) ?_ lin_nil
      intro L ac Wn hI hi hds hus Kc hK
      obtain ⟨l33, l34, l35, l36, l37, rfl, hI⟩ := hI
      obtain rfl : l37 = false := hi
      obtain ⟨rfl, rfl, rfl, rfl, -⟩ : l33 = true ∧ l34 = true ∧ l35 = true ∧ l36 = true ∧ True := hds
      simp only [sel_t, sel_f] at hI
      obtain ⟨rfl, hb, hA, hB, hC, hZ, hY, hH⟩ := hI
      refine lin_yield (.bool true) rfl (by go_simp; first | done | with_reducible rfl) ?_
      exact hK.out _ _ ⟨true, true, true, true, true, by kernel_rfl, by kernel_rfl, hb, (hA), (hB), (hC), (hZ), (hY), (hH)⟩
    refine bar_of [33, 34, 35, 36, 37] rfl (by kernel_rfl) ?_
    intro L ac Wn hI hds Kc hK
    obtain ⟨l33, l34, l35, l36, l37, rfl, hI⟩ := hI
    obtain ⟨rfl, rfl, rfl, rfl, rfl, -⟩ : l33 = true ∧ l34 = true ∧ l35 = true ∧ l36 = true ∧ l37 = true ∧ True := hds
    simp only [sel_t] at hI
    obtain ⟨rfl, hb, hA, hB, hC, hZ, hY, hH⟩ := hI
    refine lin_yield (.bool true) rfl (by go_simp; first | done | with_reducible rfl) ?_
    refine hK.out _ _ (fun fu hf => ?_)
    clear hK Kc
    refine lin_seg 57 [39, 40, 41, 42, 43, 44] 44 (fun L ac Wn => ∃ l39 l40 l41 l42 l43 : Bool, L = #[true, true, true, true, true, true, true, true, true, true, true, true, true, true, true, true, true, true, true, true, true, true, true, true, true, true, true, true, true, true, true, true, true, true, true, true, true, true, true, l39, l40, l41, l42, l43, false, false, false, false, false, false, false, false, false, false, false, false, false] ∧ ac = { tmps := #[.agg #[.bool m, .string s, .int .i64 d], .agg #[.bool n, .string t, .int .i64 e], .agg #[.bool p, .string u, .int .i64 f], .pointer (some ⟨w.heap.size, 0, none⟩), .pointer (some ⟨w.heap.size + 1, 0, none⟩), .pointer (some ⟨w.heap.size + 1 + 1, 0, none⟩), .bool false, .pointer (some ⟨p7, 0, none⟩), .pointer (some ⟨p8, 0, none⟩), .pointer (some ⟨Q7, 0, none⟩), .agg #[.bool m, .string s, .int .i64 d], .agg #[.bool n, .string t, .int .i64 e], .agg #[.bool p, .string u, .int .i64 f], .slice (some ⟨w.heap.size + 1 + 1 + 1, 0, none⟩) 3 3, .bool false, undef, .agg #[.bool m, .string s, .int .i64 d], .agg #[.bool n, .string t, .int .i64 e], .slice (some ⟨g18, 0, none⟩) 2 2, .agg #[.bool z1, .string o1, .int .i64 e1], .agg #[.bool m, .string s, .int .i64 d], .agg #[.bool n, .string t, .int .i64 e], .slice (some ⟨g22, 0, none⟩) 2 2, .agg #[.bool z2, .string o2, .int .i64 e2], .agg #[.bool z1, .string o1, .int .i64 e1], .agg #[.bool n, .string t, .int .i64 e], .agg #[.bool m, .string s, .int .i64 d], .slice (some ⟨g27, 0, none⟩) 2 2, .agg #[.bool z1, .string o1, .int .i64 e1], .bool false, .bool false, .agg #[.bool z2, .string o2, .int .i64 e2], .agg #[.bool n, .string t, .int .i64 e], .agg #[.bool m, .string s, .int .i64 d], .slice (some ⟨g34, 0, none⟩) 2 2, .agg #[.bool z2, .string o2, .int .i64 e2], .bool false, .bool false, .bool false, .agg #[.bool z1, .string o1, .int .i64 e1], .agg #[.bool p, .string u, .int .i64 f], .slice (some ⟨g41, 0, none⟩) 2 2, .agg #[.bool z3, .string o3, .int .i64 e3], .agg #[.bool m, .string s, .int .i64 d], .agg #[.bool n, .string t, .int .i64 e], .agg #[.bool p, .string u, .int .i64 f], .slice (some ⟨g46, 0, none⟩) 3 3, .agg #[.bool z3, .string o3, .int .i64 e3], .bool false, .bool false, .bool false, .agg #[.bool m, .string s, .int .i64 d], .agg #[.bool n, .string t, .int .i64 e], .agg #[.bool p, .string u, .int .i64 f], .slice (some ⟨g54, 0, none⟩) 2 2, .agg #[.bool z4, .string o4, .int .i64 e4], .slice (some ⟨g56, 0, none⟩) 2 2, .agg #[.bool z3, .string o3, .int .i64 e3], .agg #[.bool z1, .string o1, .int .i64 e1], .agg #[.bool p, .string u, .int .i64 f], .slice (some ⟨g60, 0, none⟩) 2 2, .agg #[.bool z3, .string o3, .int .i64 e3], .bool false, .bool false, .bool false, .agg #[.bool z2, .string o2, .int .i64 e2], .agg #[.bool p, .string u, .int .i64 f], .slice (some ⟨g67, 0, none⟩) 2 2, .agg #[.bool z5, .string o5, .int .i64 e5], .agg #[.bool m, .string s, .int .i64 d], .agg #[.bool n, .string t, .int .i64 e], .agg #[.bool p, .string u, .int .i64 f], .slice (some ⟨g72, 0, none⟩) 2 2, .agg #[.bool z6, .string o6, .int .i64 e6], .slice (some ⟨g74, 0, none⟩) 2 2, .agg #[.bool z5, .string o5, .int .i64 e5], .bool false, .bool false, .agg #[.bool m, .string s, .int .i64 d], .agg #[.bool z7, .string o7, .int .i64 e7], .agg #[.bool z1, .string o1, .int .i64 e1], .agg #[.bool p, .string u, .int .i64 f], .slice (some ⟨g82, 0, none⟩) 2 2, .agg #[.bool z8, .string o8, .int .i64 e8], .agg #[.bool m, .string s, .int .i64 d], .agg #[.bool p, .string u, .int .i64 f], .slice (some ⟨g86, 0, none⟩) 2 2, .agg #[.bool z9, .string o9, .int .i64 e9], .agg #[.bool n, .string t, .int .i64 e], .agg #[.bool p, .string u, .int .i64 f], .slice (some ⟨g90, 0, none⟩) 2 2, .agg #[.bool z6, .string o6, .int .i64 e6], .slice (some ⟨g92, 0, none⟩) 2 2, .agg #[.bool z8, .string o8, .int .i64 e8], .bool true, .bool true, .agg #[.bool z1, .string o1, .int .i64 e1], .agg #[.bool n, .string t, .int .i64 e], .agg #[.bool z10, .string o10, .int .i64 e10], .agg #[.bool m, .string s, .int .i64 d], .agg #[.bool z10, .string o10, .int .i64 e10], .bool true, .bool true, .bool true, .agg #[.bool z7, .string o7, .int .i64 e7], .agg #[.bool z7, .string o7, .int .i64 e7], .slice (some ⟨g106, 0, none⟩) 2 2, .agg #[.bool z10, .string o10, .int .i64 e10], .agg #[.bool m, .string s, .int .i64 d], .agg #[.bool z10, .string o10, .int .i64 e10], .bool true, .bool true, .bool true, .agg #[.bool z1, .string o1, .int .i64 e1], .agg #[.bool z1, .string o1, .int .i64 e1], .agg #[.bool z1, .string o1, .int .i64 e1], .bool true, .bool true, .bool true, sel l39 (.agg #[.bool z2, .string o2, .int .i64 e2]) (undef), sel l40 (.agg #[.bool z2, .string o2, .int .i64 e2]) (undef), sel l41 (.agg #[.bool z2, .string o2, .int .i64 e2]) (undef), sel l42 (.bool true) (undef), sel l43 (.bool true) (undef), undef, undef, undef, undef, undef, undef, undef, undef, undef, undef, undef, undef], defers := [] } ∧ Below (w.heap.size) w Wn ∧ (Nk Wn (w.heap.size) m s d) ∧ (Nk Wn (w.heap.size + 1) n t e) ∧ (Nk Wn (w.heap.size + 1 + 1) p u f) ∧ (Nk Wn p7 z1 o1 e1) ∧ (Nk Wn p8 z2 o2 e2) ∧ (Nk Wn Q7 z7 o7 e7)) (by kernel_rfl) (by kernel_rfl) (by kernel_rfl) (by kernel_rfl) hf ?_ ?_ ?_ (by kernel_rfl) ?_ (by decide)
    · exact ⟨false, false, false, false, false, by kernel_rfl, by kernel_rfl, hb, hA, hB, hC, hZ, hY, hH⟩
    · rintro L ac Wn ⟨l39, l40, l41, l42, l43, rfl, _⟩
      kernel_rfl
    · refine (seg_all (b := 44) [39, 40, 41, 42, 43] ?_ : ∀ j ∈ [39, 40, 41, 42, 43, 44], j ≠ 44 → _)
      refine lin_cons [] [40, 42, 43] rfl (by kernel_rfl) (by kernel_rfl) ?_ ?_
      · intro L ac Wn hI hi hds hus Kc hK
        obtain ⟨l39, l40, l41, l42, l43, rfl, hI⟩ := hI
        obtain rfl : l39 = false := hi
        obtain ⟨rfl, rfl, rfl, -⟩ : l40 = false ∧ l42 = false ∧ l43 = false ∧ True := hus
        simp only [sel_f] at hI
        obtain ⟨rfl, hb, hA, hB, hC, hZ, hY, hH⟩ := hI
        obtain ⟨q0, q1, q2, q3, q4, q5⟩ := (hY).facts
        refine lin_yield (.agg #[.bool z2, .string o2, .int .i64 e2]) rfl (by go_simp; first | done | with_reducible rfl) ?_
        exact hK.out _ _ ⟨true, false, l41, false, false, by kernel_rfl, by kernel_rfl, hb, (hA), (hB), (hC), (hZ), (hY), (hH)⟩
      refine lin_cons [39] [42, 43] rfl (by kernel_rfl) (by kernel_rfl) ?_ ?_
      · intro L ac Wn hI hi hds hus Kc hK
        obtain ⟨l39, l40, l41, l42, l43, rfl, hI⟩ := hI
        obtain rfl : l40 = false := hi
        obtain ⟨rfl, -⟩ : l39 = true ∧ True := hds
        obtain ⟨rfl, rfl, -⟩ : l42 = false ∧ l43 = false ∧ True := hus
        simp only [sel_t, sel_f] at hI
        obtain ⟨rfl, hb, hA, hB, hC, hZ, hY, hH⟩ := hI
        go_simp
        go_fit (use_yform HO.out.2.2.2.2.1 HK.out.2.2.2.2.2.2.2.2.2.2.2.2.2.2.2.2.2.2.2.1)
        rintro e V ⟨rfl, hq⟩
        exact hK.out _ _ ⟨true, true, l41, false, false, by kernel_rfl, by kernel_rfl, (below_next hb hq), (hA.below hq), (hB.below hq), (hC.below hq), (hZ.below hq), (hY.below hq), (hH.below hq)⟩
      refine lin_cons [] [42, 43] rfl (by kernel_rfl) (by kernel_rfl) ?_ ?_
      · intro L ac Wn hI hi hds hus Kc hK
        obtain ⟨l39, l40, l41, l42, l43, rfl, hI⟩ := hI
        obtain rfl : l41 = false := hi
        obtain ⟨rfl, rfl, -⟩ : l42 = false ∧ l43 = false ∧ True := hus
        simp only [sel_f] at hI
        obtain ⟨rfl, hb, hA, hB, hC, hZ, hY, hH⟩ := hI
        obtain ⟨q0, q1, q2, q3, q4, q5⟩ := (hY).facts
        refine lin_yield (.agg #[.bool z2, .string o2, .int .i64 e2]) rfl (by go_simp; first | done | with_reducible rfl) ?_
        exact hK.out _ _ ⟨l39, l40, true, false, false, by kernel_rfl, by kernel_rfl, hb, (hA), (hB), (hC), (hZ), (hY), (hH)⟩
      refine lin_cons [39, 40, 41] [43] rfl (by kernel_rfl) (by kernel_rfl) ?_ ?_
      · intro L ac Wn hI hi hds hus Kc hK
        obtain ⟨l39, l40, l41, l42, l43, rfl, hI⟩ := hI
        obtain rfl : l42 = false := hi
        obtain ⟨rfl, rfl, rfl, -⟩ : l39 = true ∧ l40 = true ∧ l41 = true ∧ True := hds
        obtain ⟨rfl, -⟩ : l43 = false ∧ True := hus
        simp only [sel_t, sel_f] at hI
        obtain ⟨rfl, hb, hA, hB, hC, hZ, hY, hH⟩ := hI
        refine lin_yield (.bool true) rfl (by go_simp; first | done | with_reducible rfl) ?_
        exact hK.out _ _ ⟨true, true, true, true, false, by kernel_rfl, by kernel_rfl, hb, (hA), (hB), (hC), (hZ), (hY), (hH)⟩
      refine lin_cons [39, 40, 41, 42] [] rfl (by kernel_rfl) (by kernel_rfl) ?_ lin_nil
      intro L ac Wn hI hi hds hus Kc hK
      obtain ⟨l39, l40, l41, l42, l43, rfl, hI⟩ := hI
      obtain rfl : l43 = false := hi
      obtain ⟨rfl, rfl, rfl, rfl, -⟩ : l39 = true ∧ l40 = true ∧ l41 = true ∧ l42 = true ∧ True := hds
      simp only [sel_t, sel_f] at hI
      obtain ⟨rfl, hb, hA, hB, hC, hZ, hY, hH⟩ := hI
      refine lin_yield (.bool true) rfl (by go_simp; first | done | with_reducible rfl) ?_
      exact hK.out _ _ ⟨true, true, true, true, true, by kernel_rfl, by kernel_rfl, hb, (hA), (hB), (hC), (hZ), (hY), (hH)⟩
    refine bar_of [39, 40, 41, 42, 43] rfl (by kernel_rfl) ?_
    intro L ac Wn hI hds Kc hK
    obtain ⟨l39, l40, l41, l42, l43, rfl, hI⟩ := hI
    obtain ⟨rfl, rfl, rfl, rfl, rfl, -⟩ : l39 = true ∧ l40 = true ∧ l41 = true ∧ l42 = true ∧ l43 = true ∧ True := hds
    simp only [sel_t] at hI
    obtain ⟨rfl, hb, hA, hB, hC, hZ, hY, hH⟩ := hI
    refine lin_yield (.bool true) rfl (by go_simp; first | done | with_reducible rfl) ?_
    refine hK.out _ _ (fun fu hf => ?_)
    clear hK Kc
    refine lin_seg 57 [45, 46, 47, 48, 49, 50, 51, 52, 53] 53 (fun L ac Wn => ∃ l45 l46 l47 l48 l49 l50 l51 l52 : Bool, L = #[true, true, true, true, true, true, true, true, true, true, true, true, true, true, true, true, true, true, true, true, true, true, true, true, true, true, true, true, true, true, true, true, true, true, true, true, true, true, true, true, true, true, true, true, true, l45, l46, l47, l48, l49, l50, l51, l52, false, false, false, false] ∧ ∃ g128 : Nat, ac = { tmps := #[.agg #[.bool m, .string s, .int .i64 d], .agg #[.bool n, .string t, .int .i64 e], .agg #[.bool p, .string u, .int .i64 f], .pointer (some ⟨w.heap.size, 0, none⟩), .pointer (some ⟨w.heap.size + 1, 0, none⟩), .pointer (some ⟨w.heap.size + 1 + 1, 0, none⟩), .bool false, .pointer (some ⟨p7, 0, none⟩), .pointer (some ⟨p8, 0, none⟩), .pointer (some ⟨Q7, 0, none⟩), .agg #[.bool m, .string s, .int .i64 d], .agg #[.bool n, .string t, .int .i64 e], .agg #[.bool p, .string u, .int .i64 f], .slice (some ⟨w.heap.size + 1 + 1 + 1, 0, none⟩) 3 3, .bool false, undef, .agg #[.bool m, .string s, .int .i64 d], .agg #[.bool n, .string t, .int .i64 e], .slice (some ⟨g18, 0, none⟩) 2 2, .agg #[.bool z1, .string o1, .int .i64 e1], .agg #[.bool m, .string s, .int .i64 d], .agg #[.bool n, .string t, .int .i64 e], .slice (some ⟨g22, 0, none⟩) 2 2, .agg #[.bool z2, .string o2, .int .i64 e2], .agg #[.bool z1, .string o1, .int .i64 e1], .agg #[.bool n, .string t, .int .i64 e], .agg #[.bool m, .string s, .int .i64 d], .slice (some ⟨g27, 0, none⟩) 2 2, .agg #[.bool z1, .string o1, .int .i64 e1], .bool false, .bool false, .agg #[.bool z2, .string o2, .int .i64 e2], .agg #[.bool n, .string t, .int .i64 e], .agg #[.bool m, .string s, .int .i64 d], .slice (some ⟨g34, 0, none⟩) 2 2, .agg #[.bool z2, .string o2, .int .i64 e2], .bool false, .bool false, .bool false, .agg #[.bool z1, .string o1, .int .i64 e1], .agg #[.bool p, .string u, .int .i64 f], .slice (some ⟨g41, 0, none⟩) 2 2, .agg #[.bool z3, .string o3, .int .i64 e3], .agg #[.bool m, .string s, .int .i64 d], .agg #[.bool n, .string t, .int .i64 e], .agg #[.bool p, .string u, .int .i64 f], .slice (some ⟨g46, 0, none⟩) 3 3, .agg #[.bool z3, .string o3, .int .i64 e3], .bool false, .bool false, .bool false, .agg #[.bool m, .string s, .int .i64 d], .agg #[.bool n, .string t, .int .i64 e], .agg #[.bool p, .string u, .int .i64 f], .slice (some ⟨g54, 0, none⟩) 2 2, .agg #[.bool z4, .string o4, .int .i64 e4], .slice (some ⟨g56, 0, none⟩) 2 2, .agg #[.bool z3, .string o3, .int .i64 e3], .agg #[.bool z1, .string o1, .int .i64 e1], .agg #[.bool p, .string u, .int .i64 f], .slice (some ⟨g60, 0, none⟩) 2 2, .agg #[.bool z3, .string o3, .int .i64 e3], .bool false, .bool false, .bool false, .agg #[.bool z2, .string o2, .int .i64 e2], .agg #[.bool p, .string u, .int .i64 f], .slice (some ⟨g67, 0, none⟩) 2 2, .agg #[.bool z5, .string o5, .int .i64 e5], .agg #[.bool m, .string s, .int .i64 d], .agg #[.bool n, .string t, .int .i64 e], .agg #[.bool p, .string u, .int .i64 f], .slice (some ⟨g72, 0, none⟩) 2 2, .agg #[.bool z6, .string o6, .int .i64 e6], .slice (some ⟨g74, 0, none⟩) 2 2, .agg #[.bool z5, .string o5, .int .i64 e5], .bool false, .bool false, .agg #[.bool m, .string s, .int .i64 d], .agg #[.bool z7, .string o7, .int .i64 e7], .agg #[.bool z1, .string o1, .int .i64 e1], .agg #[.bool p, .string u, .int .i64 f], .slice (some ⟨g82, 0, none⟩) 2 2, .agg #[.bool z8, .string o8, .int .i64 e8], .agg #[.bool m, .string s, .int .i64 d], .agg #[.bool p, .string u, .int .i64 f], .slice (some ⟨g86, 0, none⟩) 2 2, .agg #[.bool z9, .string o9, .int .i64 e9], .agg #[.bool n, .string t, .int .i64 e], .agg #[.bool p, .string u, .int .i64 f], .slice (some ⟨g90, 0, none⟩) 2 2, .agg #[.bool z6, .string o6, .int .i64 e6], .slice (some ⟨g92, 0, none⟩) 2 2, .agg #[.bool z8, .string o8, .int .i64 e8], .bool true, .bool true, .agg #[.bool z1, .string o1, .int .i64 e1], .agg #[.bool n, .string t, .int .i64 e], .agg #[.bool z10, .string o10, .int .i64 e10], .agg #[.bool m, .string s, .int .i64 d], .agg #[.bool z10, .string o10, .int .i64 e10], .bool true, .bool true, .bool true, .agg #[.bool z7, .string o7, .int .i64 e7], .agg #[.bool z7, .string o7, .int .i64 e7], .slice (some ⟨g106, 0, none⟩) 2 2, .agg #[.bool z10, .string o10, .int .i64 e10], .agg #[.bool m, .string s, .int .i64 d], .agg #[.bool z10, .string o10, .int .i64 e10], .bool true, .bool true, .bool true, .agg #[.bool z1, .string o1, .int .i64 e1], .agg #[.bool z1, .string o1, .int .i64 e1], .agg #[.bool z1, .string o1, .int .i64 e1], .bool true, .bool true, .bool true, .agg #[.bool z2, .string o2, .int .i64 e2], .agg #[.bool z2, .string o2, .int .i64 e2], .agg #[.bool z2, .string o2, .int .i64 e2], .bool true, .bool true, .bool true, sel l45 (.agg #[.bool m, .string s, .int .i64 d]) (undef), sel l46 (.agg #[.bool m, .string s, .int .i64 d]) (undef), sel l47 (.agg #[.bool z11, .string o11, .int .i64 e11]) (undef), sel l48 (.slice (some ⟨g128, 0, none⟩) 2 2) (undef), sel l49 (.agg #[.bool false, .string { data := #[] }, .int .i64 0]) (undef), sel l50 (.agg #[.bool false, .string { data := #[] }, .int .i64 0]) (undef), sel l51 (.bool true) (undef), sel l52 (.bool true) (undef), undef, undef, undef], defers := [] } ∧ Below (w.heap.size) w Wn ∧ (Nk Wn (w.heap.size) m s d) ∧ (Nk Wn (w.heap.size + 1) n t e) ∧ (Nk Wn (w.heap.size + 1 + 1) p u f) ∧ (Nk Wn p7 z1 o1 e1) ∧ (Nk Wn p8 z2 o2 e2) ∧ (Nk Wn Q7 z7 o7 e7) ∧ (On l48 → Off l49 → NAt Wn (some ⟨g128, 0, none⟩) [(m, s, d), (z11, o11, e11)])) (by kernel_rfl) (by kernel_rfl) (by kernel_rfl) (by kernel_rfl) hf ?_ ?_ ?_ (by kernel_rfl) ?_ (by decide)
    · exact ⟨false, false, false, false, false, false, false, false, by kernel_rfl, 0, by kernel_rfl, hb, hA, hB, hC, hZ, hY, hH, (fun h _ => not_ft h)⟩
    · rintro L ac Wn ⟨l45, l46, l47, l48, l49, l50, l51, l52, rfl, _⟩
      kernel_rfl
    · refine (seg_all (b := 53) [45, 46, 47, 48, 49, 50, 51, 52] ?_ : ∀ j ∈ [45, 46, 47, 48, 49, 50, 51, 52, 53], j ≠ 53 → _)
      refine lin_cons [] [48, 49, 51, 52] rfl (by kernel_rfl) (by kernel_rfl) ?_ ?_
      · intro L ac Wn hI hi hds hus Kc hK
        obtain ⟨l45, l46, l47, l48, l49, l50, l51, l52, rfl, hI⟩ := hI
        obtain rfl : l45 = false := hi
        obtain ⟨rfl, rfl, rfl, rfl, -⟩ : l48 = false ∧ l49 = false ∧ l51 = false ∧ l52 = false ∧ True := hus
        simp only [sel_f] at hI
        obtain ⟨g128, rfl, hb, hA, hB, hC, hZ, hY, hH, hW48⟩ := hI
        obtain ⟨q0, q1, q2, q3, q4, q5⟩ := (hA).facts
        refine lin_yield (.agg #[.bool m, .string s, .int .i64 d]) rfl (by go_simp; first | done | with_reducible rfl) ?_
        exact hK.out _ _ ⟨true, l46, l47, false, false, l50, false, false, by kernel_rfl, g128, by kernel_rfl, hb, (hA), (hB), (hC), (hZ), (hY), (hH), (fun h _ => not_ft h)⟩
      refine lin_cons [] [47, 48, 49, 51, 52] rfl (by kernel_rfl) (by kernel_rfl) ?_ ?_
      · intro L ac Wn hI hi hds hus Kc hK
        obtain ⟨l45, l46, l47, l48, l49, l50, l51, l52, rfl, hI⟩ := hI
        obtain rfl : l46 = false := hi
        obtain ⟨rfl, rfl, rfl, rfl, rfl, -⟩ : l47 = false ∧ l48 = false ∧ l49 = false ∧ l51 = false ∧ l52 = false ∧ True := hus
        simp only [sel_f] at hI
        obtain ⟨g128, rfl, hb, hA, hB, hC, hZ, hY, hH, hW48⟩ := hI
        obtain ⟨q0, q1, q2, q3, q4, q5⟩ := (hA).facts
        refine lin_yield (.agg #[.bool m, .string s, .int .i64 d]) rfl (by go_simp; first | done | with_reducible rfl) ?_
        exact hK.out _ _ ⟨l45, true, false, false, false, l50, false, false, by kernel_rfl, g128, by kernel_rfl, hb, (hA), (hB), (hC), (hZ), (hY), (hH), (fun h _ => not_ft h)⟩
      refine lin_cons [46] [48, 49, 51, 52] rfl (by kernel_rfl) (by kernel_rfl) ?_ ?_
      · intro L ac Wn hI hi hds hus Kc hK
        obtain ⟨l45, l46, l47, l48, l49, l50, l51, l52, rfl, hI⟩ := hI
        obtain rfl : l47 = false := hi
        obtain ⟨rfl, -⟩ : l46 = true ∧ True := hds
        obtain ⟨rfl, rfl, rfl, rfl, -⟩ : l48 = false ∧ l49 = false ∧ l51 = false ∧ l52 = false ∧ True := hus
        simp only [sel_t, sel_f] at hI
        obtain ⟨g128, rfl, hb, hA, hB, hC, hZ, hY, hH, hW48⟩ := hI
        go_simp
        go_fit (yneg_any _ m s d (by omega) (by omega) z11 o11 e11 HK.out.2.2.2.2.2.2.2.2.2.2.2.2.2.2.2.2.2.2.2.2.1)
        rintro e V ⟨rfl, hq⟩
        exact hK.out _ _ ⟨l45, true, true, false, false, l50, false, false, by kernel_rfl, g128, by kernel_rfl, (below_next hb hq), (hA.below hq), (hB.below hq), (hC.below hq), (hZ.below hq), (hY.below hq), (hH.below hq), (fun h _ => not_ft h)⟩
      refine lin_cons [45, 46, 47] [49, 51, 52] rfl (by kernel_rfl) (by kernel_rfl) ?_ ?_
      · intro L ac Wn hI hi hds hus Kc hK
        obtain ⟨l45, l46, l47, l48, l49, l50, l51, l52, rfl, hI⟩ := hI
        obtain rfl : l48 = false := hi
        obtain ⟨rfl, rfl, rfl, -⟩ : l45 = true ∧ l46 = true ∧ l47 = true ∧ True := hds
        obtain ⟨rfl, rfl, rfl, -⟩ : l49 = false ∧ l51 = false ∧ l52 = false ∧ True := hus
        simp only [sel_t, sel_f] at hI
        obtain ⟨g128, rfl, hb, hA, hB, hC, hZ, hY, hH, hW48⟩ := hI
        go_simp
        exact hK.out _ _ ⟨true, true, true, true, false, l50, false, false, by kernel_rfl, _, by kernel_rfl, (hb.alloc hb.size _), (hA.alloc _), (hB.alloc _), (hC.alloc _), (hZ.alloc _), (hY.alloc _), (hH.alloc _), (fun _ _ => NAt.new _ _ _ _ rfl)⟩
      refine lin_cons [45, 46, 47, 48] [51, 52] rfl (by kernel_rfl) (by kernel_rfl) ?_ ?_
      · intro L ac Wn hI hi hds hus Kc hK
        obtain ⟨l45, l46, l47, l48, l49, l50, l51, l52, rfl, hI⟩ := hI
        obtain rfl : l49 = false := hi
        obtain ⟨rfl, rfl, rfl, rfl, -⟩ : l45 = true ∧ l46 = true ∧ l47 = true ∧ l48 = true ∧ True := hds
        obtain ⟨rfl, rfl, -⟩ : l51 = false ∧ l52 = false ∧ True := hus
        simp only [sel_t, sel_f] at hI
        obtain ⟨g128, rfl, hb, hA, hB, hC, hZ, hY, hH, hW48⟩ := hI
        go_simp
        go_fit (use_yadd2 HO.out.1 HO.out.2.2.2.2.2.2.2.2.2.2 (hW48 rfl rfl) HK.out.2.2.2.2.2.2.2.2.2.2.2.2.2.2.2.2.2.2.2.2.2)
        rintro e V ⟨rfl, hq⟩
        exact hK.out _ _ ⟨true, true, true, true, true, l50, false, false, by kernel_rfl, g128, by kernel_rfl, (below_next hb hq), (hA.below hq), (hB.below hq), (hC.below hq), (hZ.below hq), (hY.below hq), (hH.below hq), (fun _ h => not_tf h)⟩
      refine lin_cons [] [51, 52] rfl (by kernel_rfl) (by kernel_rfl) ?_ ?_
      · intro L ac Wn hI hi hds hus Kc hK
        obtain ⟨l45, l46, l47, l48, l49, l50, l51, l52, rfl, hI⟩ := hI
        obtain rfl : l50 = false := hi
        obtain ⟨rfl, rfl, -⟩ : l51 = false ∧ l52 = false ∧ True := hus
        simp only [sel_f] at hI
        obtain ⟨g128, rfl, hb, hA, hB, hC, hZ, hY, hH, hW48⟩ := hI
        refine lin_yield (.agg #[.bool false, .string { data := #[] }, .int .i64 0]) rfl (by go_simp; first | done | with_reducible rfl) ?_
        exact hK.out _ _ ⟨l45, l46, l47, l48, l49, true, false, false, by kernel_rfl, g128, by kernel_rfl, hb, (hA), (hB), (hC), (hZ), (hY), (hH), (fun z0 z1 => (hW48 z0 z1))⟩
      refine lin_cons [45, 46, 47, 48, 49, 50] [52] rfl (by kernel_rfl) (by kernel_rfl) ?_ ?_
      · intro L ac Wn hI hi hds hus Kc hK
        obtain ⟨l45, l46, l47, l48, l49, l50, l51, l52, rfl, hI⟩ := hI
        obtain rfl : l51 = false := hi
        obtain ⟨rfl, rfl, rfl, rfl, rfl, rfl, -⟩ : l45 = true ∧ l46 = true ∧ l47 = true ∧ l48 = true ∧ l49 = true ∧ l50 = true ∧ True := hds
        obtain ⟨rfl, -⟩ : l52 = false ∧ True := hus
        simp only [sel_t, sel_f] at hI
        obtain ⟨g128, rfl, hb, hA, hB, hC, hZ, hY, hH, hW48⟩ := hI
        refine lin_yield (.bool true) rfl (by go_simp; first | done | with_reducible rfl) ?_
        exact hK.out _ _ ⟨true, true, true, true, true, true, true, false, by kernel_rfl, g128, by kernel_rfl, hb, (hA), (hB), (hC), (hZ), (hY), (hH), (fun _ h => not_tf h)⟩
      refine lin_cons [45, 46, 47, 48, 49, 50, 51] [] rfl (by kernel_rfl) (by kernel_rfl) ?_ lin_nil
      intro L ac Wn hI hi hds hus Kc hK
      obtain ⟨l45, l46, l47, l48, l49, l50, l51, l52, rfl, hI⟩ := hI
      obtain rfl : l52 = false := hi
      obtain ⟨rfl, rfl, rfl, rfl, rfl, rfl, rfl, -⟩ : l45 = true ∧ l46 = true ∧ l47 = true ∧ l48 = true ∧ l49 = true ∧ l50 = true ∧ l51 = true ∧ True := hds
      simp only [sel_t, sel_f] at hI
      obtain ⟨g128, rfl, hb, hA, hB, hC, hZ, hY, hH, hW48⟩ := hI
      refine lin_yield (.bool true) rfl (by go_simp; first | done | with_reducible rfl) ?_
      exact hK.out _ _ ⟨true, true, true, true, true, true, true, true, by kernel_rfl, g128, by kernel_rfl, hb, (hA), (hB), (hC), (hZ), (hY), (hH), (fun _ h => not_tf h)⟩
    refine bar_of [45, 46, 47, 48, 49, 50, 51, 52] rfl (by kernel_rfl) ?_
    intro L ac Wn hI hds Kc hK
    obtain ⟨l45, l46, l47, l48, l49, l50, l51, l52, rfl, hI⟩ := hI
    obtain ⟨rfl, rfl, rfl, rfl, rfl, rfl, rfl, rfl, -⟩ : l45 = true ∧ l46 = true ∧ l47 = true ∧ l48 = true ∧ l49 = true ∧ l50 = true ∧ l51 = true ∧ l52 = true ∧ True := hds
    simp only [sel_t] at hI
    obtain ⟨g128, rfl, hb, hA, hB, hC, hZ, hY, hH, hW48⟩ := hI
    clear hW48
    refine lin_yield (.bool true) rfl (by go_simp; first | done | with_reducible rfl) ?_
    refine hK.out _ _ (fun fu hf => ?_)
    clear hK Kc
    refine lin_seg 57 [54, 55, 56] 56 (fun L ac Wn => ∃ l54 l55 : Bool, L = #[true, true, true, true, true, true, true, true, true, true, true, true, true, true, true, true, true, true, true, true, true, true, true, true, true, true, true, true, true, true, true, true, true, true, true, true, true, true, true, true, true, true, true, true, true, true, true, true, true, true, true, true, true, true, l54, l55, false] ∧ ac = { tmps := #[.agg #[.bool m, .string s, .int .i64 d], .agg #[.bool n, .string t, .int .i64 e], .agg #[.bool p, .string u, .int .i64 f], .pointer (some ⟨w.heap.size, 0, none⟩), .pointer (some ⟨w.heap.size + 1, 0, none⟩), .pointer (some ⟨w.heap.size + 1 + 1, 0, none⟩), .bool false, .pointer (some ⟨p7, 0, none⟩), .pointer (some ⟨p8, 0, none⟩), .pointer (some ⟨Q7, 0, none⟩), .agg #[.bool m, .string s, .int .i64 d], .agg #[.bool n, .string t, .int .i64 e], .agg #[.bool p, .string u, .int .i64 f], .slice (some ⟨w.heap.size + 1 + 1 + 1, 0, none⟩) 3 3, .bool false, undef, .agg #[.bool m, .string s, .int .i64 d], .agg #[.bool n, .string t, .int .i64 e], .slice (some ⟨g18, 0, none⟩) 2 2, .agg #[.bool z1, .string o1, .int .i64 e1], .agg #[.bool m, .string s, .int .i64 d], .agg #[.bool n, .string t, .int .i64 e], .slice (some ⟨g22, 0, none⟩) 2 2, .agg #[.bool z2, .string o2, .int .i64 e2], .agg #[.bool z1, .string o1, .int .i64 e1], .agg #[.bool n, .string t, .int .i64 e], .agg #[.bool m, .string s, .int .i64 d], .slice (some ⟨g27, 0, none⟩) 2 2, .agg #[.bool z1, .string o1, .int .i64 e1], .bool false, .bool false, .agg #[.bool z2, .string o2, .int .i64 e2], .agg #[.bool n, .string t, .int .i64 e], .agg #[.bool m, .string s, .int .i64 d], .slice (some ⟨g34, 0, none⟩) 2 2, .agg #[.bool z2, .string o2, .int .i64 e2], .bool false, .bool false, .bool false, .agg #[.bool z1, .string o1, .int .i64 e1], .agg #[.bool p, .string u, .int .i64 f], .slice (some ⟨g41, 0, none⟩) 2 2, .agg #[.bool z3, .string o3, .int .i64 e3], .agg #[.bool m, .string s, .int .i64 d], .agg #[.bool n, .string t, .int .i64 e], .agg #[.bool p, .string u, .int .i64 f], .slice (some ⟨g46, 0, none⟩) 3 3, .agg #[.bool z3, .string o3, .int .i64 e3], .bool false, .bool false, .bool false, .agg #[.bool m, .string s, .int .i64 d], .agg #[.bool n, .string t, .int .i64 e], .agg #[.bool p, .string u, .int .i64 f], .slice (some ⟨g54, 0, none⟩) 2 2, .agg #[.bool z4, .string o4, .int .i64 e4], .slice (some ⟨g56, 0, none⟩) 2 2, .agg #[.bool z3, .string o3, .int .i64 e3], .agg #[.bool z1, .string o1, .int .i64 e1], .agg #[.bool p, .string u, .int .i64 f], .slice (some ⟨g60, 0, none⟩) 2 2, .agg #[.bool z3, .string o3, .int .i64 e3], .bool false, .bool false, .bool false, .agg #[.bool z2, .string o2, .int .i64 e2], .agg #[.bool p, .string u, .int .i64 f], .slice (some ⟨g67, 0, none⟩) 2 2, .agg #[.bool z5, .string o5, .int .i64 e5], .agg #[.bool m, .string s, .int .i64 d], .agg #[.bool n, .string t, .int .i64 e], .agg #[.bool p, .string u, .int .i64 f], .slice (some ⟨g72, 0, none⟩) 2 2, .agg #[.bool z6, .string o6, .int .i64 e6], .slice (some ⟨g74, 0, none⟩) 2 2, .agg #[.bool z5, .string o5, .int .i64 e5], .bool false, .bool false, .agg #[.bool m, .string s, .int .i64 d], .agg #[.bool z7, .string o7, .int .i64 e7], .agg #[.bool z1, .string o1, .int .i64 e1], .agg #[.bool p, .string u, .int .i64 f], .slice (some ⟨g82, 0, none⟩) 2 2, .agg #[.bool z8, .string o8, .int .i64 e8], .agg #[.bool m, .string s, .int .i64 d], .agg #[.bool p, .string u, .int .i64 f], .slice (some ⟨g86, 0, none⟩) 2 2, .agg #[.bool z9, .string o9, .int .i64 e9], .agg #[.bool n, .string t, .int .i64 e], .agg #[.bool p, .string u, .int .i64 f], .slice (some ⟨g90, 0, none⟩) 2 2, .agg #[.bool z6, .string o6, .int .i64 e6], .slice (some ⟨g92, 0, none⟩) 2 2, .agg #[.bool z8, .string o8, .int .i64 e8], .bool true, .bool true, .agg #[.bool z1, .string o1, .int .i64 e1], .agg #[.bool n, .string t, .int .i64 e], .agg #[.bool z10, .string o10, .int .i64 e10], .agg #[.bool m, .string s, .int .i64 d], .agg #[.bool z10, .string o10, .int .i64 e10], .bool true, .bool true, .bool true, .agg #[.bool z7, .string o7, .int .i64 e7], .agg #[.bool z7, .string o7, .int .i64 e7], .slice (some ⟨g106, 0, none⟩) 2 2, .agg #[.bool z10, .string o10, .int .i64 e10], .agg #[.bool m, .string s, .int .i64 d], .agg #[.bool z10, .string o10, .int .i64 e10], .bool true, .bool true, .bool true, .agg #[.bool z1, .string o1, .int .i64 e1], .agg #[.bool z1, .string o1, .int .i64 e1], .agg #[.bool z1, .string o1, .int .i64 e1], .bool true, .bool true, .bool true, .agg #[.bool z2, .string o2, .int .i64 e2], .agg #[.bool z2, .string o2, .int .i64 e2], .agg #[.bool z2, .string o2, .int .i64 e2], .bool true, .bool true, .bool true, .agg #[.bool m, .string s, .int .i64 d], .agg #[.bool m, .string s, .int .i64 d], .agg #[.bool z11, .string o11, .int .i64 e11], .slice (some ⟨g128, 0, none⟩) 2 2, .agg #[.bool false, .string { data := #[] }, .int .i64 0], .agg #[.bool false, .string { data := #[] }, .int .i64 0], .bool true, .bool true, .bool true, sel l54 (.bool true) (undef), sel l55 (.bool true) (undef)], defers := [] } ∧ Below (w.heap.size) w Wn ∧ (Nk Wn (w.heap.size) m s d) ∧ (Nk Wn (w.heap.size + 1) n t e) ∧ (Nk Wn (w.heap.size + 1 + 1) p u f) ∧ (Nk Wn p7 z1 o1 e1) ∧ (Nk Wn p8 z2 o2 e2) ∧ (Nk Wn Q7 z7 o7 e7)) (by kernel_rfl) (by kernel_rfl) (by kernel_rfl) (by kernel_rfl) hf ?_ ?_ ?_ (by kernel_rfl) ?_ (by decide)
    · exact ⟨false, false, by kernel_rfl, by kernel_rfl, hb, hA, hB, hC, hZ, hY, hH⟩
    · rintro L ac Wn ⟨l54, l55, rfl, _⟩
      kernel_rfl
    · refine (seg_all (b := 56) [54, 55] ?_ : ∀ j ∈ [54, 55, 56], j ≠ 56 → _)
      refine lin_cons [] [55] rfl (by kernel_rfl) (by kernel_rfl) ?_ ?_
      · intro L ac Wn hI hi hds hus Kc hK
        obtain ⟨l54, l55, rfl, hI⟩ := hI
        obtain rfl : l54 = false := hi
        obtain ⟨rfl, -⟩ : l55 = false ∧ True := hus
        simp only [sel_f] at hI
        obtain ⟨rfl, hb, hA, hB, hC, hZ, hY, hH⟩ := hI
        go_simp
        go_fit (yawake_any _)
        rintro e V ⟨rfl, hq⟩
        exact hK.out _ _ ⟨true, false, by kernel_rfl, by kernel_rfl, (below_next hb hq), (hA.below hq), (hB.below hq), (hC.below hq), (hZ.below hq), (hY.below hq), (hH.below hq)⟩
      refine lin_cons [54] [] rfl (by kernel_rfl) (by kernel_rfl) ?_ lin_nil
      intro L ac Wn hI hi hds hus Kc hK
      obtain ⟨l54, l55, rfl, hI⟩ := hI
      obtain rfl : l55 = false := hi
      obtain ⟨rfl, -⟩ : l54 = true ∧ True := hds
      simp only [sel_t, sel_f] at hI
      obtain ⟨rfl, hb, hA, hB, hC, hZ, hY, hH⟩ := hI
      refine lin_yield (.bool true) rfl (by go_simp; first | done | with_reducible rfl) ?_
      exact hK.out _ _ ⟨true, true, by kernel_rfl, by kernel_rfl, hb, (hA), (hB), (hC), (hZ), (hY), (hH)⟩
    refine bar_of [54, 55] rfl (by kernel_rfl) ?_
    intro L ac Wn hI hds Kc hK
    obtain ⟨l54, l55, rfl, hI⟩ := hI
    obtain ⟨rfl, rfl, -⟩ : l54 = true ∧ l55 = true ∧ True := hds
    simp only [sel_t] at hI
    obtain ⟨rfl, hb, hA, hB, hC, hZ, hY, hH⟩ := hI
    refine lin_yield (.bool true) rfl (by go_simp; first | done | with_reducible rfl) ?_
    refine hK.out _ _ (fun fu hf => wpAnyH_done (by kernel_rfl) ?_ _)
    clear hK Kc hf
    go_wp2
    go_ret
    exact ⟨rfl, hb⟩
end Go.Proofs.YtpahmnifkinpiaaGreatDoor
