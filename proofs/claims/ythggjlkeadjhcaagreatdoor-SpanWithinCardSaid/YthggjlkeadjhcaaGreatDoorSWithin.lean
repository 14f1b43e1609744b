/- SpanWithin. -/
import Derived.Test.YthggjlkeadjhcaaGreatDoorSIns1
namespace Go.Proofs.YthggjlkeadjhcaaGreatDoor
open Go.RowKit Go.Shelf

theorem far_three {x y z : SV} (h : farD5 [x, y, z] = false) : ((x.1.2.1.size ≤ 40 ∧ -300 ≤ x.1.2.2 ∧ x.1.2.2 ≤ 300) ∧ (x.2.2.1.size ≤ 40 ∧ -300 ≤ x.2.2.2 ∧ x.2.2.2 ≤ 300)) ∧
    ((y.1.2.1.size ≤ 40 ∧ -300 ≤ y.1.2.2 ∧ y.1.2.2 ≤ 300) ∧ (y.2.2.1.size ≤ 40 ∧ -300 ≤ y.2.2.2 ∧ y.2.2.2 ≤ 300)) ∧ ((z.1.2.1.size ≤ 40 ∧ -300 ≤ z.1.2.2 ∧ z.1.2.2 ≤ 300) ∧ (z.2.2.1.size ≤ 40 ∧ -300 ≤ z.2.2.2 ∧ z.2.2.2 ≤ 300)) := by
  have h1 : longD 40 300 [x.1, x.2] = false ∧ longD 40 300 [y.1, y.2] = false ∧ longD 40 300 [z.1, z.2] = false := by
    unfold farD5 at h
    simpa using h
  exact ⟨⟨longd_false h1.1 x.1 (by simp), longd_false h1.1 x.2 (by simp)⟩, ⟨longd_false h1.2.1 y.1 (by simp), longd_false h1.2.1 y.2 (by simp)⟩, ⟨longd_false h1.2.2 z.1 (by simp), longd_false h1.2.2 z.2 (by simp)⟩⟩
theorem within2 {a b lo hi : Dyadic} (h1 : lo.toRat ≤ a.toRat ∧ a.toRat ≤ hi.toRat) (h3 : lo.toRat ≤ b.toRat ∧ b.toRat ≤ hi.toRat) : (hasD (dlo lo hi) (dhi lo hi) a && hasD (dlo lo hi) (dhi lo hi) b) = true := by
  rw [has_of h1.1 h1.2, has_of h3.1 h3.2]
  rfl
theorem pick_in {P : NV} {a b lo hi : Dyadic} (h : nvl P = a ∨ nvl P = b) (k : lo.toRat ≤ a.toRat ∧ a.toRat ≤ b.toRat ∧ b.toRat ≤ hi.toRat) : lo.toRat ≤ (nvl P).toRat ∧ (nvl P).toRat ≤ hi.toRat := by
  rcases h with h | h <;> rw [h]
  · exact ⟨k.1, Rat.le_trans k.2.1 k.2.2⟩
  · exact ⟨Rat.le_trans k.1 k.2.1, k.2.2⟩
theorem lowS_or (x : SV) : nvl (lowS x) = nvl x.1 ∨ nvl (lowS x) = nvl x.2 := by
  unfold lowS lowN
  split
  · exact .inr rfl
  · exact .inl rfl
theorem highS_or (x : SV) : nvl (highS x) = nvl x.1 ∨ nvl (highS x) = nvl x.2 := by
  unfold highS highN
  split
  · exact .inl rfl
  · exact .inr rfl
theorem rd_le (x : Dyadic) (p : Int) : (x.roundDown p).toRat ≤ x.toRat := by
  have h := qlo_le x (.ofIntWithPrec 1 0) p
  unfold qlo at h
  rw [ofI_toRat 1 0, show ((1 : Int) : Rat) * 2 ^ (-(0 : Int)) = 1 by decide +kernel, Rat.div_def, show (1 : Rat)⁻¹ = 1 by decide +kernel, Rat.mul_one] at h
  rw [rd_floor]
  exact h
theorem ceil_ge (x : Dyadic) (p : Int) : x.toRat ≤ (ceilD x p).toRat := by
  have h := rd_le (-x) p
  unfold ceilD
  rw [Dyadic.toRat_neg] at h ⊢
  grind
theorem form_size {m : Bool} {s : ByteArray} {d : Int} (h : s.size ≤ 40 ∧ -300 ≤ d ∧ d ≤ 300) {z : Bool} {o : ByteArray} {e : Int} (k : df (nv m s d) = nu z o e) : o.size ≤ 40 ∧ -300 ≤ e ∧ e ≤ 620 := by
  have := df_exp k h.1
  omega
/-- The greater span that holds two. -/
theorem big_facts {m : Bool} {s : ByteArray} {d : Int} {n : Bool} {t : ByteArray} {e : Int} {m3 : Bool} {s3 : ByteArray} {d3 : Int} {n3 : Bool} {t3 : ByteArray} {e3 : Int}
    (h1 : s.size ≤ 40 ∧ -300 ≤ d ∧ d ≤ 300) (h2 : t.size ≤ 40 ∧ -300 ≤ e ∧ e ≤ 300) (h3 : s3.size ≤ 40 ∧ -300 ≤ d3 ∧ d3 ≤ 300) (h4 : t3.size ≤ 40 ∧ -300 ≤ e3 ∧ e3 ≤ 300)
    {y1 y2 : Bool} {v1 v2 : ByteArray} {q1 q2 : Int} (k1 : df (farD (-1) ([((m, s, d), (n, t, e)), ((m3, s3, d3), (n3, t3, e3))].map lowS) 2) = nu y1 v1 q1) (k2 : df (farD 1 ([((m, s, d), (n, t, e)), ((m3, s3, d3), (n3, t3, e3))].map highS) 2) = nu y2 v2 q2) :
    (v1.size ≤ 40 ∧ -300 ≤ q1 ∧ q1 ≤ 620) ∧ (v2.size ≤ 40 ∧ -300 ≤ q2 ∧ q2 ≤ 620) ∧ Bnd (nv y1 v1 q1) 115 300 ∧ Bnd (nv y2 v2 q2) 115 300 ∧ (nv y1 v1 q1).toRat ≤ (dlo (nv m s d) (nv n t e)).toRat ∧ (dhi (nv m s d) (nv n t e)).toRat ≤ (nv y2 v2 q2).toRat := by
  have b1 := place_bnd (m := m) (n := n) h1 h2 (k := 0) (by omega)
  have b3 := place_bnd (m := m3) (n := n3) h3 h4 (k := 0) (by omega)
  have f1 := far2_low (lowS ((m, s, d), (n, t, e))) (lowS ((m3, s3, d3), (n3, t3, e3)))
  have f2 := far2_high (highS ((m, s, d), (n, t, e))) (highS ((m3, s3, d3), (n3, t3, e3)))
  have w1 : nvl (lowS ((m, s, d), (n, t, e))) = dlo (nv m s d) (nv n t e) := lowN_val _ _
  have w2 : nvl (highS ((m, s, d), (n, t, e))) = dhi (nv m s d) (nv n t e) := highN_val _ _
  have w3 : nvl (lowS ((m3, s3, d3), (n3, t3, e3))) = dlo (nv m3 s3 d3) (nv n3 t3 e3) := lowN_val _ _
  have w4 : nvl (highS ((m3, s3, d3), (n3, t3, e3))) = dhi (nv m3 s3 d3) (nv n3 t3 e3) := highN_val _ _
  have g1 := far2_pick (-1) (lowS ((m, s, d), (n, t, e))) (lowS ((m3, s3, d3), (n3, t3, e3)))
  have g2 := far2_pick 1 (highS ((m, s, d), (n, t, e))) (highS ((m3, s3, d3), (n3, t3, e3)))
  rw [w1, w3] at g1
  rw [w2, w4] at g2
  rw [w1] at f1
  rw [w2] at f2
  have e1 := form_nv k1
  have e2 := form_nv k2
  refine ⟨?_, ?_, ?_, ?_, by rw [e1]; exact f1.1, by rw [e2]; exact f2.1⟩
  · change farD (-1) ([((m, s, d), (n, t, e)), ((m3, s3, d3), (n3, t3, e3))].map lowS) 2 = _ ∨ farD (-1) ([((m, s, d), (n, t, e)), ((m3, s3, d3), (n3, t3, e3))].map lowS) 2 = _ at g1
    rcases g1 with g | g <;> rw [g] at k1
    · rcases (dlo_spec (nv m s d) (nv n t e)).2.2 with h | h <;> rw [h] at k1
      · exact form_size h1 k1
      · exact form_size h2 k1
    · rcases (dlo_spec (nv m3 s3 d3) (nv n3 t3 e3)).2.2 with h | h <;> rw [h] at k1
      · exact form_size h3 k1
      · exact form_size h4 k1
  · change farD 1 ([((m, s, d), (n, t, e)), ((m3, s3, d3), (n3, t3, e3))].map highS) 2 = _ ∨ farD 1 ([((m, s, d), (n, t, e)), ((m3, s3, d3), (n3, t3, e3))].map highS) 2 = _ at g2
    rcases g2 with g | g <;> rw [g] at k2
    · rcases (dhi_spec (nv m s d) (nv n t e)).2.2 with h | h <;> rw [h] at k2
      · exact form_size h1 k2
      · exact form_size h2 k2
    · rcases (dhi_spec (nv m3 s3 d3) (nv n3 t3 e3)).2.2 with h | h <;> rw [h] at k2
      · exact form_size h3 k2
      · exact form_size h4 k2
  · rw [e1]
    change Bnd (farD (-1) [lowS ((m, s, d), (n, t, e)), lowS ((m3, s3, d3), (n3, t3, e3))] 2) 115 300
    rcases g1 with g | g <;> rw [g]
    · exact b1.1
    · exact b3.1
  · rw [e2]
    change Bnd (farD 1 [highS ((m, s, d), (n, t, e)), highS ((m3, s3, d3), (n3, t3, e3))] 2) 115 300
    rcases g2 with g | g <;> rw [g]
    · exact b1.2.1
    · exact b3.2.1

set_option maxRecDepth 100000 in
set_option maxHeartbeats 32000000 in
theorem within_law (w : World) (m : Bool) (s : ByteArray) (d : Int) (n : Bool) (t : ByteArray) (e : Int) (_w1 : s.size ≤ maxLen) (_x1 : (Lit.int .i64 d).wf = true) (_y1 : t.size ≤ maxLen) (_z1 : (Lit.int .i64 e).wf = true)
    (m2 : Bool) (s2 : ByteArray) (d2 : Int) (n2 : Bool) (t2 : ByteArray) (e2 : Int) (_w2 : s2.size ≤ maxLen) (_x2 : (Lit.int .i64 d2).wf = true) (_y2 : t2.size ≤ maxLen) (_z2 : (Lit.int .i64 e2).wf = true)
    (m3 : Bool) (s3 : ByteArray) (d3 : Int) (n3 : Bool) (t3 : ByteArray) (e3 : Int) (_w3 : s3.size ≤ maxLen) (_x3 : (Lit.int .i64 d3).wf = true) (_y3 : t3.size ≤ maxLen) (_z3 : (Lit.int .i64 e3).wf = true) (p : Int) (_w5 : (Lit.int .i64 p).wf = true) :
    Calls Tryz.prog 8 #[.agg #[.bool m, .string s, .int .i64 d, .bool n, .string t, .int .i64 e], .agg #[.bool m2, .string s2, .int .i64 d2, .bool n2, .string t2, .int .i64 e2], .agg #[.bool m3, .string s3, .int .i64 d3, .bool n3, .string t3, .int .i64 e3], .int .i64 p] w (Ret (.bool true) w) := by
  clear _w1 _x1 _y1 _z1 _w2 _x2 _y2 _z2 _w3 _x3 _y3 _z3 _w5
  obtain ⟨r2, hr2⟩ : ∃ r, farD5 [((m, s, d), (n, t, e)), ((m2, s2, d2), (n2, t2, e2)), ((m3, s3, d3), (n3, t3, e3))] = r := ⟨_, rfl⟩
  have HR2 := Lib.hid hr2
  cases r2 with
  | true =>
    clear hr2
    go_enter Tryz.func8, Tryz.ntmps8
    go_wp2_with fail
    have hS := Sk.new w 27 m s d n t e
    have hb := (Below.refl w.heap.size w).alloc (Nat.le_refl _) (Obj.cells #[Value.bool m, Value.string s, Value.int IntKind.i64 d, Value.bool n, Value.string t, Value.int IntKind.i64 e] 27)
    have hT := Sk.new ((w.alloc (Obj.cells #[Value.bool m, Value.string s, Value.int IntKind.i64 d, Value.bool n, Value.string t, Value.int IntKind.i64 e] 27))) 27 m2 s2 d2 n2 t2 e2
    simp only [World.size_alloc] at hT
    replace hS := hS.alloc (Obj.cells #[Value.bool m2, Value.string s2, Value.int IntKind.i64 d2, Value.bool n2, Value.string t2, Value.int IntKind.i64 e2] 27)
    replace hb := hb.alloc (by simp only [World.size_alloc]; omega) (Obj.cells #[Value.bool m2, Value.string s2, Value.int IntKind.i64 d2, Value.bool n2, Value.string t2, Value.int IntKind.i64 e2] 27)
    have hU := Sk.new (((w.alloc (Obj.cells #[Value.bool m, Value.string s, Value.int IntKind.i64 d, Value.bool n, Value.string t, Value.int IntKind.i64 e] 27)).alloc (Obj.cells #[Value.bool m2, Value.string s2, Value.int IntKind.i64 d2, Value.bool n2, Value.string t2, Value.int IntKind.i64 e2] 27))) 27 m3 s3 d3 n3 t3 e3
    simp only [World.size_alloc] at hU
    replace hS := hS.alloc (Obj.cells #[Value.bool m3, Value.string s3, Value.int IntKind.i64 d3, Value.bool n3, Value.string t3, Value.int IntKind.i64 e3] 27)
    replace hT := hT.alloc (Obj.cells #[Value.bool m3, Value.string s3, Value.int IntKind.i64 d3, Value.bool n3, Value.string t3, Value.int IntKind.i64 e3] 27)
    replace hb := hb.alloc (by simp only [World.size_alloc]; omega) (Obj.cells #[Value.bool m3, Value.string s3, Value.int IntKind.i64 d3, Value.bool n3, Value.string t3, Value.int IntKind.i64 e3] 27)
    have hrow := SAt.new (((w.alloc (Obj.cells #[Value.bool m, Value.string s, Value.int IntKind.i64 d, Value.bool n, Value.string t, Value.int IntKind.i64 e] 27)).alloc (Obj.cells #[Value.bool m2, Value.string s2, Value.int IntKind.i64 d2, Value.bool n2, Value.string t2, Value.int IntKind.i64 e2] 27)).alloc (Obj.cells #[Value.bool m3, Value.string s3, Value.int IntKind.i64 d3, Value.bool n3, Value.string t3, Value.int IntKind.i64 e3] 27)) 27 [((m, s, d), (n, t, e)), ((m2, s2, d2), (n2, t2, e2)), ((m3, s3, d3), (n3, t3, e3))] #[.bool m, .string s, .int .i64 d, .bool n, .string t, .int .i64 e, .bool m2, .string s2, .int .i64 d2, .bool n2, .string t2, .int .i64 e2, .bool m3, .string s3, .int .i64 d3, .bool n3, .string t3, .int .i64 e3] rfl
    simp only [World.size_alloc] at hrow
    replace hS := hS.alloc (Obj.cells #[Value.bool m, Value.string s, Value.int IntKind.i64 d, Value.bool n, Value.string t, Value.int IntKind.i64 e, Value.bool m2, Value.string s2, Value.int IntKind.i64 d2, Value.bool n2, Value.string t2, Value.int IntKind.i64 e2, Value.bool m3, Value.string s3, Value.int IntKind.i64 d3, Value.bool n3, Value.string t3, Value.int IntKind.i64 e3] 27)
    replace hT := hT.alloc (Obj.cells #[Value.bool m, Value.string s, Value.int IntKind.i64 d, Value.bool n, Value.string t, Value.int IntKind.i64 e, Value.bool m2, Value.string s2, Value.int IntKind.i64 d2, Value.bool n2, Value.string t2, Value.int IntKind.i64 e2, Value.bool m3, Value.string s3, Value.int IntKind.i64 d3, Value.bool n3, Value.string t3, Value.int IntKind.i64 e3] 27)
    replace hU := hU.alloc (Obj.cells #[Value.bool m, Value.string s, Value.int IntKind.i64 d, Value.bool n, Value.string t, Value.int IntKind.i64 e, Value.bool m2, Value.string s2, Value.int IntKind.i64 d2, Value.bool n2, Value.string t2, Value.int IntKind.i64 e2, Value.bool m3, Value.string s3, Value.int IntKind.i64 d3, Value.bool n3, Value.string t3, Value.int IntKind.i64 e3] 27)
    replace hb := hb.alloc (by simp only [World.size_alloc]; omega) (Obj.cells #[Value.bool m, Value.string s, Value.int IntKind.i64 d, Value.bool n, Value.string t, Value.int IntKind.i64 e, Value.bool m2, Value.string s2, Value.int IntKind.i64 d2, Value.bool n2, Value.string t2, Value.int IntKind.i64 e2, Value.bool m3, Value.string s3, Value.int IntKind.i64 d3, Value.bool n3, Value.string t3, Value.int IntKind.i64 e3] 27)
    generalize ((((w.alloc (Obj.cells #[Value.bool m, Value.string s, Value.int IntKind.i64 d, Value.bool n, Value.string t, Value.int IntKind.i64 e] 27)).alloc (Obj.cells #[Value.bool m2, Value.string s2, Value.int IntKind.i64 d2, Value.bool n2, Value.string t2, Value.int IntKind.i64 e2] 27)).alloc (Obj.cells #[Value.bool m3, Value.string s3, Value.int IntKind.i64 d3, Value.bool n3, Value.string t3, Value.int IntKind.i64 e3] 27)).alloc (Obj.cells #[Value.bool m, Value.string s, Value.int IntKind.i64 d, Value.bool n, Value.string t, Value.int IntKind.i64 e, Value.bool m2, Value.string s2, Value.int IntKind.i64 d2, Value.bool n2, Value.string t2, Value.int IntKind.i64 e2, Value.bool m3, Value.string s3, Value.int IntKind.i64 d3, Value.bool n3, Value.string t3, Value.int IntKind.i64 e3] 27)) = W0 at *
    refine (sfar_to2 _ _ [((m, s, d), (n, t, e)), ((m2, s2, d2), (n2, t2, e2)), ((m3, s3, d3), (n3, t3, e3))] 3 3 rfl (by omega) hrow HR2.out).mono ?_
    rintro e' W ⟨rfl, hq⟩
    replace hb := below_next hb hq
    replace hS := hS.below hq
    replace hT := hT.below hq
    replace hU := hU.below hq
    clear hq hrow
    clear hS hT hU
    go_wp2_with fail
    refine (sawake_any _).mono ?_
    rintro e' V9 ⟨rfl, hq⟩
    replace hb := below_next hb hq
    go_wp2
    go_ret
    exact ⟨rfl, hb⟩
  | false =>
    by_cases p1 : p < -300
    · have dp1 : decide (p < -300) = true := decide_eq_true p1
      clear hr2
      go_enter Tryz.func8, Tryz.ntmps8
      go_wp2_with fail
      have hS := Sk.new w 27 m s d n t e
      have hb := (Below.refl w.heap.size w).alloc (Nat.le_refl _) (Obj.cells #[Value.bool m, Value.string s, Value.int IntKind.i64 d, Value.bool n, Value.string t, Value.int IntKind.i64 e] 27)
      have hT := Sk.new ((w.alloc (Obj.cells #[Value.bool m, Value.string s, Value.int IntKind.i64 d, Value.bool n, Value.string t, Value.int IntKind.i64 e] 27))) 27 m2 s2 d2 n2 t2 e2
      simp only [World.size_alloc] at hT
      replace hS := hS.alloc (Obj.cells #[Value.bool m2, Value.string s2, Value.int IntKind.i64 d2, Value.bool n2, Value.string t2, Value.int IntKind.i64 e2] 27)
      replace hb := hb.alloc (by simp only [World.size_alloc]; omega) (Obj.cells #[Value.bool m2, Value.string s2, Value.int IntKind.i64 d2, Value.bool n2, Value.string t2, Value.int IntKind.i64 e2] 27)
      have hU := Sk.new (((w.alloc (Obj.cells #[Value.bool m, Value.string s, Value.int IntKind.i64 d, Value.bool n, Value.string t, Value.int IntKind.i64 e] 27)).alloc (Obj.cells #[Value.bool m2, Value.string s2, Value.int IntKind.i64 d2, Value.bool n2, Value.string t2, Value.int IntKind.i64 e2] 27))) 27 m3 s3 d3 n3 t3 e3
      simp only [World.size_alloc] at hU
      replace hS := hS.alloc (Obj.cells #[Value.bool m3, Value.string s3, Value.int IntKind.i64 d3, Value.bool n3, Value.string t3, Value.int IntKind.i64 e3] 27)
      replace hT := hT.alloc (Obj.cells #[Value.bool m3, Value.string s3, Value.int IntKind.i64 d3, Value.bool n3, Value.string t3, Value.int IntKind.i64 e3] 27)
      replace hb := hb.alloc (by simp only [World.size_alloc]; omega) (Obj.cells #[Value.bool m3, Value.string s3, Value.int IntKind.i64 d3, Value.bool n3, Value.string t3, Value.int IntKind.i64 e3] 27)
      have hrow := SAt.new (((w.alloc (Obj.cells #[Value.bool m, Value.string s, Value.int IntKind.i64 d, Value.bool n, Value.string t, Value.int IntKind.i64 e] 27)).alloc (Obj.cells #[Value.bool m2, Value.string s2, Value.int IntKind.i64 d2, Value.bool n2, Value.string t2, Value.int IntKind.i64 e2] 27)).alloc (Obj.cells #[Value.bool m3, Value.string s3, Value.int IntKind.i64 d3, Value.bool n3, Value.string t3, Value.int IntKind.i64 e3] 27)) 27 [((m, s, d), (n, t, e)), ((m2, s2, d2), (n2, t2, e2)), ((m3, s3, d3), (n3, t3, e3))] #[.bool m, .string s, .int .i64 d, .bool n, .string t, .int .i64 e, .bool m2, .string s2, .int .i64 d2, .bool n2, .string t2, .int .i64 e2, .bool m3, .string s3, .int .i64 d3, .bool n3, .string t3, .int .i64 e3] rfl
      simp only [World.size_alloc] at hrow
      replace hS := hS.alloc (Obj.cells #[Value.bool m, Value.string s, Value.int IntKind.i64 d, Value.bool n, Value.string t, Value.int IntKind.i64 e, Value.bool m2, Value.string s2, Value.int IntKind.i64 d2, Value.bool n2, Value.string t2, Value.int IntKind.i64 e2, Value.bool m3, Value.string s3, Value.int IntKind.i64 d3, Value.bool n3, Value.string t3, Value.int IntKind.i64 e3] 27)
      replace hT := hT.alloc (Obj.cells #[Value.bool m, Value.string s, Value.int IntKind.i64 d, Value.bool n, Value.string t, Value.int IntKind.i64 e, Value.bool m2, Value.string s2, Value.int IntKind.i64 d2, Value.bool n2, Value.string t2, Value.int IntKind.i64 e2, Value.bool m3, Value.string s3, Value.int IntKind.i64 d3, Value.bool n3, Value.string t3, Value.int IntKind.i64 e3] 27)
      replace hU := hU.alloc (Obj.cells #[Value.bool m, Value.string s, Value.int IntKind.i64 d, Value.bool n, Value.string t, Value.int IntKind.i64 e, Value.bool m2, Value.string s2, Value.int IntKind.i64 d2, Value.bool n2, Value.string t2, Value.int IntKind.i64 e2, Value.bool m3, Value.string s3, Value.int IntKind.i64 d3, Value.bool n3, Value.string t3, Value.int IntKind.i64 e3] 27)
      replace hb := hb.alloc (by simp only [World.size_alloc]; omega) (Obj.cells #[Value.bool m, Value.string s, Value.int IntKind.i64 d, Value.bool n, Value.string t, Value.int IntKind.i64 e, Value.bool m2, Value.string s2, Value.int IntKind.i64 d2, Value.bool n2, Value.string t2, Value.int IntKind.i64 e2, Value.bool m3, Value.string s3, Value.int IntKind.i64 d3, Value.bool n3, Value.string t3, Value.int IntKind.i64 e3] 27)
      generalize ((((w.alloc (Obj.cells #[Value.bool m, Value.string s, Value.int IntKind.i64 d, Value.bool n, Value.string t, Value.int IntKind.i64 e] 27)).alloc (Obj.cells #[Value.bool m2, Value.string s2, Value.int IntKind.i64 d2, Value.bool n2, Value.string t2, Value.int IntKind.i64 e2] 27)).alloc (Obj.cells #[Value.bool m3, Value.string s3, Value.int IntKind.i64 d3, Value.bool n3, Value.string t3, Value.int IntKind.i64 e3] 27)).alloc (Obj.cells #[Value.bool m, Value.string s, Value.int IntKind.i64 d, Value.bool n, Value.string t, Value.int IntKind.i64 e, Value.bool m2, Value.string s2, Value.int IntKind.i64 d2, Value.bool n2, Value.string t2, Value.int IntKind.i64 e2, Value.bool m3, Value.string s3, Value.int IntKind.i64 d3, Value.bool n3, Value.string t3, Value.int IntKind.i64 e3] 27)) = W0 at *
      refine (sfar_to2 _ _ [((m, s, d), (n, t, e)), ((m2, s2, d2), (n2, t2, e2)), ((m3, s3, d3), (n3, t3, e3))] 3 3 rfl (by omega) hrow HR2.out).mono ?_
      rintro e' W ⟨rfl, hq⟩
      replace hb := below_next hb hq
      replace hS := hS.below hq
      replace hT := hT.below hq
      replace hU := hU.below hq
      clear hq hrow
      clear hS hT hU
      go_wp2_with fail
      refine (sawake_any _).mono ?_
      rintro e' V9 ⟨rfl, hq⟩
      replace hb := below_next hb hq
      go_wp2
      go_ret
      exact ⟨rfl, hb⟩
    · have dp1 : decide (p < -300) = false := decide_eq_false p1
      by_cases p2 : 300 < p
      · have dp2 : decide (300 < p) = true := decide_eq_true p2
        clear hr2
        go_enter Tryz.func8, Tryz.ntmps8
        go_wp2_with fail
        have hS := Sk.new w 27 m s d n t e
        have hb := (Below.refl w.heap.size w).alloc (Nat.le_refl _) (Obj.cells #[Value.bool m, Value.string s, Value.int IntKind.i64 d, Value.bool n, Value.string t, Value.int IntKind.i64 e] 27)
        have hT := Sk.new ((w.alloc (Obj.cells #[Value.bool m, Value.string s, Value.int IntKind.i64 d, Value.bool n, Value.string t, Value.int IntKind.i64 e] 27))) 27 m2 s2 d2 n2 t2 e2
        simp only [World.size_alloc] at hT
        replace hS := hS.alloc (Obj.cells #[Value.bool m2, Value.string s2, Value.int IntKind.i64 d2, Value.bool n2, Value.string t2, Value.int IntKind.i64 e2] 27)
        replace hb := hb.alloc (by simp only [World.size_alloc]; omega) (Obj.cells #[Value.bool m2, Value.string s2, Value.int IntKind.i64 d2, Value.bool n2, Value.string t2, Value.int IntKind.i64 e2] 27)
        have hU := Sk.new (((w.alloc (Obj.cells #[Value.bool m, Value.string s, Value.int IntKind.i64 d, Value.bool n, Value.string t, Value.int IntKind.i64 e] 27)).alloc (Obj.cells #[Value.bool m2, Value.string s2, Value.int IntKind.i64 d2, Value.bool n2, Value.string t2, Value.int IntKind.i64 e2] 27))) 27 m3 s3 d3 n3 t3 e3
        simp only [World.size_alloc] at hU
        replace hS := hS.alloc (Obj.cells #[Value.bool m3, Value.string s3, Value.int IntKind.i64 d3, Value.bool n3, Value.string t3, Value.int IntKind.i64 e3] 27)
        replace hT := hT.alloc (Obj.cells #[Value.bool m3, Value.string s3, Value.int IntKind.i64 d3, Value.bool n3, Value.string t3, Value.int IntKind.i64 e3] 27)
        replace hb := hb.alloc (by simp only [World.size_alloc]; omega) (Obj.cells #[Value.bool m3, Value.string s3, Value.int IntKind.i64 d3, Value.bool n3, Value.string t3, Value.int IntKind.i64 e3] 27)
        have hrow := SAt.new (((w.alloc (Obj.cells #[Value.bool m, Value.string s, Value.int IntKind.i64 d, Value.bool n, Value.string t, Value.int IntKind.i64 e] 27)).alloc (Obj.cells #[Value.bool m2, Value.string s2, Value.int IntKind.i64 d2, Value.bool n2, Value.string t2, Value.int IntKind.i64 e2] 27)).alloc (Obj.cells #[Value.bool m3, Value.string s3, Value.int IntKind.i64 d3, Value.bool n3, Value.string t3, Value.int IntKind.i64 e3] 27)) 27 [((m, s, d), (n, t, e)), ((m2, s2, d2), (n2, t2, e2)), ((m3, s3, d3), (n3, t3, e3))] #[.bool m, .string s, .int .i64 d, .bool n, .string t, .int .i64 e, .bool m2, .string s2, .int .i64 d2, .bool n2, .string t2, .int .i64 e2, .bool m3, .string s3, .int .i64 d3, .bool n3, .string t3, .int .i64 e3] rfl
        simp only [World.size_alloc] at hrow
        replace hS := hS.alloc (Obj.cells #[Value.bool m, Value.string s, Value.int IntKind.i64 d, Value.bool n, Value.string t, Value.int IntKind.i64 e, Value.bool m2, Value.string s2, Value.int IntKind.i64 d2, Value.bool n2, Value.string t2, Value.int IntKind.i64 e2, Value.bool m3, Value.string s3, Value.int IntKind.i64 d3, Value.bool n3, Value.string t3, Value.int IntKind.i64 e3] 27)
        replace hT := hT.alloc (Obj.cells #[Value.bool m, Value.string s, Value.int IntKind.i64 d, Value.bool n, Value.string t, Value.int IntKind.i64 e, Value.bool m2, Value.string s2, Value.int IntKind.i64 d2, Value.bool n2, Value.string t2, Value.int IntKind.i64 e2, Value.bool m3, Value.string s3, Value.int IntKind.i64 d3, Value.bool n3, Value.string t3, Value.int IntKind.i64 e3] 27)
        replace hU := hU.alloc (Obj.cells #[Value.bool m, Value.string s, Value.int IntKind.i64 d, Value.bool n, Value.string t, Value.int IntKind.i64 e, Value.bool m2, Value.string s2, Value.int IntKind.i64 d2, Value.bool n2, Value.string t2, Value.int IntKind.i64 e2, Value.bool m3, Value.string s3, Value.int IntKind.i64 d3, Value.bool n3, Value.string t3, Value.int IntKind.i64 e3] 27)
        replace hb := hb.alloc (by simp only [World.size_alloc]; omega) (Obj.cells #[Value.bool m, Value.string s, Value.int IntKind.i64 d, Value.bool n, Value.string t, Value.int IntKind.i64 e, Value.bool m2, Value.string s2, Value.int IntKind.i64 d2, Value.bool n2, Value.string t2, Value.int IntKind.i64 e2, Value.bool m3, Value.string s3, Value.int IntKind.i64 d3, Value.bool n3, Value.string t3, Value.int IntKind.i64 e3] 27)
        generalize ((((w.alloc (Obj.cells #[Value.bool m, Value.string s, Value.int IntKind.i64 d, Value.bool n, Value.string t, Value.int IntKind.i64 e] 27)).alloc (Obj.cells #[Value.bool m2, Value.string s2, Value.int IntKind.i64 d2, Value.bool n2, Value.string t2, Value.int IntKind.i64 e2] 27)).alloc (Obj.cells #[Value.bool m3, Value.string s3, Value.int IntKind.i64 d3, Value.bool n3, Value.string t3, Value.int IntKind.i64 e3] 27)).alloc (Obj.cells #[Value.bool m, Value.string s, Value.int IntKind.i64 d, Value.bool n, Value.string t, Value.int IntKind.i64 e, Value.bool m2, Value.string s2, Value.int IntKind.i64 d2, Value.bool n2, Value.string t2, Value.int IntKind.i64 e2, Value.bool m3, Value.string s3, Value.int IntKind.i64 d3, Value.bool n3, Value.string t3, Value.int IntKind.i64 e3] 27)) = W0 at *
        refine (sfar_to2 _ _ [((m, s, d), (n, t, e)), ((m2, s2, d2), (n2, t2, e2)), ((m3, s3, d3), (n3, t3, e3))] 3 3 rfl (by omega) hrow HR2.out).mono ?_
        rintro e' W ⟨rfl, hq⟩
        replace hb := below_next hb hq
        replace hS := hS.below hq
        replace hT := hT.below hq
        replace hU := hU.below hq
        clear hq hrow
        clear hS hT hU
        go_wp2_with fail
        refine (sawake_any _).mono ?_
        rintro e' V9 ⟨rfl, hq⟩
        replace hb := below_next hb hq
        go_wp2
        go_ret
        exact ⟨rfl, hb⟩
      · have dp2 : decide (300 < p) = false := decide_eq_false p2
        have hs := far_three hr2
        simp only at hs
        clear hr2
        obtain ⟨hX, hY, hU⟩ := hs
        obtain ⟨y1, v1, i1, k1⟩ := df_some (farD (-1) ([((m, s, d), (n, t, e)), ((m3, s3, d3), (n3, t3, e3))].map lowS) 2)
        obtain ⟨y2, v2, i2, k2⟩ := df_some (farD 1 ([((m, s, d), (n, t, e)), ((m3, s3, d3), (n3, t3, e3))].map highS) 2)
        obtain ⟨bs1, bs2, bb1, bb2, bl, bh⟩ := big_facts hX.1 hX.2 hU.1 hU.2 k1 k2
        have pX := place_bnd (m := m) (n := n) hX.1 hX.2 (k := 0) (by omega)
        have pY := place_bnd (m := m2) (n := n2) hY.1 hY.2 (k := 0) (by omega)
        have kS : Ok1 s d := by have := hX.1; unfold Ok1; omega
        have kT : Ok1 t e := by have := hX.2; unfold Ok1; omega
        have kS2 : Ok1 s2 d2 := by have := hY.1; unfold Ok1; omega
        have kT2 : Ok1 t2 e2 := by have := hY.2; unfold Ok1; omega
        have kS3 : Ok1 s3 d3 := by have := hU.1; unfold Ok1; omega
        have kT3 : Ok1 t3 e3 := by have := hU.2; unfold Ok1; omega
        have kB1 : Ok1 v1 i1 := by have := bs1; unfold Ok1; omega
        have kB2 : Ok1 v2 i2 := by have := bs2; unfold Ok1; omega
        have jS : Ok2 s d := by have := kS; unfold Ok1 at this; unfold Ok2; omega
        have jT : Ok2 t e := by have := kT; unfold Ok1 at this; unfold Ok2; omega
        have jS2 : Ok2 s2 d2 := by have := kS2; unfold Ok1 at this; unfold Ok2; omega
        have jT2 : Ok2 t2 e2 := by have := kT2; unfold Ok1 at this; unfold Ok2; omega
        have jB1 : Ok2 v1 i1 := by have := kB1; unfold Ok1 at this; unfold Ok2; omega
        have jB2 : Ok2 v2 i2 := by have := kB2; unfold Ok1 at this; unfold Ok2; omega
        have sx := dlo_spec (nv m s d) (nv n t e)
        have tx := dhi_spec (nv m s d) (nv n t e)
        have sy := dlo_spec (nv m2 s2 d2) (nv n2 t2 e2)
        have ty := dhi_spec (nv m2 s2 d2) (nv n2 t2 e2)
        have ia : (nv y1 v1 i1).toRat ≤ (nv m s d).toRat ∧ (nv m s d).toRat ≤ (nv y2 v2 i2).toRat := ⟨Rat.le_trans bl sx.1, Rat.le_trans tx.1 bh⟩
        have ib : (nv y1 v1 i1).toRat ≤ (nv n t e).toRat ∧ (nv n t e).toRat ≤ (nv y2 v2 i2).toRat := ⟨Rat.le_trans bl sx.2.1, Rat.le_trans tx.2.1 bh⟩
        have g1 := within2 ia ib
        have so := dlo_spec (nv y1 v1 i1) (nv y2 v2 i2)
        have sB := dhi_spec (nv y1 v1 i1) (nv y2 v2 i2)
        have ia' : (dlo (nv y1 v1 i1) (nv y2 v2 i2)).toRat ≤ (nv m s d).toRat ∧ (nv m s d).toRat ≤ (dhi (nv y1 v1 i1) (nv y2 v2 i2)).toRat := ⟨Rat.le_trans so.1 ia.1, Rat.le_trans ia.2 sB.2.1⟩
        have ib' : (dlo (nv y1 v1 i1) (nv y2 v2 i2)).toRat ≤ (nv n t e).toRat ∧ (nv n t e).toRat ≤ (dhi (nv y1 v1 i1) (nv y2 v2 i2)).toRat := ⟨Rat.le_trans so.1 ib.1, Rat.le_trans ib.2 sB.2.1⟩
        have ic : (dlo (nv m2 s2 d2) (nv n2 t2 e2)).toRat ≤ (nv m2 s2 d2).toRat ∧ (nv m2 s2 d2).toRat ≤ (dhi (nv m2 s2 d2) (nv n2 t2 e2)).toRat := ⟨sy.1, ty.1⟩
        have id' : (dlo (nv m2 s2 d2) (nv n2 t2 e2)).toRat ≤ (nv n2 t2 e2).toRat ∧ (nv n2 t2 e2).toRat ≤ (dhi (nv m2 s2 d2) (nv n2 t2 e2)).toRat := ⟨sy.2.1, ty.2.1⟩
        obtain ⟨y3, v3, i3, k3⟩ := df_some (sumD ([((m, s, d), (n, t, e)), ((m2, s2, d2), (n2, t2, e2))].map lowS) 2)
        have r3 := form_nv k3
        rw [sum_low2] at r3
        obtain ⟨y4, v4, i4, k4⟩ := df_some (sumD ([((m, s, d), (n, t, e)), ((m2, s2, d2), (n2, t2, e2))].map highS) 2)
        have r4 := form_nv k4
        rw [sum_high2] at r4
        obtain ⟨y5, v5, i5, k5⟩ := df_some (sumD ([((y1, v1, i1), (y2, v2, i2)), ((m2, s2, d2), (n2, t2, e2))].map lowS) 2)
        have r5 := form_nv k5
        rw [sum_low2] at r5
        obtain ⟨y6, v6, i6, k6⟩ := df_some (sumD ([((y1, v1, i1), (y2, v2, i2)), ((m2, s2, d2), (n2, t2, e2))].map highS) 2)
        have r6 := form_nv k6
        rw [sum_high2] at r6
        have blB : Bnd (dlo (nv y1 v1 i1) (nv y2 v2 i2)) 115 300 := by rcases so.2.2 with h | h <;> rw [h] <;> assumption
        have bhB : Bnd (dhi (nv y1 v1 i1) (nv y2 v2 i2)) 115 300 := by rcases sB.2.2 with h | h <;> rw [h] <;> assumption
        have c3 : Ok3 v3 i3 := ((pX.1).add (pY.1)).ok (by omega) (by omega) (by rw [sum_low2] at k3; exact k3)
        have c4 : Ok3 v4 i4 := ((pX.2.1).add (pY.2.1)).ok (by omega) (by omega) (by rw [sum_high2] at k4; exact k4)
        have c5 : Ok3 v5 i5 := ((blB).add (pY.1)).ok (by omega) (by omega) (by rw [sum_low2] at k5; exact k5)
        have c6 : Ok3 v6 i6 := ((bhB).add (pY.2.1)).ok (by omega) (by omega) (by rw [sum_high2] at k6; exact k6)
        have l1 := dlo_dhi (nv m s d) (nv n t e)
        have l2 := dlo_dhi (nv m2 s2 d2) (nv n2 t2 e2)
        have o1 : (dlo (nv y1 v1 i1) (nv y2 v2 i2)).toRat ≤ (dlo (nv m s d) (nv n t e)).toRat := Rat.le_trans so.1 bl
        have o2 : (dhi (nv m s d) (nv n t e)).toRat ≤ (dhi (nv y1 v1 i1) (nv y2 v2 i2)).toRat := Rat.le_trans bh sB.2.1
        have g2 : (hasD (dlo (nv y5 v5 i5) (nv y6 v6 i6)) (dhi (nv y5 v5 i5) (nv y6 v6 i6)) (nv y3 v3 i3) && hasD (dlo (nv y5 v5 i5) (nv y6 v6 i6)) (dhi (nv y5 v5 i5) (nv y6 v6 i6)) (nv y4 v4 i4)) = true := by
          rw [r3, r4, r5, r6]
          refine within2 ?_ ?_ <;> simp only [Dyadic.toRat_add, nvl]
          · exact ⟨rat_add_le o1 (Rat.le_refl), rat_add_le (Rat.le_trans l1 o2) l2⟩
          · exact ⟨rat_add_le (Rat.le_trans o1 l1) l2, rat_add_le o2 (Rat.le_refl)⟩
        have ya : Bnd (nv m s d) 115 300 := (Bnd.of (m := m) (s := s) (d := d) (B := 40) (K := 75) 300 hX.1.1 (by omega) (by omega))
        have yb : Bnd (nv n t e) 115 300 := (Bnd.of (m := n) (s := t) (d := e) (B := 40) (K := 75) 300 hX.2.1 (by omega) (by omega))
        have yc : Bnd (nv m2 s2 d2) 115 300 := (Bnd.of (m := m2) (s := s2) (d := d2) (B := 40) (K := 75) 300 hY.1.1 (by omega) (by omega))
        have yd : Bnd (nv n2 t2 e2) 115 300 := (Bnd.of (m := n2) (s := t2) (d := e2) (B := 40) (K := 75) 300 hY.2.1 (by omega) (by omega))
        obtain ⟨u1, w1, x1, jU1⟩ := df_some (nv m s d * nv m2 s2 d2)
        have eU1 := form_nv jU1
        obtain ⟨u2, w2, x2, jU2⟩ := df_some (nv m s d * nv n2 t2 e2)
        have eU2 := form_nv jU2
        obtain ⟨u3, w3, x3, jU3⟩ := df_some (nv n t e * nv m2 s2 d2)
        have eU3 := form_nv jU3
        obtain ⟨u4, w4, x4, jU4⟩ := df_some (nv n t e * nv n2 t2 e2)
        have eU4 := form_nv jU4
        obtain ⟨u5, w5, x5, jU5⟩ := df_some (nv y1 v1 i1 * nv m2 s2 d2)
        have eU5 := form_nv jU5
        obtain ⟨u6, w6, x6, jU6⟩ := df_some (nv y1 v1 i1 * nv n2 t2 e2)
        have eU6 := form_nv jU6
        obtain ⟨u7, w7, x7, jU7⟩ := df_some (nv y2 v2 i2 * nv m2 s2 d2)
        have eU7 := form_nv jU7
        obtain ⟨u8, w8, x8, jU8⟩ := df_some (nv y2 v2 i2 * nv n2 t2 e2)
        have eU8 := form_nv jU8
        obtain ⟨y7, v7, i7, k7⟩ := df_some (farD (-1) [(u1, w1, x1), (u2, w2, x2), (u3, w3, x3), (u4, w4, x4)] 4)
        have r7 := form_nv k7
        have f7 := far4_low (u1, w1, x1) (u2, w2, x2) (u3, w3, x3) (u4, w4, x4)
        simp only [nvl, eU1, eU2, eU3, eU4] at f7
        have c7 : Ok3 v7 i7 := by
          refine (show Bnd (farD (-1) [(u1, w1, x1), (u2, w2, x2), (u3, w3, x3), (u4, w4, x4)] 4) 230 600 from ?_).ok (by omega) (by omega) k7
          rcases f7.2.2.2.2 with h | h | h | h <;> rw [h]
          · exact ya.mul yc
          · exact ya.mul yd
          · exact yb.mul yc
          · exact yb.mul yd
        obtain ⟨y8, v8, i8, k8⟩ := df_some (farD 1 [(u1, w1, x1), (u2, w2, x2), (u3, w3, x3), (u4, w4, x4)] 4)
        have r8 := form_nv k8
        have f8 := far4_high (u1, w1, x1) (u2, w2, x2) (u3, w3, x3) (u4, w4, x4)
        simp only [nvl, eU1, eU2, eU3, eU4] at f8
        have c8 : Ok3 v8 i8 := by
          refine (show Bnd (farD 1 [(u1, w1, x1), (u2, w2, x2), (u3, w3, x3), (u4, w4, x4)] 4) 230 600 from ?_).ok (by omega) (by omega) k8
          rcases f8.2.2.2.2 with h | h | h | h <;> rw [h]
          · exact ya.mul yc
          · exact ya.mul yd
          · exact yb.mul yc
          · exact yb.mul yd
        obtain ⟨y9, v9, i9, k9⟩ := df_some (farD (-1) [(u5, w5, x5), (u6, w6, x6), (u7, w7, x7), (u8, w8, x8)] 4)
        have r9 := form_nv k9
        have f9 := far4_low (u5, w5, x5) (u6, w6, x6) (u7, w7, x7) (u8, w8, x8)
        simp only [nvl, eU5, eU6, eU7, eU8] at f9
        have c9 : Ok3 v9 i9 := by
          refine (show Bnd (farD (-1) [(u5, w5, x5), (u6, w6, x6), (u7, w7, x7), (u8, w8, x8)] 4) 230 600 from ?_).ok (by omega) (by omega) k9
          rcases f9.2.2.2.2 with h | h | h | h <;> rw [h]
          · exact bb1.mul yc
          · exact bb1.mul yd
          · exact bb2.mul yc
          · exact bb2.mul yd
        obtain ⟨y10, v10, i10, k10⟩ := df_some (farD 1 [(u5, w5, x5), (u6, w6, x6), (u7, w7, x7), (u8, w8, x8)] 4)
        have r10 := form_nv k10
        have f10 := far4_high (u5, w5, x5) (u6, w6, x6) (u7, w7, x7) (u8, w8, x8)
        simp only [nvl, eU5, eU6, eU7, eU8] at f10
        have c10 : Ok3 v10 i10 := by
          refine (show Bnd (farD 1 [(u5, w5, x5), (u6, w6, x6), (u7, w7, x7), (u8, w8, x8)] 4) 230 600 from ?_).ok (by omega) (by omega) k10
          rcases f10.2.2.2.2 with h | h | h | h <;> rw [h]
          · exact bb1.mul yc
          · exact bb1.mul yd
          · exact bb2.mul yc
          · exact bb2.mul yd
        have im1 := in_mul f9.1 f9.2.1 f9.2.2.1 f9.2.2.2.1 f10.1 f10.2.1 f10.2.2.1 f10.2.2.2.1 ia' ic
        have im2 := in_mul f9.1 f9.2.1 f9.2.2.1 f9.2.2.2.1 f10.1 f10.2.1 f10.2.2.1 f10.2.2.2.1 ia' id'
        have im3 := in_mul f9.1 f9.2.1 f9.2.2.1 f9.2.2.2.1 f10.1 f10.2.1 f10.2.2.1 f10.2.2.2.1 ib' ic
        have im4 := in_mul f9.1 f9.2.1 f9.2.2.1 f9.2.2.2.1 f10.1 f10.2.1 f10.2.2.1 f10.2.2.2.1 ib' id'
        have g3 : (hasD (dlo (nv y9 v9 i9) (nv y10 v10 i10)) (dhi (nv y9 v9 i9) (nv y10 v10 i10)) (nv y7 v7 i7) && hasD (dlo (nv y9 v9 i9) (nv y10 v10 i10)) (dhi (nv y9 v9 i9) (nv y10 v10 i10)) (nv y8 v8 i8)) = true := by
          rw [r7, r8, r9, r10]
          refine within2 ?_ ?_
          · rcases f7.2.2.2.2 with h | h | h | h <;> rw [h] <;> assumption
          · rcases f8.2.2.2.2 with h | h | h | h <;> rw [h] <;> assumption
        obtain ⟨y11, v11, i11, k11⟩ := df_some (dlo (nv (!m) s d) (nv (!n) t e))
        have r11 := form_nv k11
        rw [← nv_neg, ← nv_neg] at r11
        have c11 : Ok3 v11 i11 := by
          have h' := k11
          rcases (dlo_spec (nv (!m) s d) (nv (!n) t e)).2.2 with h | h <;> rw [h] at h'
          · exact jS.form h'
          · exact jT.form h'
        obtain ⟨y12, v12, i12, k12⟩ := df_some (dhi (nv (!m) s d) (nv (!n) t e))
        have r12 := form_nv k12
        rw [← nv_neg, ← nv_neg] at r12
        have c12 : Ok3 v12 i12 := by
          have h' := k12
          rcases (dhi_spec (nv (!m) s d) (nv (!n) t e)).2.2 with h | h <;> rw [h] at h'
          · exact jS.form h'
          · exact jT.form h'
        obtain ⟨y13, v13, i13, k13⟩ := df_some (dlo (nv (!y1) v1 i1) (nv (!y2) v2 i2))
        have r13 := form_nv k13
        rw [← nv_neg, ← nv_neg] at r13
        have c13 : Ok3 v13 i13 := by
          have h' := k13
          rcases (dlo_spec (nv (!y1) v1 i1) (nv (!y2) v2 i2)).2.2 with h | h <;> rw [h] at h'
          · exact jB1.form h'
          · exact jB2.form h'
        obtain ⟨y14, v14, i14, k14⟩ := df_some (dhi (nv (!y1) v1 i1) (nv (!y2) v2 i2))
        have r14 := form_nv k14
        rw [← nv_neg, ← nv_neg] at r14
        have c14 : Ok3 v14 i14 := by
          have h' := k14
          rcases (dhi_spec (nv (!y1) v1 i1) (nv (!y2) v2 i2)).2.2 with h | h <;> rw [h] at h'
          · exact jB1.form h'
          · exact jB2.form h'
        have s13 := dlo_spec (-nv y1 v1 i1) (-nv y2 v2 i2)
        have s14 := dhi_spec (-nv y1 v1 i1) (-nv y2 v2 i2)
        have na : (dlo (-nv y1 v1 i1) (-nv y2 v2 i2)).toRat ≤ (-nv m s d).toRat ∧ (-nv m s d).toRat ≤ (dhi (-nv y1 v1 i1) (-nv y2 v2 i2)).toRat := by
          simp only [Dyadic.toRat_neg] at s13 s14 ⊢
          exact ⟨Rat.le_trans s13.2.1 (by grind), Rat.le_trans (by grind) s14.1⟩
        have nb : (dlo (-nv y1 v1 i1) (-nv y2 v2 i2)).toRat ≤ (-nv n t e).toRat ∧ (-nv n t e).toRat ≤ (dhi (-nv y1 v1 i1) (-nv y2 v2 i2)).toRat := by
          simp only [Dyadic.toRat_neg] at s13 s14 ⊢
          exact ⟨Rat.le_trans s13.2.1 (by grind), Rat.le_trans (by grind) s14.1⟩
        have g4 : (hasD (dlo (nv y13 v13 i13) (nv y14 v14 i14)) (dhi (nv y13 v13 i13) (nv y14 v14 i14)) (nv y11 v11 i11) && hasD (dlo (nv y13 v13 i13) (nv y14 v14 i14)) (dhi (nv y13 v13 i13) (nv y14 v14 i14)) (nv y12 v12 i12)) = true := by
          rw [r11, r12, r13, r14]
          refine within2 ?_ ?_
          · rcases (dlo_spec (-nv m s d) (-nv n t e)).2.2 with h | h <;> rw [h] <;> assumption
          · rcases (dhi_spec (-nv m s d) (-nv n t e)).2.2 with h | h <;> rw [h] <;> assumption
        have hpp : -500 ≤ p ∧ p ≤ 500 := by omega
        obtain ⟨y15, v15, i15, k15⟩ := df_some ((dlo (nv m s d) (nv n t e)).roundDown p)
        have r15 := form_nv k15
        have c15 : Ok3 v15 i15 := by
          have h' := k15
          obtain ⟨z, o, f, kk⟩ := df_some (dlo (nv m s d) (nv n t e))
          rw [← form_nv kk] at h'
          exact rd_ok (df_form kk) (pX.1.ok (by omega) (by omega) kk) hpp h'
        obtain ⟨y16, v16, i16, k16⟩ := df_some (ceilD (dhi (nv m s d) (nv n t e)) p)
        have r16 := form_nv k16
        have c16 : Ok3 v16 i16 := by
          have h' := k16
          obtain ⟨z, o, f, kk⟩ := df_some (dhi (nv m s d) (nv n t e))
          rw [← form_nv kk] at h'
          exact ceil_ok2 (df_form kk) (pX.2.1.ok (by omega) (by omega) kk) hpp h'
        have rd := rd_le (dlo (nv m s d) (nv n t e)) p
        have rc := ceil_ge (dhi (nv m s d) (nv n t e)) p
        have g5 : (hasD (dlo (nv y15 v15 i15) (nv y16 v16 i16)) (dhi (nv y15 v15 i15) (nv y16 v16 i16)) (nv m s d) && hasD (dlo (nv y15 v15 i15) (nv y16 v16 i16)) (dhi (nv y15 v15 i15) (nv y16 v16 i16)) (nv n t e)) = true := by
          rw [r15, r16]
          exact within2 ⟨Rat.le_trans rd sx.1, Rat.le_trans tx.1 rc⟩ ⟨Rat.le_trans rd sx.2.1, Rat.le_trans tx.2.1 rc⟩
        obtain ⟨y17, v17, i17, k17⟩ := df_some (farD 1 ([((m, s, d), (n, t, e)), ((m2, s2, d2), (n2, t2, e2))].map lowS) 2)
        have r17 := form_nv k17
        have c17 : Ok3 v17 i17 := far2_ok (side := 1) (x := lowS ((m, s, d), (n, t, e))) (y := lowS ((m2, s2, d2), (n2, t2, e2))) (low2 (x := (m, s, d)) (y := (n, t, e)) jS jT) (low2 (x := (m2, s2, d2)) (y := (n2, t2, e2)) jS2 jT2) k17
        obtain ⟨y18, v18, i18, k18⟩ := df_some (farD (-1) ([((m, s, d), (n, t, e)), ((m2, s2, d2), (n2, t2, e2))].map highS) 2)
        have r18 := form_nv k18
        have c18 : Ok3 v18 i18 := far2_ok (side := (-1)) (x := highS ((m, s, d), (n, t, e))) (y := highS ((m2, s2, d2), (n2, t2, e2))) (high2 (x := (m, s, d)) (y := (n, t, e)) jS jT) (high2 (x := (m2, s2, d2)) (y := (n2, t2, e2)) jS2 jT2) k18
        have f17 := far2_high (lowS ((m, s, d), (n, t, e))) (lowS ((m2, s2, d2), (n2, t2, e2)))
        have f18 := far2_low (highS ((m, s, d), (n, t, e))) (highS ((m2, s2, d2), (n2, t2, e2)))
        have w17 : nvl (lowS ((m, s, d), (n, t, e))) = dlo (nv m s d) (nv n t e) ∧ nvl (lowS ((m2, s2, d2), (n2, t2, e2))) = dlo (nv m2 s2 d2) (nv n2 t2 e2) := ⟨lowN_val _ _, lowN_val _ _⟩
        have w18 : nvl (highS ((m, s, d), (n, t, e))) = dhi (nv m s d) (nv n t e) ∧ nvl (highS ((m2, s2, d2), (n2, t2, e2))) = dhi (nv m2 s2 d2) (nv n2 t2 e2) := ⟨highN_val _ _, highN_val _ _⟩
        rw [w17.1, w17.2] at f17
        rw [w18.1, w18.2] at f18
        change _ = farD 1 [lowS ((m, s, d), (n, t, e)), lowS ((m2, s2, d2), (n2, t2, e2))] 2 at r17
        change _ = farD (-1) [highS ((m, s, d), (n, t, e)), highS ((m2, s2, d2), (n2, t2, e2))] 2 at r18
        rw [← r17] at f17
        rw [← r18] at f18
        obtain ⟨c, hc⟩ : ∃ c, dsg (nv y17 v17 i17 - nv y18 v18 i18) = c := ⟨_, rfl⟩
        have g6 : ¬ 0 < c → (hasD (dlo (nv m s d) (nv n t e)) (dhi (nv m s d) (nv n t e)) (nv y17 v17 i17) && hasD (dlo (nv m s d) (nv n t e)) (dhi (nv m s d) (nv n t e)) (nv y18 v18 i18)) = true ∧ (hasD (dlo (nv m2 s2 d2) (nv n2 t2 e2)) (dhi (nv m2 s2 d2) (nv n2 t2 e2)) (nv y17 v17 i17) && hasD (dlo (nv m2 s2 d2) (nv n2 t2 e2)) (dhi (nv m2 s2 d2) (nv n2 t2 e2)) (nv y18 v18 i18)) = true := by
          intro h
          rw [← hc, dsg_sub_pos] at h
          have h' : (nv y17 v17 i17).toRat ≤ (nv y18 v18 i18).toRat := by grind
          rw [(hasD_iff _ _ _).2 ⟨f17.1, Rat.le_trans h' f18.1⟩, (hasD_iff _ _ _).2 ⟨Rat.le_trans f17.1 h', f18.1⟩, (hasD_iff _ _ _).2 ⟨f17.2, Rat.le_trans h' f18.2⟩, (hasD_iff _ _ _).2 ⟨Rat.le_trans f17.2 h', f18.2⟩]
          exact ⟨rfl, rfl⟩
        have HO := Lib.hid (And.intro kS (And.intro kT (And.intro kS2 (And.intro kT2 (And.intro kS3 (And.intro kT3 (And.intro kB1 kB2)))))))
        have HJ := Lib.hid (And.intro jS (And.intro jT (And.intro jS2 (And.intro jT2 (And.intro jB1 jB2)))))
        have HC := Lib.hid (And.intro c3 (And.intro c4 (And.intro c5 (And.intro c6 (And.intro c7 (And.intro c8 (And.intro c9 (And.intro c10 (And.intro c11 (And.intro c12 (And.intro c13 (And.intro c14 (And.intro c15 (And.intro c16 (And.intro c17 c18)))))))))))))))
        have HK := Lib.hid (And.intro k1 (And.intro k2 (And.intro k3 (And.intro k4 (And.intro k5 (And.intro k6 (And.intro k7 (And.intro k8 (And.intro k9 (And.intro k10 (And.intro k11 (And.intro k12 (And.intro k13 (And.intro k14 (And.intro k15 (And.intro k16 (And.intro k17 k18)))))))))))))))))
        have HQ := Lib.hid (And.intro jU1 (And.intro jU2 (And.intro jU3 (And.intro jU4 (And.intro jU5 (And.intro jU6 (And.intro jU7 jU8)))))))
        have HG := Lib.hid (And.intro g1 (And.intro g2 (And.intro g3 (And.intro g4 (And.intro g5 (And.intro g6 hc))))))
        have HI := Lib.hid (And.intro ia' (And.intro ib' (And.intro ic (And.intro id' (And.intro o1 o2)))))
        have al1 : ∀ x ∈ [((m, s, d), (n, t, e)), ((m3, s3, d3), (n3, t3, e3))], Ok3 x.1.2.1 x.1.2.2 ∧ Ok3 x.2.2.1 x.2.2.2 := by
          intro x hx
          simp at hx
          rcases hx with rfl | rfl
          · exact ⟨kS.ok3, kT.ok3⟩
          · exact ⟨kS3.ok3, kT3.ok3⟩
        have al2 : ∀ x ∈ [((m, s, d), (n, t, e)), ((m2, s2, d2), (n2, t2, e2))], Ok3 x.1.2.1 x.1.2.2 ∧ Ok3 x.2.2.1 x.2.2.2 := by
          intro x hx
          simp at hx
          rcases hx with rfl | rfl
          · exact ⟨kS.ok3, kT.ok3⟩
          · exact ⟨kS2.ok3, kT2.ok3⟩
        have al3 : ∀ x ∈ [((y1, v1, i1), (y2, v2, i2)), ((m2, s2, d2), (n2, t2, e2))], Ok3 x.1.2.1 x.1.2.2 ∧ Ok3 x.2.2.1 x.2.2.2 := by
          intro x hx
          simp at hx
          rcases hx with rfl | rfl
          · exact ⟨kB1.ok3, kB2.ok3⟩
          · exact ⟨kS2.ok3, kT2.ok3⟩
        have HA := Lib.hid (And.intro al1 (And.intro al2 al3))
        clear al1 al2 al3
        clear kS kT kS2 kT2 kS3 kT3 kB1 kB2 jS jT jS2 jT2 jB1 jB2 c3 c4 c5 c6 c7 c8 c9 c10 c11 c12 c13 c14 c15 c16 c17 c18 k1 k2 k3 k4 k5 k6 k7 k8 k9 k10 k11 k12 k13 k14 k15 k16 k17 k18 jU1 jU2 jU3 jU4 jU5 jU6 jU7 jU8 g1 g2 g3 g4 g5 g6 hc ia' ib' ic id' o1 o2 hX hY hU bs1 bs2 bb1 bb2 bl bh pX pY sx tx sy ty ia ib so sB blB bhB l1 l2 ya yb yc yd eU1 eU2 eU3 eU4 eU5 eU6 eU7 eU8 r3 r4 r5 r6 r7 r8 r9 r10 r11 r12 r13 r14 r15 r16 r17 r18 f7 f8 f9 f10 im1 im2 im3 im4 s13 s14 na nb rd rc f17 f18 w17 w18
        go_enter Tryz.func8, Tryz.ntmps8
        go_wp2_with fail
        have hS := Sk.new w 27 m s d n t e
        have hb := (Below.refl w.heap.size w).alloc (Nat.le_refl _) (Obj.cells #[Value.bool m, Value.string s, Value.int IntKind.i64 d, Value.bool n, Value.string t, Value.int IntKind.i64 e] 27)
        have hT := Sk.new ((w.alloc (Obj.cells #[Value.bool m, Value.string s, Value.int IntKind.i64 d, Value.bool n, Value.string t, Value.int IntKind.i64 e] 27))) 27 m2 s2 d2 n2 t2 e2
        simp only [World.size_alloc] at hT
        replace hS := hS.alloc (Obj.cells #[Value.bool m2, Value.string s2, Value.int IntKind.i64 d2, Value.bool n2, Value.string t2, Value.int IntKind.i64 e2] 27)
        replace hb := hb.alloc (by simp only [World.size_alloc]; omega) (Obj.cells #[Value.bool m2, Value.string s2, Value.int IntKind.i64 d2, Value.bool n2, Value.string t2, Value.int IntKind.i64 e2] 27)
        have hU := Sk.new (((w.alloc (Obj.cells #[Value.bool m, Value.string s, Value.int IntKind.i64 d, Value.bool n, Value.string t, Value.int IntKind.i64 e] 27)).alloc (Obj.cells #[Value.bool m2, Value.string s2, Value.int IntKind.i64 d2, Value.bool n2, Value.string t2, Value.int IntKind.i64 e2] 27))) 27 m3 s3 d3 n3 t3 e3
        simp only [World.size_alloc] at hU
        replace hS := hS.alloc (Obj.cells #[Value.bool m3, Value.string s3, Value.int IntKind.i64 d3, Value.bool n3, Value.string t3, Value.int IntKind.i64 e3] 27)
        replace hT := hT.alloc (Obj.cells #[Value.bool m3, Value.string s3, Value.int IntKind.i64 d3, Value.bool n3, Value.string t3, Value.int IntKind.i64 e3] 27)
        replace hb := hb.alloc (by simp only [World.size_alloc]; omega) (Obj.cells #[Value.bool m3, Value.string s3, Value.int IntKind.i64 d3, Value.bool n3, Value.string t3, Value.int IntKind.i64 e3] 27)
        have hrow := SAt.new (((w.alloc (Obj.cells #[Value.bool m, Value.string s, Value.int IntKind.i64 d, Value.bool n, Value.string t, Value.int IntKind.i64 e] 27)).alloc (Obj.cells #[Value.bool m2, Value.string s2, Value.int IntKind.i64 d2, Value.bool n2, Value.string t2, Value.int IntKind.i64 e2] 27)).alloc (Obj.cells #[Value.bool m3, Value.string s3, Value.int IntKind.i64 d3, Value.bool n3, Value.string t3, Value.int IntKind.i64 e3] 27)) 27 [((m, s, d), (n, t, e)), ((m2, s2, d2), (n2, t2, e2)), ((m3, s3, d3), (n3, t3, e3))] #[.bool m, .string s, .int .i64 d, .bool n, .string t, .int .i64 e, .bool m2, .string s2, .int .i64 d2, .bool n2, .string t2, .int .i64 e2, .bool m3, .string s3, .int .i64 d3, .bool n3, .string t3, .int .i64 e3] rfl
        simp only [World.size_alloc] at hrow
        replace hS := hS.alloc (Obj.cells #[Value.bool m, Value.string s, Value.int IntKind.i64 d, Value.bool n, Value.string t, Value.int IntKind.i64 e, Value.bool m2, Value.string s2, Value.int IntKind.i64 d2, Value.bool n2, Value.string t2, Value.int IntKind.i64 e2, Value.bool m3, Value.string s3, Value.int IntKind.i64 d3, Value.bool n3, Value.string t3, Value.int IntKind.i64 e3] 27)
        replace hT := hT.alloc (Obj.cells #[Value.bool m, Value.string s, Value.int IntKind.i64 d, Value.bool n, Value.string t, Value.int IntKind.i64 e, Value.bool m2, Value.string s2, Value.int IntKind.i64 d2, Value.bool n2, Value.string t2, Value.int IntKind.i64 e2, Value.bool m3, Value.string s3, Value.int IntKind.i64 d3, Value.bool n3, Value.string t3, Value.int IntKind.i64 e3] 27)
        replace hU := hU.alloc (Obj.cells #[Value.bool m, Value.string s, Value.int IntKind.i64 d, Value.bool n, Value.string t, Value.int IntKind.i64 e, Value.bool m2, Value.string s2, Value.int IntKind.i64 d2, Value.bool n2, Value.string t2, Value.int IntKind.i64 e2, Value.bool m3, Value.string s3, Value.int IntKind.i64 d3, Value.bool n3, Value.string t3, Value.int IntKind.i64 e3] 27)
        replace hb := hb.alloc (by simp only [World.size_alloc]; omega) (Obj.cells #[Value.bool m, Value.string s, Value.int IntKind.i64 d, Value.bool n, Value.string t, Value.int IntKind.i64 e, Value.bool m2, Value.string s2, Value.int IntKind.i64 d2, Value.bool n2, Value.string t2, Value.int IntKind.i64 e2, Value.bool m3, Value.string s3, Value.int IntKind.i64 d3, Value.bool n3, Value.string t3, Value.int IntKind.i64 e3] 27)
        generalize ((((w.alloc (Obj.cells #[Value.bool m, Value.string s, Value.int IntKind.i64 d, Value.bool n, Value.string t, Value.int IntKind.i64 e] 27)).alloc (Obj.cells #[Value.bool m2, Value.string s2, Value.int IntKind.i64 d2, Value.bool n2, Value.string t2, Value.int IntKind.i64 e2] 27)).alloc (Obj.cells #[Value.bool m3, Value.string s3, Value.int IntKind.i64 d3, Value.bool n3, Value.string t3, Value.int IntKind.i64 e3] 27)).alloc (Obj.cells #[Value.bool m, Value.string s, Value.int IntKind.i64 d, Value.bool n, Value.string t, Value.int IntKind.i64 e, Value.bool m2, Value.string s2, Value.int IntKind.i64 d2, Value.bool n2, Value.string t2, Value.int IntKind.i64 e2, Value.bool m3, Value.string s3, Value.int IntKind.i64 d3, Value.bool n3, Value.string t3, Value.int IntKind.i64 e3] 27)) = W0 at *
        refine (sfar_to2 _ _ [((m, s, d), (n, t, e)), ((m2, s2, d2), (n2, t2, e2)), ((m3, s3, d3), (n3, t3, e3))] 3 3 rfl (by omega) hrow HR2.out).mono ?_
        rintro e' W ⟨rfl, hq⟩
        replace hb := below_next hb hq
        replace hS := hS.below hq
        replace hT := hT.below hq
        replace hU := hU.below hq
        clear hq hrow
        obtain ⟨hS0, hS1, hS2, hS3, hS4, hS5⟩ := hS.cells
        obtain ⟨hT0, hT1, hT2, hT3, hT4, hT5⟩ := hT.cells
        obtain ⟨hU0, hU1, hU2, hU3, hU4, hU5⟩ := hU.cells
        go_wp2_with fail
        clear hS0 hS1 hS2 hS3 hS4 hS5 hT0 hT1 hT2 hT3 hT4 hT5 hU0 hU1 hU2 hU3 hU4 hU5
        have hrow := SAt.new W 27 [((m, s, d), (n, t, e)), ((m3, s3, d3), (n3, t3, e3))] #[.bool m, .string s, .int .i64 d, .bool n, .string t, .int .i64 e, .bool m3, .string s3, .int .i64 d3, .bool n3, .string t3, .int .i64 e3] rfl
        replace hS := hS.alloc (Obj.cells #[Value.bool m, Value.string s, Value.int IntKind.i64 d, Value.bool n, Value.string t, Value.int IntKind.i64 e, Value.bool m3, Value.string s3, Value.int IntKind.i64 d3, Value.bool n3, Value.string t3, Value.int IntKind.i64 e3] 27)
        replace hT := hT.alloc (Obj.cells #[Value.bool m, Value.string s, Value.int IntKind.i64 d, Value.bool n, Value.string t, Value.int IntKind.i64 e, Value.bool m3, Value.string s3, Value.int IntKind.i64 d3, Value.bool n3, Value.string t3, Value.int IntKind.i64 e3] 27)
        replace hU := hU.alloc (Obj.cells #[Value.bool m, Value.string s, Value.int IntKind.i64 d, Value.bool n, Value.string t, Value.int IntKind.i64 e, Value.bool m3, Value.string s3, Value.int IntKind.i64 d3, Value.bool n3, Value.string t3, Value.int IntKind.i64 e3] 27)
        replace hb := hb.alloc hb.size (Obj.cells #[Value.bool m, Value.string s, Value.int IntKind.i64 d, Value.bool n, Value.string t, Value.int IntKind.i64 e, Value.bool m3, Value.string s3, Value.int IntKind.i64 d3, Value.bool n3, Value.string t3, Value.int IntKind.i64 e3] 27)
        generalize (W.alloc (Obj.cells #[Value.bool m, Value.string s, Value.int IntKind.i64 d, Value.bool n, Value.string t, Value.int IntKind.i64 e, Value.bool m3, Value.string s3, Value.int IntKind.i64 d3, Value.bool n3, Value.string t3, Value.int IntKind.i64 e3] 27)) = W1 at *
        refine (shull_any _ _ [((m, s, d), (n, t, e)), ((m3, s3, d3), (n3, t3, e3))] 2 2 rfl (by omega) hrow HA.out.1 y1 v1 i1 HK.out.1 y2 v2 i2 HK.out.2.1).mono ?_
        rintro e' V ⟨rfl, hq⟩
        replace hb := below_next hb hq
        replace hS := hS.below hq
        replace hT := hT.below hq
        clear hq hrow hU
        have hD := Sk.new V 27 y1 v1 i1 y2 v2 i2
        replace hS := hS.alloc (Obj.cells #[Value.bool y1, Value.string v1, Value.int IntKind.i64 i1, Value.bool y2, Value.string v2, Value.int IntKind.i64 i2] 27)
        replace hT := hT.alloc (Obj.cells #[Value.bool y1, Value.string v1, Value.int IntKind.i64 i1, Value.bool y2, Value.string v2, Value.int IntKind.i64 i2] 27)
        replace hb := hb.alloc hb.size (Obj.cells #[Value.bool y1, Value.string v1, Value.int IntKind.i64 i1, Value.bool y2, Value.string v2, Value.int IntKind.i64 i2] 27)
        obtain ⟨hS0, hS1, hS2, hS3, hS4, hS5⟩ := hS.cells
        obtain ⟨hT0, hT1, hT2, hT3, hT4, hT5⟩ := hT.cells
        obtain ⟨hD0, hD1, hD2, hD3, hD4, hD5⟩ := hD.cells
        go_wp2_with fail
        generalize (V.alloc (Obj.cells #[Value.bool y1, Value.string v1, Value.int IntKind.i64 i1, Value.bool y2, Value.string v2, Value.int IntKind.i64 i2] 27)) = W2 at *
        generalize V.heap.size = PD at *
        clear hS0 hS1 hS2 hS3 hS4 hS5 hT0 hT1 hT2 hT3 hT4 hT5 hD0 hD1 hD2 hD3 hD4 hD5
        refine region_segs (n := 42) #[false, false, false, false, false, false, false, false, false, false, false, false, false, false, false, false, false, false, false, false, false, false, false, false, false, false, false, false, false, false, false, false, false, false, false, false, false, false, false, false, false, false] (by kernel_rfl) (by kernel_rfl) (by kernel_rfl) ?_
        intro fu hf
        refine lin_seg 42 [0, 1, 2, 3, 4] 4 (fun L ac Wn => ∃ l0 l1 l2 l3 : Bool, L = #[l0, l1, l2, l3, false, false, false, false, false, false, false, false, false, false, false, false, false, false, false, false, false, false, false, false, false, false, false, false, false, false, false, false, false, false, false, false, false, false, false, false, false, false] ∧ ac = { tmps := #[.agg #[.bool m, .string s, .int .i64 d, .bool n, .string t, .int .i64 e], .agg #[.bool m2, .string s2, .int .i64 d2, .bool n2, .string t2, .int .i64 e2], .agg #[.bool m3, .string s3, .int .i64 d3, .bool n3, .string t3, .int .i64 e3], .int .i64 p, .pointer (some ⟨w.heap.size, 0, none⟩), .pointer (some ⟨w.heap.size + 1, 0, none⟩), .pointer (some ⟨w.heap.size + 1 + 1, 0, none⟩), undef, .bool false, .pointer (some ⟨PD, 0, none⟩), undef, undef, undef, undef, undef, undef, .agg #[.bool m, .string s, .int .i64 d, .bool n, .string t, .int .i64 e], .agg #[.bool m2, .string s2, .int .i64 d2, .bool n2, .string t2, .int .i64 e2], .agg #[.bool m3, .string s3, .int .i64 d3, .bool n3, .string t3, .int .i64 e3], .slice (some ⟨w.heap.size + 1 + 1 + 1, 0, none⟩) 3 3, .bool false, .bool false, .int .i64 p, .bool false, .bool false, .bool false, .int .i64 p, .bool false, .bool false, undef, .agg #[.bool m, .string s, .int .i64 d, .bool n, .string t, .int .i64 e], .agg #[.bool m3, .string s3, .int .i64 d3, .bool n3, .string t3, .int .i64 e3], .slice (some ⟨W.heap.size, 0, none⟩) 2 2, .agg #[.bool y1, .string v1, .int .i64 i1, .bool y2, .string v2, .int .i64 i2], sel l0 (.agg #[.bool m, .string s, .int .i64 d, .bool n, .string t, .int .i64 e]) (undef), sel l1 (.agg #[.bool y1, .string v1, .int .i64 i1, .bool y2, .string v2, .int .i64 i2]) (undef), sel l2 (.bool true) (undef), sel l3 (.bool false) (undef), undef, undef, undef, undef, undef, undef, undef, undef, undef, undef, undef, undef, undef, undef, undef, undef, undef, undef, undef, undef, undef, undef, undef, undef, undef, undef, undef, undef, undef, undef, undef, undef, undef, undef, undef, undef, undef, undef, undef, undef, undef, undef, undef, undef, undef, undef, undef, undef, undef, undef, undef, undef, undef, undef, undef, undef, undef, undef, undef, undef, undef, undef, undef, undef, undef, undef, undef, undef, undef, undef, undef, undef, undef, undef, undef, undef, undef, undef, undef, undef, undef, undef, undef, undef, undef, undef], defers := [] } ∧ Below (w.heap.size) w Wn ∧ (Sk Wn (w.heap.size) 27 m s d n t e) ∧ (Sk Wn (w.heap.size + 1) 27 m2 s2 d2 n2 t2 e2) ∧ (Sk Wn PD 27 y1 v1 i1 y2 v2 i2)) (by kernel_rfl) (by kernel_rfl) (by kernel_rfl) (by kernel_rfl) hf ?_ ?_ ?_ (by kernel_rfl) ?_ (by decide)
        · exact ⟨false, false, false, false, by kernel_rfl, by kernel_rfl, hb.drew, hS.drew, hT.drew, hD.drew⟩
        · rintro L ac Wn ⟨l0, l1, l2, l3, rfl, _⟩
          kernel_rfl
        · refine (seg_all (b := 4) [0, 1, 2, 3] ?_ : ∀ j ∈ [0, 1, 2, 3, 4], j ≠ 4 → _)
          refine lin_cons [] [2, 3] rfl (by kernel_rfl) (by kernel_rfl) ?_ ?_
          · intro L ac Wn hI hi hds hus Kc hK
            obtain ⟨l0, l1, l2, l3, rfl, hI⟩ := hI
            obtain rfl : l0 = false := hi
            obtain ⟨rfl, rfl, -⟩ : l2 = false ∧ l3 = false ∧ True := hus
            simp only [sel_f] at hI
            obtain ⟨rfl, hb, hS, hT, hD⟩ := hI
            obtain ⟨q0, q1, q2, q3, q4, q5, q6, q7, q8, q9, q10, q11⟩ := (hS).facts
            refine lin_yield (.agg #[.bool m, .string s, .int .i64 d, .bool n, .string t, .int .i64 e]) rfl (by go_simp; first | done | with_reducible rfl | assumption) ?_
            exact hK.out _ _ ⟨true, l1, false, false, by kernel_rfl, by kernel_rfl, hb, (hS), (hT), (hD)⟩
          refine lin_cons [] [2, 3] rfl (by kernel_rfl) (by kernel_rfl) ?_ ?_
          · intro L ac Wn hI hi hds hus Kc hK
            obtain ⟨l0, l1, l2, l3, rfl, hI⟩ := hI
            obtain rfl : l1 = false := hi
            obtain ⟨rfl, rfl, -⟩ : l2 = false ∧ l3 = false ∧ True := hus
            simp only [sel_f] at hI
            obtain ⟨rfl, hb, hS, hT, hD⟩ := hI
            obtain ⟨q0, q1, q2, q3, q4, q5, q6, q7, q8, q9, q10, q11⟩ := (hD).facts
            refine lin_yield (.agg #[.bool y1, .string v1, .int .i64 i1, .bool y2, .string v2, .int .i64 i2]) rfl (by go_simp; first | done | with_reducible rfl | assumption) ?_
            exact hK.out _ _ ⟨l0, true, false, false, by kernel_rfl, by kernel_rfl, hb, (hS), (hT), (hD)⟩
          refine lin_cons [0, 1] [3] rfl (by kernel_rfl) (by kernel_rfl) ?_ ?_
          · intro L ac Wn hI hi hds hus Kc hK
            obtain ⟨l0, l1, l2, l3, rfl, hI⟩ := hI
            obtain rfl : l2 = false := hi
            obtain ⟨rfl, rfl, -⟩ : l0 = true ∧ l1 = true ∧ True := hds
            obtain ⟨rfl, -⟩ : l3 = false ∧ True := hus
            simp only [sel_t, sel_f] at hI
            obtain ⟨rfl, hb, hS, hT, hD⟩ := hI
            go_simp
            go_fit (swithin_any _ m s d n t e y1 v1 i1 y2 v2 i2 HO.out.1.ok3 HO.out.2.1.ok3 HO.out.2.2.2.2.2.2.1.ok3 HO.out.2.2.2.2.2.2.2.ok3 true HG.out.1)
            rintro e V ⟨rfl, hq⟩
            exact hK.out _ _ ⟨true, true, true, false, by kernel_rfl, by kernel_rfl, (below_next hb hq), (hS.below hq), (hT.below hq), (hD.below hq)⟩
          refine lin_cons [0, 1, 2] [] rfl (by kernel_rfl) (by kernel_rfl) ?_ lin_nil
          intro L ac Wn hI hi hds hus Kc hK
          obtain ⟨l0, l1, l2, l3, rfl, hI⟩ := hI
          obtain rfl : l3 = false := hi
          obtain ⟨rfl, rfl, rfl, -⟩ : l0 = true ∧ l1 = true ∧ l2 = true ∧ True := hds
          simp only [sel_t, sel_f] at hI
          obtain ⟨rfl, hb, hS, hT, hD⟩ := hI
          refine lin_yield (.bool false) rfl (by go_simp; first | done | with_reducible rfl | assumption) ?_
          exact hK.out _ _ ⟨true, true, true, true, by kernel_rfl, by kernel_rfl, hb, (hS), (hT), (hD)⟩
        refine bar_of [0, 1, 2, 3] rfl (by kernel_rfl) ?_
        intro L ac Wn hI hds Kc hK
        obtain ⟨l0, l1, l2, l3, rfl, hI⟩ := hI
        obtain ⟨rfl, rfl, rfl, rfl, -⟩ : l0 = true ∧ l1 = true ∧ l2 = true ∧ l3 = true ∧ True := hds
        simp only [sel_t] at hI
        obtain ⟨rfl, hb, hS, hT, hD⟩ := hI
        refine lin_yield (.bool false) rfl (by go_simp; first | done | with_reducible rfl | assumption) ?_
        refine hK.out _ _ (fun fu hf => ?_)
        clear hK Kc
        refine lin_seg 42 [5, 6, 7, 8, 9, 10, 11, 12, 13, 14, 15, 16] 16 (fun L ac Wn => ∃ l5 l6 l7 l8 l9 l10 l11 l12 l13 l14 l15 : Bool, L = #[true, true, true, true, true, l5, l6, l7, l8, l9, l10, l11, l12, l13, l14, l15, false, false, false, false, false, false, false, false, false, false, false, false, false, false, false, false, false, false, false, false, false, false, false, false, false, false] ∧ ∃ g41 g45 : Nat, ac = { tmps := #[.agg #[.bool m, .string s, .int .i64 d, .bool n, .string t, .int .i64 e], .agg #[.bool m2, .string s2, .int .i64 d2, .bool n2, .string t2, .int .i64 e2], .agg #[.bool m3, .string s3, .int .i64 d3, .bool n3, .string t3, .int .i64 e3], .int .i64 p, .pointer (some ⟨w.heap.size, 0, none⟩), .pointer (some ⟨w.heap.size + 1, 0, none⟩), .pointer (some ⟨w.heap.size + 1 + 1, 0, none⟩), undef, .bool false, .pointer (some ⟨PD, 0, none⟩), undef, undef, undef, undef, undef, undef, .agg #[.bool m, .string s, .int .i64 d, .bool n, .string t, .int .i64 e], .agg #[.bool m2, .string s2, .int .i64 d2, .bool n2, .string t2, .int .i64 e2], .agg #[.bool m3, .string s3, .int .i64 d3, .bool n3, .string t3, .int .i64 e3], .slice (some ⟨w.heap.size + 1 + 1 + 1, 0, none⟩) 3 3, .bool false, .bool false, .int .i64 p, .bool false, .bool false, .bool false, .int .i64 p, .bool false, .bool false, undef, .agg #[.bool m, .string s, .int .i64 d, .bool n, .string t, .int .i64 e], .agg #[.bool m3, .string s3, .int .i64 d3, .bool n3, .string t3, .int .i64 e3], .slice (some ⟨W.heap.size, 0, none⟩) 2 2, .agg #[.bool y1, .string v1, .int .i64 i1, .bool y2, .string v2, .int .i64 i2], .agg #[.bool m, .string s, .int .i64 d, .bool n, .string t, .int .i64 e], .agg #[.bool y1, .string v1, .int .i64 i1, .bool y2, .string v2, .int .i64 i2], .bool true, .bool false, .bool false, sel l5 (.agg #[.bool m, .string s, .int .i64 d, .bool n, .string t, .int .i64 e]) (undef), sel l6 (.agg #[.bool m2, .string s2, .int .i64 d2, .bool n2, .string t2, .int .i64 e2]) (undef), sel l7 (.slice (some ⟨g41, 0, none⟩) 2 2) (undef), sel l8 (.agg #[.bool y3, .string v3, .int .i64 i3, .bool y4, .string v4, .int .i64 i4]) (undef), sel l9 (.agg #[.bool y1, .string v1, .int .i64 i1, .bool y2, .string v2, .int .i64 i2]) (undef), sel l10 (.agg #[.bool m2, .string s2, .int .i64 d2, .bool n2, .string t2, .int .i64 e2]) (undef), sel l11 (.slice (some ⟨g45, 0, none⟩) 2 2) (undef), sel l12 (.agg #[.bool y5, .string v5, .int .i64 i5, .bool y6, .string v6, .int .i64 i6]) (undef), sel l13 (.bool true) (undef), sel l14 (.bool false) (undef), sel l15 (.bool false) (undef), undef, undef, undef, undef, undef, undef, undef, undef, undef, undef, undef, undef, undef, undef, undef, undef, undef, undef, undef, undef, undef, undef, undef, undef, undef, undef, undef, undef, undef, undef, undef, undef, undef, undef, undef, undef, undef, undef, undef, undef, undef, undef, undef, undef, undef, undef, undef, undef, undef, undef, undef, undef, undef, undef, undef, undef, undef, undef, undef, undef, undef, undef, undef, undef, undef, undef, undef, undef, undef, undef, undef, undef, undef, undef], defers := [] } ∧ Below (w.heap.size) w Wn ∧ (Sk Wn (w.heap.size) 27 m s d n t e) ∧ (Sk Wn (w.heap.size + 1) 27 m2 s2 d2 n2 t2 e2) ∧ (Sk Wn PD 27 y1 v1 i1 y2 v2 i2) ∧ (On l7 → Off l8 → SAt Wn (some ⟨g41, 0, none⟩) [((m, s, d), (n, t, e)), ((m2, s2, d2), (n2, t2, e2))]) ∧ (On l11 → Off l12 → SAt Wn (some ⟨g45, 0, none⟩) [((y1, v1, i1), (y2, v2, i2)), ((m2, s2, d2), (n2, t2, e2))])) (by kernel_rfl) (by kernel_rfl) (by kernel_rfl) (by kernel_rfl) hf ?_ ?_ ?_ (by kernel_rfl) ?_ (by decide)
        · exact ⟨false, false, false, false, false, false, false, false, false, false, false, by kernel_rfl, 0, 0, by kernel_rfl, hb, hS, hT, hD, (fun h _ => not_ft h), (fun h _ => not_ft h)⟩
        · rintro L ac Wn ⟨l5, l6, l7, l8, l9, l10, l11, l12, l13, l14, l15, rfl, _⟩
          kernel_rfl
        · refine (seg_all (b := 16) [5, 6, 7, 8, 9, 10, 11, 12, 13, 14, 15] ?_ : ∀ j ∈ [5, 6, 7, 8, 9, 10, 11, 12, 13, 14, 15, 16], j ≠ 16 → _)
          refine lin_cons [] [7, 8, 12, 13, 14, 15] rfl (by kernel_rfl) (by kernel_rfl) ?_ ?_
          · intro L ac Wn hI hi hds hus Kc hK
            obtain ⟨l5, l6, l7, l8, l9, l10, l11, l12, l13, l14, l15, rfl, hI⟩ := hI
            obtain rfl : l5 = false := hi
            obtain ⟨rfl, rfl, rfl, rfl, rfl, rfl, -⟩ : l7 = false ∧ l8 = false ∧ l12 = false ∧ l13 = false ∧ l14 = false ∧ l15 = false ∧ True := hus
            simp only [sel_f] at hI
            obtain ⟨g41, g45, rfl, hb, hS, hT, hD, hW7, hW11⟩ := hI
            obtain ⟨q0, q1, q2, q3, q4, q5, q6, q7, q8, q9, q10, q11⟩ := (hS).facts
            refine lin_yield (.agg #[.bool m, .string s, .int .i64 d, .bool n, .string t, .int .i64 e]) rfl (by go_simp; first | done | with_reducible rfl | assumption) ?_
            exact hK.out _ _ ⟨true, l6, false, false, l9, l10, l11, false, false, false, false, by kernel_rfl, g41, g45, by kernel_rfl, hb, (hS), (hT), (hD), (fun h _ => not_ft h), (fun z0 z1 => (hW11 z0 z1))⟩
          refine lin_cons [] [7, 8, 12, 13, 14, 15] rfl (by kernel_rfl) (by kernel_rfl) ?_ ?_
          · intro L ac Wn hI hi hds hus Kc hK
            obtain ⟨l5, l6, l7, l8, l9, l10, l11, l12, l13, l14, l15, rfl, hI⟩ := hI
            obtain rfl : l6 = false := hi
            obtain ⟨rfl, rfl, rfl, rfl, rfl, rfl, -⟩ : l7 = false ∧ l8 = false ∧ l12 = false ∧ l13 = false ∧ l14 = false ∧ l15 = false ∧ True := hus
            simp only [sel_f] at hI
            obtain ⟨g41, g45, rfl, hb, hS, hT, hD, hW7, hW11⟩ := hI
            obtain ⟨q0, q1, q2, q3, q4, q5, q6, q7, q8, q9, q10, q11⟩ := (hT).facts
            refine lin_yield (.agg #[.bool m2, .string s2, .int .i64 d2, .bool n2, .string t2, .int .i64 e2]) rfl (by go_simp; first | done | with_reducible rfl | assumption) ?_
            exact hK.out _ _ ⟨l5, true, false, false, l9, l10, l11, false, false, false, false, by kernel_rfl, g41, g45, by kernel_rfl, hb, (hS), (hT), (hD), (fun h _ => not_ft h), (fun z0 z1 => (hW11 z0 z1))⟩
          refine lin_cons [5, 6] [8, 12, 13, 14, 15] rfl (by kernel_rfl) (by kernel_rfl) ?_ ?_
          · intro L ac Wn hI hi hds hus Kc hK
            obtain ⟨l5, l6, l7, l8, l9, l10, l11, l12, l13, l14, l15, rfl, hI⟩ := hI
            obtain rfl : l7 = false := hi
            obtain ⟨rfl, rfl, -⟩ : l5 = true ∧ l6 = true ∧ True := hds
            obtain ⟨rfl, rfl, rfl, rfl, rfl, -⟩ : l8 = false ∧ l12 = false ∧ l13 = false ∧ l14 = false ∧ l15 = false ∧ True := hus
            simp only [sel_t, sel_f] at hI
            obtain ⟨g41, g45, rfl, hb, hS, hT, hD, hW7, hW11⟩ := hI
            go_simp
            exact hK.out _ _ ⟨true, true, true, false, l9, l10, l11, false, false, false, false, by kernel_rfl, _, g45, by kernel_rfl, (hb.alloc hb.size _), (hS.alloc _), (hT.alloc _), (hD.alloc _), (fun _ _ => SAt.new _ _ _ _ rfl), (fun z0 z1 => (hW11 z0 z1).alloc _)⟩
          refine lin_cons [5, 6, 7] [12, 13, 14, 15] rfl (by kernel_rfl) (by kernel_rfl) ?_ ?_
          · intro L ac Wn hI hi hds hus Kc hK
            obtain ⟨l5, l6, l7, l8, l9, l10, l11, l12, l13, l14, l15, rfl, hI⟩ := hI
            obtain rfl : l8 = false := hi
            obtain ⟨rfl, rfl, rfl, -⟩ : l5 = true ∧ l6 = true ∧ l7 = true ∧ True := hds
            obtain ⟨rfl, rfl, rfl, rfl, -⟩ : l12 = false ∧ l13 = false ∧ l14 = false ∧ l15 = false ∧ True := hus
            simp only [sel_t, sel_f] at hI
            obtain ⟨g41, g45, rfl, hb, hS, hT, hD, hW7, hW11⟩ := hI
            go_simp
            go_fit (sadd_any _ _ [((m, s, d), (n, t, e)), ((m2, s2, d2), (n2, t2, e2))] 2 2 rfl (by omega) (hW7 rfl rfl) HA.out.2.1 y3 v3 i3 HK.out.2.2.1 y4 v4 i4 HK.out.2.2.2.1)
            rintro e V ⟨rfl, hq⟩
            exact hK.out _ _ ⟨true, true, true, true, l9, l10, l11, false, false, false, false, by kernel_rfl, g41, g45, by kernel_rfl, (below_next hb hq), (hS.below hq), (hT.below hq), (hD.below hq), (fun _ h => not_tf h), (fun z0 z1 => (hW11 z0 z1).below hq)⟩
          refine lin_cons [] [11, 12, 13, 14, 15] rfl (by kernel_rfl) (by kernel_rfl) ?_ ?_
          · intro L ac Wn hI hi hds hus Kc hK
            obtain ⟨l5, l6, l7, l8, l9, l10, l11, l12, l13, l14, l15, rfl, hI⟩ := hI
            obtain rfl : l9 = false := hi
            obtain ⟨rfl, rfl, rfl, rfl, rfl, -⟩ : l11 = false ∧ l12 = false ∧ l13 = false ∧ l14 = false ∧ l15 = false ∧ True := hus
            simp only [sel_f] at hI
            obtain ⟨g41, g45, rfl, hb, hS, hT, hD, hW7, hW11⟩ := hI
            obtain ⟨q0, q1, q2, q3, q4, q5, q6, q7, q8, q9, q10, q11⟩ := (hD).facts
            refine lin_yield (.agg #[.bool y1, .string v1, .int .i64 i1, .bool y2, .string v2, .int .i64 i2]) rfl (by go_simp; first | done | with_reducible rfl | assumption) ?_
            exact hK.out _ _ ⟨l5, l6, l7, l8, true, l10, false, false, false, false, false, by kernel_rfl, g41, g45, by kernel_rfl, hb, (hS), (hT), (hD), (fun z0 z1 => (hW7 z0 z1)), (fun h _ => not_ft h)⟩
          refine lin_cons [] [11, 12, 13, 14, 15] rfl (by kernel_rfl) (by kernel_rfl) ?_ ?_
          · intro L ac Wn hI hi hds hus Kc hK
            obtain ⟨l5, l6, l7, l8, l9, l10, l11, l12, l13, l14, l15, rfl, hI⟩ := hI
            obtain rfl : l10 = false := hi
            obtain ⟨rfl, rfl, rfl, rfl, rfl, -⟩ : l11 = false ∧ l12 = false ∧ l13 = false ∧ l14 = false ∧ l15 = false ∧ True := hus
            simp only [sel_f] at hI
            obtain ⟨g41, g45, rfl, hb, hS, hT, hD, hW7, hW11⟩ := hI
            obtain ⟨q0, q1, q2, q3, q4, q5, q6, q7, q8, q9, q10, q11⟩ := (hT).facts
            refine lin_yield (.agg #[.bool m2, .string s2, .int .i64 d2, .bool n2, .string t2, .int .i64 e2]) rfl (by go_simp; first | done | with_reducible rfl | assumption) ?_
            exact hK.out _ _ ⟨l5, l6, l7, l8, l9, true, false, false, false, false, false, by kernel_rfl, g41, g45, by kernel_rfl, hb, (hS), (hT), (hD), (fun z0 z1 => (hW7 z0 z1)), (fun h _ => not_ft h)⟩
          refine lin_cons [9, 10] [12, 13, 14, 15] rfl (by kernel_rfl) (by kernel_rfl) ?_ ?_
          · intro L ac Wn hI hi hds hus Kc hK
            obtain ⟨l5, l6, l7, l8, l9, l10, l11, l12, l13, l14, l15, rfl, hI⟩ := hI
            obtain rfl : l11 = false := hi
            obtain ⟨rfl, rfl, -⟩ : l9 = true ∧ l10 = true ∧ True := hds
            obtain ⟨rfl, rfl, rfl, rfl, -⟩ : l12 = false ∧ l13 = false ∧ l14 = false ∧ l15 = false ∧ True := hus
            simp only [sel_t, sel_f] at hI
            obtain ⟨g41, g45, rfl, hb, hS, hT, hD, hW7, hW11⟩ := hI
            go_simp
            exact hK.out _ _ ⟨l5, l6, l7, l8, true, true, true, false, false, false, false, by kernel_rfl, g41, _, by kernel_rfl, (hb.alloc hb.size _), (hS.alloc _), (hT.alloc _), (hD.alloc _), (fun z0 z1 => (hW7 z0 z1).alloc _), (fun _ _ => SAt.new _ _ _ _ rfl)⟩
          refine lin_cons [5, 6, 7, 8, 9, 10, 11] [13, 14, 15] rfl (by kernel_rfl) (by kernel_rfl) ?_ ?_
          · intro L ac Wn hI hi hds hus Kc hK
            obtain ⟨l5, l6, l7, l8, l9, l10, l11, l12, l13, l14, l15, rfl, hI⟩ := hI
            obtain rfl : l12 = false := hi
            obtain ⟨rfl, rfl, rfl, rfl, rfl, rfl, rfl, -⟩ : l5 = true ∧ l6 = true ∧ l7 = true ∧ l8 = true ∧ l9 = true ∧ l10 = true ∧ l11 = true ∧ True := hds
            obtain ⟨rfl, rfl, rfl, -⟩ : l13 = false ∧ l14 = false ∧ l15 = false ∧ True := hus
            simp only [sel_t, sel_f] at hI
            obtain ⟨g41, g45, rfl, hb, hS, hT, hD, hW7, hW11⟩ := hI
            go_simp
            go_fit (sadd_any _ _ [((y1, v1, i1), (y2, v2, i2)), ((m2, s2, d2), (n2, t2, e2))] 2 2 rfl (by omega) (hW11 rfl rfl) HA.out.2.2 y5 v5 i5 HK.out.2.2.2.2.1 y6 v6 i6 HK.out.2.2.2.2.2.1)
            rintro e V ⟨rfl, hq⟩
            exact hK.out _ _ ⟨true, true, true, true, true, true, true, true, false, false, false, by kernel_rfl, g41, g45, by kernel_rfl, (below_next hb hq), (hS.below hq), (hT.below hq), (hD.below hq), (fun _ h => not_tf h), (fun _ h => not_tf h)⟩
          refine lin_cons [5, 6, 7, 8, 9, 10, 11, 12] [14, 15] rfl (by kernel_rfl) (by kernel_rfl) ?_ ?_
          · intro L ac Wn hI hi hds hus Kc hK
            obtain ⟨l5, l6, l7, l8, l9, l10, l11, l12, l13, l14, l15, rfl, hI⟩ := hI
            obtain rfl : l13 = false := hi
            obtain ⟨rfl, rfl, rfl, rfl, rfl, rfl, rfl, rfl, -⟩ : l5 = true ∧ l6 = true ∧ l7 = true ∧ l8 = true ∧ l9 = true ∧ l10 = true ∧ l11 = true ∧ l12 = true ∧ True := hds
            obtain ⟨rfl, rfl, -⟩ : l14 = false ∧ l15 = false ∧ True := hus
            simp only [sel_t, sel_f] at hI
            obtain ⟨g41, g45, rfl, hb, hS, hT, hD, hW7, hW11⟩ := hI
            go_simp
            go_fit (swithin_any _ y3 v3 i3 y4 v4 i4 y5 v5 i5 y6 v6 i6 HC.out.1 HC.out.2.1 HC.out.2.2.1 HC.out.2.2.2.1 true HG.out.2.1)
            rintro e V ⟨rfl, hq⟩
            exact hK.out _ _ ⟨true, true, true, true, true, true, true, true, true, false, false, by kernel_rfl, g41, g45, by kernel_rfl, (below_next hb hq), (hS.below hq), (hT.below hq), (hD.below hq), (fun _ h => not_tf h), (fun _ h => not_tf h)⟩
          refine lin_cons [5, 6, 7, 8, 9, 10, 11, 12, 13] [15] rfl (by kernel_rfl) (by kernel_rfl) ?_ ?_
          · intro L ac Wn hI hi hds hus Kc hK
            obtain ⟨l5, l6, l7, l8, l9, l10, l11, l12, l13, l14, l15, rfl, hI⟩ := hI
            obtain rfl : l14 = false := hi
            obtain ⟨rfl, rfl, rfl, rfl, rfl, rfl, rfl, rfl, rfl, -⟩ : l5 = true ∧ l6 = true ∧ l7 = true ∧ l8 = true ∧ l9 = true ∧ l10 = true ∧ l11 = true ∧ l12 = true ∧ l13 = true ∧ True := hds
            obtain ⟨rfl, -⟩ : l15 = false ∧ True := hus
            simp only [sel_t, sel_f] at hI
            obtain ⟨g41, g45, rfl, hb, hS, hT, hD, hW7, hW11⟩ := hI
            refine lin_yield (.bool false) rfl (by go_simp; first | done | with_reducible rfl | assumption) ?_
            exact hK.out _ _ ⟨true, true, true, true, true, true, true, true, true, true, false, by kernel_rfl, g41, g45, by kernel_rfl, hb, (hS), (hT), (hD), (fun _ h => not_tf h), (fun _ h => not_tf h)⟩
          refine lin_cons [5, 6, 7, 8, 9, 10, 11, 12, 13, 14] [] rfl (by kernel_rfl) (by kernel_rfl) ?_ lin_nil
          intro L ac Wn hI hi hds hus Kc hK
          obtain ⟨l5, l6, l7, l8, l9, l10, l11, l12, l13, l14, l15, rfl, hI⟩ := hI
          obtain rfl : l15 = false := hi
          obtain ⟨rfl, rfl, rfl, rfl, rfl, rfl, rfl, rfl, rfl, rfl, -⟩ : l5 = true ∧ l6 = true ∧ l7 = true ∧ l8 = true ∧ l9 = true ∧ l10 = true ∧ l11 = true ∧ l12 = true ∧ l13 = true ∧ l14 = true ∧ True := hds
          simp only [sel_t, sel_f] at hI
          obtain ⟨g41, g45, rfl, hb, hS, hT, hD, hW7, hW11⟩ := hI
          refine lin_yield (.bool false) rfl (by go_simp; first | done | with_reducible rfl | assumption) ?_
          exact hK.out _ _ ⟨true, true, true, true, true, true, true, true, true, true, true, by kernel_rfl, g41, g45, by kernel_rfl, hb, (hS), (hT), (hD), (fun _ h => not_tf h), (fun _ h => not_tf h)⟩
        refine bar_of [5, 6, 7, 8, 9, 10, 11, 12, 13, 14, 15] rfl (by kernel_rfl) ?_
        intro L ac Wn hI hds Kc hK
        obtain ⟨l5, l6, l7, l8, l9, l10, l11, l12, l13, l14, l15, rfl, hI⟩ := hI
        obtain ⟨rfl, rfl, rfl, rfl, rfl, rfl, rfl, rfl, rfl, rfl, rfl, -⟩ : l5 = true ∧ l6 = true ∧ l7 = true ∧ l8 = true ∧ l9 = true ∧ l10 = true ∧ l11 = true ∧ l12 = true ∧ l13 = true ∧ l14 = true ∧ l15 = true ∧ True := hds
        simp only [sel_t] at hI
        obtain ⟨g41, g45, rfl, hb, hS, hT, hD, hW7, hW11⟩ := hI
        clear hW7
        clear hW11
        refine lin_yield (.bool false) rfl (by go_simp; first | done | with_reducible rfl | assumption) ?_
        refine hK.out _ _ (fun fu hf => ?_)
        clear hK Kc
        refine lin_seg 42 [17, 18, 19, 20, 21, 22, 23, 24, 25, 26] 26 (fun L ac Wn => ∃ l17 l18 l19 l20 l21 l22 l23 l24 l25 : Bool, L = #[true, true, true, true, true, true, true, true, true, true, true, true, true, true, true, true, true, l17, l18, l19, l20, l21, l22, l23, l24, l25, false, false, false, false, false, false, false, false, false, false, false, false, false, false, false, false] ∧ ac = { tmps := #[.agg #[.bool m, .string s, .int .i64 d, .bool n, .string t, .int .i64 e], .agg #[.bool m2, .string s2, .int .i64 d2, .bool n2, .string t2, .int .i64 e2], .agg #[.bool m3, .string s3, .int .i64 d3, .bool n3, .string t3, .int .i64 e3], .int .i64 p, .pointer (some ⟨w.heap.size, 0, none⟩), .pointer (some ⟨w.heap.size + 1, 0, none⟩), .pointer (some ⟨w.heap.size + 1 + 1, 0, none⟩), undef, .bool false, .pointer (some ⟨PD, 0, none⟩), undef, undef, undef, undef, undef, undef, .agg #[.bool m, .string s, .int .i64 d, .bool n, .string t, .int .i64 e], .agg #[.bool m2, .string s2, .int .i64 d2, .bool n2, .string t2, .int .i64 e2], .agg #[.bool m3, .string s3, .int .i64 d3, .bool n3, .string t3, .int .i64 e3], .slice (some ⟨w.heap.size + 1 + 1 + 1, 0, none⟩) 3 3, .bool false, .bool false, .int .i64 p, .bool false, .bool false, .bool false, .int .i64 p, .bool false, .bool false, undef, .agg #[.bool m, .string s, .int .i64 d, .bool n, .string t, .int .i64 e], .agg #[.bool m3, .string s3, .int .i64 d3, .bool n3, .string t3, .int .i64 e3], .slice (some ⟨W.heap.size, 0, none⟩) 2 2, .agg #[.bool y1, .string v1, .int .i64 i1, .bool y2, .string v2, .int .i64 i2], .agg #[.bool m, .string s, .int .i64 d, .bool n, .string t, .int .i64 e], .agg #[.bool y1, .string v1, .int .i64 i1, .bool y2, .string v2, .int .i64 i2], .bool true, .bool false, .bool false, .agg #[.bool m, .string s, .int .i64 d, .bool n, .string t, .int .i64 e], .agg #[.bool m2, .string s2, .int .i64 d2, .bool n2, .string t2, .int .i64 e2], .slice (some ⟨g41, 0, none⟩) 2 2, .agg #[.bool y3, .string v3, .int .i64 i3, .bool y4, .string v4, .int .i64 i4], .agg #[.bool y1, .string v1, .int .i64 i1, .bool y2, .string v2, .int .i64 i2], .agg #[.bool m2, .string s2, .int .i64 d2, .bool n2, .string t2, .int .i64 e2], .slice (some ⟨g45, 0, none⟩) 2 2, .agg #[.bool y5, .string v5, .int .i64 i5, .bool y6, .string v6, .int .i64 i6], .bool true, .bool false, .bool false, .bool false, sel l17 (.agg #[.bool m, .string s, .int .i64 d, .bool n, .string t, .int .i64 e]) (undef), sel l18 (.agg #[.bool m2, .string s2, .int .i64 d2, .bool n2, .string t2, .int .i64 e2]) (undef), sel l19 (.agg #[.bool y7, .string v7, .int .i64 i7, .bool y8, .string v8, .int .i64 i8]) (undef), sel l20 (.agg #[.bool y1, .string v1, .int .i64 i1, .bool y2, .string v2, .int .i64 i2]) (undef), sel l21 (.agg #[.bool m2, .string s2, .int .i64 d2, .bool n2, .string t2, .int .i64 e2]) (undef), sel l22 (.agg #[.bool y9, .string v9, .int .i64 i9, .bool y10, .string v10, .int .i64 i10]) (undef), sel l23 (.bool true) (undef), sel l24 (.bool false) (undef), sel l25 (.bool false) (undef), undef, undef, undef, undef, undef, undef, undef, undef, undef, undef, undef, undef, undef, undef, undef, undef, undef, undef, undef, undef, undef, undef, undef, undef, undef, undef, undef, undef, undef, undef, undef, undef, undef, undef, undef, undef, undef, undef, undef, undef, undef, undef, undef, undef, undef, undef, undef, undef, undef, undef, undef, undef, undef, undef, undef, undef, undef, undef, undef, undef, undef, undef, undef, undef], defers := [] } ∧ Below (w.heap.size) w Wn ∧ (Sk Wn (w.heap.size) 27 m s d n t e) ∧ (Sk Wn (w.heap.size + 1) 27 m2 s2 d2 n2 t2 e2) ∧ (Sk Wn PD 27 y1 v1 i1 y2 v2 i2)) (by kernel_rfl) (by kernel_rfl) (by kernel_rfl) (by kernel_rfl) hf ?_ ?_ ?_ (by kernel_rfl) ?_ (by decide)
        · exact ⟨false, false, false, false, false, false, false, false, false, by kernel_rfl, by kernel_rfl, hb, hS, hT, hD⟩
        · rintro L ac Wn ⟨l17, l18, l19, l20, l21, l22, l23, l24, l25, rfl, _⟩
          kernel_rfl
        · refine (seg_all (b := 26) [17, 18, 19, 20, 21, 22, 23, 24, 25] ?_ : ∀ j ∈ [17, 18, 19, 20, 21, 22, 23, 24, 25, 26], j ≠ 26 → _)
          refine lin_cons [] [19, 22, 23, 24, 25] rfl (by kernel_rfl) (by kernel_rfl) ?_ ?_
          · intro L ac Wn hI hi hds hus Kc hK
            obtain ⟨l17, l18, l19, l20, l21, l22, l23, l24, l25, rfl, hI⟩ := hI
            obtain rfl : l17 = false := hi
            obtain ⟨rfl, rfl, rfl, rfl, rfl, -⟩ : l19 = false ∧ l22 = false ∧ l23 = false ∧ l24 = false ∧ l25 = false ∧ True := hus
            simp only [sel_f] at hI
            obtain ⟨rfl, hb, hS, hT, hD⟩ := hI
            obtain ⟨q0, q1, q2, q3, q4, q5, q6, q7, q8, q9, q10, q11⟩ := (hS).facts
            refine lin_yield (.agg #[.bool m, .string s, .int .i64 d, .bool n, .string t, .int .i64 e]) rfl (by go_simp; first | done | with_reducible rfl | assumption) ?_
            exact hK.out _ _ ⟨true, l18, false, l20, l21, false, false, false, false, by kernel_rfl, by kernel_rfl, hb, (hS), (hT), (hD)⟩
          refine lin_cons [] [19, 22, 23, 24, 25] rfl (by kernel_rfl) (by kernel_rfl) ?_ ?_
          · intro L ac Wn hI hi hds hus Kc hK
            obtain ⟨l17, l18, l19, l20, l21, l22, l23, l24, l25, rfl, hI⟩ := hI
            obtain rfl : l18 = false := hi
            obtain ⟨rfl, rfl, rfl, rfl, rfl, -⟩ : l19 = false ∧ l22 = false ∧ l23 = false ∧ l24 = false ∧ l25 = false ∧ True := hus
            simp only [sel_f] at hI
            obtain ⟨rfl, hb, hS, hT, hD⟩ := hI
            obtain ⟨q0, q1, q2, q3, q4, q5, q6, q7, q8, q9, q10, q11⟩ := (hT).facts
            refine lin_yield (.agg #[.bool m2, .string s2, .int .i64 d2, .bool n2, .string t2, .int .i64 e2]) rfl (by go_simp; first | done | with_reducible rfl | assumption) ?_
            exact hK.out _ _ ⟨l17, true, false, l20, l21, false, false, false, false, by kernel_rfl, by kernel_rfl, hb, (hS), (hT), (hD)⟩
          refine lin_cons [17, 18] [22, 23, 24, 25] rfl (by kernel_rfl) (by kernel_rfl) ?_ ?_
          · intro L ac Wn hI hi hds hus Kc hK
            obtain ⟨l17, l18, l19, l20, l21, l22, l23, l24, l25, rfl, hI⟩ := hI
            obtain rfl : l19 = false := hi
            obtain ⟨rfl, rfl, -⟩ : l17 = true ∧ l18 = true ∧ True := hds
            obtain ⟨rfl, rfl, rfl, rfl, -⟩ : l22 = false ∧ l23 = false ∧ l24 = false ∧ l25 = false ∧ True := hus
            simp only [sel_t, sel_f] at hI
            obtain ⟨rfl, hb, hS, hT, hD⟩ := hI
            go_simp
            go_fit (smul_any _ m s d n t e m2 s2 d2 n2 t2 e2 HO.out.1.ok3 HO.out.2.1.ok3 HO.out.2.2.1.ok3 HO.out.2.2.2.1.ok3 u1 w1 x1 u2 w2 x2 u3 w3 x3 u4 w4 x4 HQ.out.1 HQ.out.2.1 HQ.out.2.2.1 HQ.out.2.2.2.1 y7 v7 i7 HK.out.2.2.2.2.2.2.1 y8 v8 i8 HK.out.2.2.2.2.2.2.2.1)
            rintro e V ⟨rfl, hq⟩
            exact hK.out _ _ ⟨true, true, true, l20, l21, false, false, false, false, by kernel_rfl, by kernel_rfl, (below_next hb hq), (hS.below hq), (hT.below hq), (hD.below hq)⟩
          refine lin_cons [] [22, 23, 24, 25] rfl (by kernel_rfl) (by kernel_rfl) ?_ ?_
          · intro L ac Wn hI hi hds hus Kc hK
            obtain ⟨l17, l18, l19, l20, l21, l22, l23, l24, l25, rfl, hI⟩ := hI
            obtain rfl : l20 = false := hi
            obtain ⟨rfl, rfl, rfl, rfl, -⟩ : l22 = false ∧ l23 = false ∧ l24 = false ∧ l25 = false ∧ True := hus
            simp only [sel_f] at hI
            obtain ⟨rfl, hb, hS, hT, hD⟩ := hI
            obtain ⟨q0, q1, q2, q3, q4, q5, q6, q7, q8, q9, q10, q11⟩ := (hD).facts
            refine lin_yield (.agg #[.bool y1, .string v1, .int .i64 i1, .bool y2, .string v2, .int .i64 i2]) rfl (by go_simp; first | done | with_reducible rfl | assumption) ?_
            exact hK.out _ _ ⟨l17, l18, l19, true, l21, false, false, false, false, by kernel_rfl, by kernel_rfl, hb, (hS), (hT), (hD)⟩
          refine lin_cons [] [22, 23, 24, 25] rfl (by kernel_rfl) (by kernel_rfl) ?_ ?_
          · intro L ac Wn hI hi hds hus Kc hK
            obtain ⟨l17, l18, l19, l20, l21, l22, l23, l24, l25, rfl, hI⟩ := hI
            obtain rfl : l21 = false := hi
            obtain ⟨rfl, rfl, rfl, rfl, -⟩ : l22 = false ∧ l23 = false ∧ l24 = false ∧ l25 = false ∧ True := hus
            simp only [sel_f] at hI
            obtain ⟨rfl, hb, hS, hT, hD⟩ := hI
            obtain ⟨q0, q1, q2, q3, q4, q5, q6, q7, q8, q9, q10, q11⟩ := (hT).facts
            refine lin_yield (.agg #[.bool m2, .string s2, .int .i64 d2, .bool n2, .string t2, .int .i64 e2]) rfl (by go_simp; first | done | with_reducible rfl | assumption) ?_
            exact hK.out _ _ ⟨l17, l18, l19, l20, true, false, false, false, false, by kernel_rfl, by kernel_rfl, hb, (hS), (hT), (hD)⟩
          refine lin_cons [17, 18, 19, 20, 21] [23, 24, 25] rfl (by kernel_rfl) (by kernel_rfl) ?_ ?_
          · intro L ac Wn hI hi hds hus Kc hK
            obtain ⟨l17, l18, l19, l20, l21, l22, l23, l24, l25, rfl, hI⟩ := hI
            obtain rfl : l22 = false := hi
            obtain ⟨rfl, rfl, rfl, rfl, rfl, -⟩ : l17 = true ∧ l18 = true ∧ l19 = true ∧ l20 = true ∧ l21 = true ∧ True := hds
            obtain ⟨rfl, rfl, rfl, -⟩ : l23 = false ∧ l24 = false ∧ l25 = false ∧ True := hus
            simp only [sel_t, sel_f] at hI
            obtain ⟨rfl, hb, hS, hT, hD⟩ := hI
            go_simp
            go_fit (smul_any _ y1 v1 i1 y2 v2 i2 m2 s2 d2 n2 t2 e2 HO.out.2.2.2.2.2.2.1.ok3 HO.out.2.2.2.2.2.2.2.ok3 HO.out.2.2.1.ok3 HO.out.2.2.2.1.ok3 u5 w5 x5 u6 w6 x6 u7 w7 x7 u8 w8 x8 HQ.out.2.2.2.2.1 HQ.out.2.2.2.2.2.1 HQ.out.2.2.2.2.2.2.1 HQ.out.2.2.2.2.2.2.2 y9 v9 i9 HK.out.2.2.2.2.2.2.2.2.1 y10 v10 i10 HK.out.2.2.2.2.2.2.2.2.2.1)
            rintro e V ⟨rfl, hq⟩
            exact hK.out _ _ ⟨true, true, true, true, true, true, false, false, false, by kernel_rfl, by kernel_rfl, (below_next hb hq), (hS.below hq), (hT.below hq), (hD.below hq)⟩
          refine lin_cons [17, 18, 19, 20, 21, 22] [24, 25] rfl (by kernel_rfl) (by kernel_rfl) ?_ ?_
          · intro L ac Wn hI hi hds hus Kc hK
            obtain ⟨l17, l18, l19, l20, l21, l22, l23, l24, l25, rfl, hI⟩ := hI
            obtain rfl : l23 = false := hi
            obtain ⟨rfl, rfl, rfl, rfl, rfl, rfl, -⟩ : l17 = true ∧ l18 = true ∧ l19 = true ∧ l20 = true ∧ l21 = true ∧ l22 = true ∧ True := hds
            obtain ⟨rfl, rfl, -⟩ : l24 = false ∧ l25 = false ∧ True := hus
            simp only [sel_t, sel_f] at hI
            obtain ⟨rfl, hb, hS, hT, hD⟩ := hI
            go_simp
            go_fit (swithin_any _ y7 v7 i7 y8 v8 i8 y9 v9 i9 y10 v10 i10 HC.out.2.2.2.2.1 HC.out.2.2.2.2.2.1 HC.out.2.2.2.2.2.2.1 HC.out.2.2.2.2.2.2.2.1 true HG.out.2.2.1)
            rintro e V ⟨rfl, hq⟩
            exact hK.out _ _ ⟨true, true, true, true, true, true, true, false, false, by kernel_rfl, by kernel_rfl, (below_next hb hq), (hS.below hq), (hT.below hq), (hD.below hq)⟩
          refine lin_cons [17, 18, 19, 20, 21, 22, 23] [25] rfl (by kernel_rfl) (by kernel_rfl) ?_ ?_
          · intro L ac Wn hI hi hds hus Kc hK
            obtain ⟨l17, l18, l19, l20, l21, l22, l23, l24, l25, rfl, hI⟩ := hI
            obtain rfl : l24 = false := hi
            obtain ⟨rfl, rfl, rfl, rfl, rfl, rfl, rfl, -⟩ : l17 = true ∧ l18 = true ∧ l19 = true ∧ l20 = true ∧ l21 = true ∧ l22 = true ∧ l23 = true ∧ True := hds
            obtain ⟨rfl, -⟩ : l25 = false ∧ True := hus
            simp only [sel_t, sel_f] at hI
            obtain ⟨rfl, hb, hS, hT, hD⟩ := hI
            refine lin_yield (.bool false) rfl (by go_simp; first | done | with_reducible rfl | assumption) ?_
            exact hK.out _ _ ⟨true, true, true, true, true, true, true, true, false, by kernel_rfl, by kernel_rfl, hb, (hS), (hT), (hD)⟩
          refine lin_cons [17, 18, 19, 20, 21, 22, 23, 24] [] rfl (by kernel_rfl) (by kernel_rfl) ?_ lin_nil
          intro L ac Wn hI hi hds hus Kc hK
          obtain ⟨l17, l18, l19, l20, l21, l22, l23, l24, l25, rfl, hI⟩ := hI
          obtain rfl : l25 = false := hi
          obtain ⟨rfl, rfl, rfl, rfl, rfl, rfl, rfl, rfl, -⟩ : l17 = true ∧ l18 = true ∧ l19 = true ∧ l20 = true ∧ l21 = true ∧ l22 = true ∧ l23 = true ∧ l24 = true ∧ True := hds
          simp only [sel_t, sel_f] at hI
          obtain ⟨rfl, hb, hS, hT, hD⟩ := hI
          refine lin_yield (.bool false) rfl (by go_simp; first | done | with_reducible rfl | assumption) ?_
          exact hK.out _ _ ⟨true, true, true, true, true, true, true, true, true, by kernel_rfl, by kernel_rfl, hb, (hS), (hT), (hD)⟩
        refine bar_of [17, 18, 19, 20, 21, 22, 23, 24, 25] rfl (by kernel_rfl) ?_
        intro L ac Wn hI hds Kc hK
        obtain ⟨l17, l18, l19, l20, l21, l22, l23, l24, l25, rfl, hI⟩ := hI
        obtain ⟨rfl, rfl, rfl, rfl, rfl, rfl, rfl, rfl, rfl, -⟩ : l17 = true ∧ l18 = true ∧ l19 = true ∧ l20 = true ∧ l21 = true ∧ l22 = true ∧ l23 = true ∧ l24 = true ∧ l25 = true ∧ True := hds
        simp only [sel_t] at hI
        obtain ⟨rfl, hb, hS, hT, hD⟩ := hI
        refine lin_yield (.bool false) rfl (by go_simp; first | done | with_reducible rfl | assumption) ?_
        refine hK.out _ _ (fun fu hf => ?_)
        clear hK Kc
        refine lin_seg 42 [27, 28, 29, 30, 31, 32, 33, 34] 34 (fun L ac Wn => ∃ l27 l28 l29 l30 l31 l32 l33 : Bool, L = #[true, true, true, true, true, true, true, true, true, true, true, true, true, true, true, true, true, true, true, true, true, true, true, true, true, true, true, l27, l28, l29, l30, l31, l32, l33, false, false, false, false, false, false, false, false] ∧ ac = { tmps := #[.agg #[.bool m, .string s, .int .i64 d, .bool n, .string t, .int .i64 e], .agg #[.bool m2, .string s2, .int .i64 d2, .bool n2, .string t2, .int .i64 e2], .agg #[.bool m3, .string s3, .int .i64 d3, .bool n3, .string t3, .int .i64 e3], .int .i64 p, .pointer (some ⟨w.heap.size, 0, none⟩), .pointer (some ⟨w.heap.size + 1, 0, none⟩), .pointer (some ⟨w.heap.size + 1 + 1, 0, none⟩), undef, .bool false, .pointer (some ⟨PD, 0, none⟩), undef, undef, undef, undef, undef, undef, .agg #[.bool m, .string s, .int .i64 d, .bool n, .string t, .int .i64 e], .agg #[.bool m2, .string s2, .int .i64 d2, .bool n2, .string t2, .int .i64 e2], .agg #[.bool m3, .string s3, .int .i64 d3, .bool n3, .string t3, .int .i64 e3], .slice (some ⟨w.heap.size + 1 + 1 + 1, 0, none⟩) 3 3, .bool false, .bool false, .int .i64 p, .bool false, .bool false, .bool false, .int .i64 p, .bool false, .bool false, undef, .agg #[.bool m, .string s, .int .i64 d, .bool n, .string t, .int .i64 e], .agg #[.bool m3, .string s3, .int .i64 d3, .bool n3, .string t3, .int .i64 e3], .slice (some ⟨W.heap.size, 0, none⟩) 2 2, .agg #[.bool y1, .string v1, .int .i64 i1, .bool y2, .string v2, .int .i64 i2], .agg #[.bool m, .string s, .int .i64 d, .bool n, .string t, .int .i64 e], .agg #[.bool y1, .string v1, .int .i64 i1, .bool y2, .string v2, .int .i64 i2], .bool true, .bool false, .bool false, .agg #[.bool m, .string s, .int .i64 d, .bool n, .string t, .int .i64 e], .agg #[.bool m2, .string s2, .int .i64 d2, .bool n2, .string t2, .int .i64 e2], .slice (some ⟨g41, 0, none⟩) 2 2, .agg #[.bool y3, .string v3, .int .i64 i3, .bool y4, .string v4, .int .i64 i4], .agg #[.bool y1, .string v1, .int .i64 i1, .bool y2, .string v2, .int .i64 i2], .agg #[.bool m2, .string s2, .int .i64 d2, .bool n2, .string t2, .int .i64 e2], .slice (some ⟨g45, 0, none⟩) 2 2, .agg #[.bool y5, .string v5, .int .i64 i5, .bool y6, .string v6, .int .i64 i6], .bool true, .bool false, .bool false, .bool false, .agg #[.bool m, .string s, .int .i64 d, .bool n, .string t, .int .i64 e], .agg #[.bool m2, .string s2, .int .i64 d2, .bool n2, .string t2, .int .i64 e2], .agg #[.bool y7, .string v7, .int .i64 i7, .bool y8, .string v8, .int .i64 i8], .agg #[.bool y1, .string v1, .int .i64 i1, .bool y2, .string v2, .int .i64 i2], .agg #[.bool m2, .string s2, .int .i64 d2, .bool n2, .string t2, .int .i64 e2], .agg #[.bool y9, .string v9, .int .i64 i9, .bool y10, .string v10, .int .i64 i10], .bool true, .bool false, .bool false, .bool false, sel l27 (.agg #[.bool m, .string s, .int .i64 d, .bool n, .string t, .int .i64 e]) (undef), sel l28 (.agg #[.bool y11, .string v11, .int .i64 i11, .bool y12, .string v12, .int .i64 i12]) (undef), sel l29 (.agg #[.bool y1, .string v1, .int .i64 i1, .bool y2, .string v2, .int .i64 i2]) (undef), sel l30 (.agg #[.bool y13, .string v13, .int .i64 i13, .bool y14, .string v14, .int .i64 i14]) (undef), sel l31 (.bool true) (undef), sel l32 (.bool false) (undef), sel l33 (.bool false) (undef), undef, undef, undef, undef, undef, undef, undef, undef, undef, undef, undef, undef, undef, undef, undef, undef, undef, undef, undef, undef, undef, undef, undef, undef, undef, undef, undef, undef, undef, undef, undef, undef, undef, undef, undef, undef, undef, undef, undef, undef, undef, undef, undef, undef, undef, undef, undef, undef, undef, undef, undef, undef, undef, undef, undef, undef], defers := [] } ∧ Below (w.heap.size) w Wn ∧ (Sk Wn (w.heap.size) 27 m s d n t e) ∧ (Sk Wn (w.heap.size + 1) 27 m2 s2 d2 n2 t2 e2) ∧ (Sk Wn PD 27 y1 v1 i1 y2 v2 i2)) (by kernel_rfl) (by kernel_rfl) (by kernel_rfl) (by kernel_rfl) hf ?_ ?_ ?_ (by kernel_rfl) ?_ (by decide)
        · exact ⟨false, false, false, false, false, false, false, by kernel_rfl, by kernel_rfl, hb, hS, hT, hD⟩
        · rintro L ac Wn ⟨l27, l28, l29, l30, l31, l32, l33, rfl, _⟩
          kernel_rfl
        · refine (seg_all (b := 34) [27, 28, 29, 30, 31, 32, 33] ?_ : ∀ j ∈ [27, 28, 29, 30, 31, 32, 33, 34], j ≠ 34 → _)
          refine lin_cons [] [28, 30, 31, 32, 33] rfl (by kernel_rfl) (by kernel_rfl) ?_ ?_
          · intro L ac Wn hI hi hds hus Kc hK
            obtain ⟨l27, l28, l29, l30, l31, l32, l33, rfl, hI⟩ := hI
            obtain rfl : l27 = false := hi
            obtain ⟨rfl, rfl, rfl, rfl, rfl, -⟩ : l28 = false ∧ l30 = false ∧ l31 = false ∧ l32 = false ∧ l33 = false ∧ True := hus
            simp only [sel_f] at hI
            obtain ⟨rfl, hb, hS, hT, hD⟩ := hI
            obtain ⟨q0, q1, q2, q3, q4, q5, q6, q7, q8, q9, q10, q11⟩ := (hS).facts
            refine lin_yield (.agg #[.bool m, .string s, .int .i64 d, .bool n, .string t, .int .i64 e]) rfl (by go_simp; first | done | with_reducible rfl | assumption) ?_
            exact hK.out _ _ ⟨true, false, l29, false, false, false, false, by kernel_rfl, by kernel_rfl, hb, (hS), (hT), (hD)⟩
          refine lin_cons [27] [30, 31, 32, 33] rfl (by kernel_rfl) (by kernel_rfl) ?_ ?_
          · intro L ac Wn hI hi hds hus Kc hK
            obtain ⟨l27, l28, l29, l30, l31, l32, l33, rfl, hI⟩ := hI
            obtain rfl : l28 = false := hi
            obtain ⟨rfl, -⟩ : l27 = true ∧ True := hds
            obtain ⟨rfl, rfl, rfl, rfl, -⟩ : l30 = false ∧ l31 = false ∧ l32 = false ∧ l33 = false ∧ True := hus
            simp only [sel_t, sel_f] at hI
            obtain ⟨rfl, hb, hS, hT, hD⟩ := hI
            go_simp
            go_fit (sneg_any _ m s d n t e HJ.out.1 HJ.out.2.1 y11 v11 i11 y12 v12 i12 HK.out.2.2.2.2.2.2.2.2.2.2.1 HK.out.2.2.2.2.2.2.2.2.2.2.2.1)
            rintro e V ⟨rfl, hq⟩
            exact hK.out _ _ ⟨true, true, l29, false, false, false, false, by kernel_rfl, by kernel_rfl, (below_next hb hq), (hS.below hq), (hT.below hq), (hD.below hq)⟩
          refine lin_cons [] [30, 31, 32, 33] rfl (by kernel_rfl) (by kernel_rfl) ?_ ?_
          · intro L ac Wn hI hi hds hus Kc hK
            obtain ⟨l27, l28, l29, l30, l31, l32, l33, rfl, hI⟩ := hI
            obtain rfl : l29 = false := hi
            obtain ⟨rfl, rfl, rfl, rfl, -⟩ : l30 = false ∧ l31 = false ∧ l32 = false ∧ l33 = false ∧ True := hus
            simp only [sel_f] at hI
            obtain ⟨rfl, hb, hS, hT, hD⟩ := hI
            obtain ⟨q0, q1, q2, q3, q4, q5, q6, q7, q8, q9, q10, q11⟩ := (hD).facts
            refine lin_yield (.agg #[.bool y1, .string v1, .int .i64 i1, .bool y2, .string v2, .int .i64 i2]) rfl (by go_simp; first | done | with_reducible rfl | assumption) ?_
            exact hK.out _ _ ⟨l27, l28, true, false, false, false, false, by kernel_rfl, by kernel_rfl, hb, (hS), (hT), (hD)⟩
          refine lin_cons [27, 28, 29] [31, 32, 33] rfl (by kernel_rfl) (by kernel_rfl) ?_ ?_
          · intro L ac Wn hI hi hds hus Kc hK
            obtain ⟨l27, l28, l29, l30, l31, l32, l33, rfl, hI⟩ := hI
            obtain rfl : l30 = false := hi
            obtain ⟨rfl, rfl, rfl, -⟩ : l27 = true ∧ l28 = true ∧ l29 = true ∧ True := hds
            obtain ⟨rfl, rfl, rfl, -⟩ : l31 = false ∧ l32 = false ∧ l33 = false ∧ True := hus
            simp only [sel_t, sel_f] at hI
            obtain ⟨rfl, hb, hS, hT, hD⟩ := hI
            go_simp
            go_fit (sneg_any _ y1 v1 i1 y2 v2 i2 HJ.out.2.2.2.2.1 HJ.out.2.2.2.2.2 y13 v13 i13 y14 v14 i14 HK.out.2.2.2.2.2.2.2.2.2.2.2.2.1 HK.out.2.2.2.2.2.2.2.2.2.2.2.2.2.1)
            rintro e V ⟨rfl, hq⟩
            exact hK.out _ _ ⟨true, true, true, true, false, false, false, by kernel_rfl, by kernel_rfl, (below_next hb hq), (hS.below hq), (hT.below hq), (hD.below hq)⟩
          refine lin_cons [27, 28, 29, 30] [32, 33] rfl (by kernel_rfl) (by kernel_rfl) ?_ ?_
          · intro L ac Wn hI hi hds hus Kc hK
            obtain ⟨l27, l28, l29, l30, l31, l32, l33, rfl, hI⟩ := hI
            obtain rfl : l31 = false := hi
            obtain ⟨rfl, rfl, rfl, rfl, -⟩ : l27 = true ∧ l28 = true ∧ l29 = true ∧ l30 = true ∧ True := hds
            obtain ⟨rfl, rfl, -⟩ : l32 = false ∧ l33 = false ∧ True := hus
            simp only [sel_t, sel_f] at hI
            obtain ⟨rfl, hb, hS, hT, hD⟩ := hI
            go_simp
            go_fit (swithin_any _ y11 v11 i11 y12 v12 i12 y13 v13 i13 y14 v14 i14 HC.out.2.2.2.2.2.2.2.2.1 HC.out.2.2.2.2.2.2.2.2.2.1 HC.out.2.2.2.2.2.2.2.2.2.2.1 HC.out.2.2.2.2.2.2.2.2.2.2.2.1 true HG.out.2.2.2.1)
            rintro e V ⟨rfl, hq⟩
            exact hK.out _ _ ⟨true, true, true, true, true, false, false, by kernel_rfl, by kernel_rfl, (below_next hb hq), (hS.below hq), (hT.below hq), (hD.below hq)⟩
          refine lin_cons [27, 28, 29, 30, 31] [33] rfl (by kernel_rfl) (by kernel_rfl) ?_ ?_
          · intro L ac Wn hI hi hds hus Kc hK
            obtain ⟨l27, l28, l29, l30, l31, l32, l33, rfl, hI⟩ := hI
            obtain rfl : l32 = false := hi
            obtain ⟨rfl, rfl, rfl, rfl, rfl, -⟩ : l27 = true ∧ l28 = true ∧ l29 = true ∧ l30 = true ∧ l31 = true ∧ True := hds
            obtain ⟨rfl, -⟩ : l33 = false ∧ True := hus
            simp only [sel_t, sel_f] at hI
            obtain ⟨rfl, hb, hS, hT, hD⟩ := hI
            refine lin_yield (.bool false) rfl (by go_simp; first | done | with_reducible rfl | assumption) ?_
            exact hK.out _ _ ⟨true, true, true, true, true, true, false, by kernel_rfl, by kernel_rfl, hb, (hS), (hT), (hD)⟩
          refine lin_cons [27, 28, 29, 30, 31, 32] [] rfl (by kernel_rfl) (by kernel_rfl) ?_ lin_nil
          intro L ac Wn hI hi hds hus Kc hK
          obtain ⟨l27, l28, l29, l30, l31, l32, l33, rfl, hI⟩ := hI
          obtain rfl : l33 = false := hi
          obtain ⟨rfl, rfl, rfl, rfl, rfl, rfl, -⟩ : l27 = true ∧ l28 = true ∧ l29 = true ∧ l30 = true ∧ l31 = true ∧ l32 = true ∧ True := hds
          simp only [sel_t, sel_f] at hI
          obtain ⟨rfl, hb, hS, hT, hD⟩ := hI
          refine lin_yield (.bool false) rfl (by go_simp; first | done | with_reducible rfl | assumption) ?_
          exact hK.out _ _ ⟨true, true, true, true, true, true, true, by kernel_rfl, by kernel_rfl, hb, (hS), (hT), (hD)⟩
        refine bar_of [27, 28, 29, 30, 31, 32, 33] rfl (by kernel_rfl) ?_
        intro L ac Wn hI hds Kc hK
        obtain ⟨l27, l28, l29, l30, l31, l32, l33, rfl, hI⟩ := hI
        obtain ⟨rfl, rfl, rfl, rfl, rfl, rfl, rfl, -⟩ : l27 = true ∧ l28 = true ∧ l29 = true ∧ l30 = true ∧ l31 = true ∧ l32 = true ∧ l33 = true ∧ True := hds
        simp only [sel_t] at hI
        obtain ⟨rfl, hb, hS, hT, hD⟩ := hI
        refine lin_yield (.bool false) rfl (by go_simp; first | done | with_reducible rfl | assumption) ?_
        refine hK.out _ _ (fun fu hf => ?_)
        clear hK Kc
        refine lin_seg 42 [35, 36, 37, 38, 39, 40, 41] 41 (fun L ac Wn => ∃ l35 l36 l37 l38 l39 l40 : Bool, L = #[true, true, true, true, true, true, true, true, true, true, true, true, true, true, true, true, true, true, true, true, true, true, true, true, true, true, true, true, true, true, true, true, true, true, true, l35, l36, l37, l38, l39, l40, false] ∧ ac = { tmps := #[.agg #[.bool m, .string s, .int .i64 d, .bool n, .string t, .int .i64 e], .agg #[.bool m2, .string s2, .int .i64 d2, .bool n2, .string t2, .int .i64 e2], .agg #[.bool m3, .string s3, .int .i64 d3, .bool n3, .string t3, .int .i64 e3], .int .i64 p, .pointer (some ⟨w.heap.size, 0, none⟩), .pointer (some ⟨w.heap.size + 1, 0, none⟩), .pointer (some ⟨w.heap.size + 1 + 1, 0, none⟩), undef, .bool false, .pointer (some ⟨PD, 0, none⟩), undef, undef, undef, undef, undef, undef, .agg #[.bool m, .string s, .int .i64 d, .bool n, .string t, .int .i64 e], .agg #[.bool m2, .string s2, .int .i64 d2, .bool n2, .string t2, .int .i64 e2], .agg #[.bool m3, .string s3, .int .i64 d3, .bool n3, .string t3, .int .i64 e3], .slice (some ⟨w.heap.size + 1 + 1 + 1, 0, none⟩) 3 3, .bool false, .bool false, .int .i64 p, .bool false, .bool false, .bool false, .int .i64 p, .bool false, .bool false, undef, .agg #[.bool m, .string s, .int .i64 d, .bool n, .string t, .int .i64 e], .agg #[.bool m3, .string s3, .int .i64 d3, .bool n3, .string t3, .int .i64 e3], .slice (some ⟨W.heap.size, 0, none⟩) 2 2, .agg #[.bool y1, .string v1, .int .i64 i1, .bool y2, .string v2, .int .i64 i2], .agg #[.bool m, .string s, .int .i64 d, .bool n, .string t, .int .i64 e], .agg #[.bool y1, .string v1, .int .i64 i1, .bool y2, .string v2, .int .i64 i2], .bool true, .bool false, .bool false, .agg #[.bool m, .string s, .int .i64 d, .bool n, .string t, .int .i64 e], .agg #[.bool m2, .string s2, .int .i64 d2, .bool n2, .string t2, .int .i64 e2], .slice (some ⟨g41, 0, none⟩) 2 2, .agg #[.bool y3, .string v3, .int .i64 i3, .bool y4, .string v4, .int .i64 i4], .agg #[.bool y1, .string v1, .int .i64 i1, .bool y2, .string v2, .int .i64 i2], .agg #[.bool m2, .string s2, .int .i64 d2, .bool n2, .string t2, .int .i64 e2], .slice (some ⟨g45, 0, none⟩) 2 2, .agg #[.bool y5, .string v5, .int .i64 i5, .bool y6, .string v6, .int .i64 i6], .bool true, .bool false, .bool false, .bool false, .agg #[.bool m, .string s, .int .i64 d, .bool n, .string t, .int .i64 e], .agg #[.bool m2, .string s2, .int .i64 d2, .bool n2, .string t2, .int .i64 e2], .agg #[.bool y7, .string v7, .int .i64 i7, .bool y8, .string v8, .int .i64 i8], .agg #[.bool y1, .string v1, .int .i64 i1, .bool y2, .string v2, .int .i64 i2], .agg #[.bool m2, .string s2, .int .i64 d2, .bool n2, .string t2, .int .i64 e2], .agg #[.bool y9, .string v9, .int .i64 i9, .bool y10, .string v10, .int .i64 i10], .bool true, .bool false, .bool false, .bool false, .agg #[.bool m, .string s, .int .i64 d, .bool n, .string t, .int .i64 e], .agg #[.bool y11, .string v11, .int .i64 i11, .bool y12, .string v12, .int .i64 i12], .agg #[.bool y1, .string v1, .int .i64 i1, .bool y2, .string v2, .int .i64 i2], .agg #[.bool y13, .string v13, .int .i64 i13, .bool y14, .string v14, .int .i64 i14], .bool true, .bool false, .bool false, .bool false, sel l35 (.agg #[.bool m, .string s, .int .i64 d, .bool n, .string t, .int .i64 e]) (undef), sel l36 (.agg #[.bool m, .string s, .int .i64 d, .bool n, .string t, .int .i64 e]) (undef), sel l37 (.int .i64 p) (undef), sel l38 (.agg #[.bool y15, .string v15, .int .i64 i15, .bool y16, .string v16, .int .i64 i16]) (undef), sel l39 (.bool true) (undef), sel l40 (.bool false) (undef), undef, undef, undef, undef, undef, undef, undef, undef, undef, undef, undef, undef, undef, undef, undef, undef, undef, undef, undef, undef, undef, undef, undef, undef, undef, undef, undef, undef, undef, undef, undef, undef, undef, undef, undef, undef, undef, undef, undef, undef, undef, undef, undef, undef, undef, undef, undef, undef, undef], defers := [] } ∧ Below (w.heap.size) w Wn ∧ (Sk Wn (w.heap.size) 27 m s d n t e) ∧ (Sk Wn (w.heap.size + 1) 27 m2 s2 d2 n2 t2 e2) ∧ (Sk Wn PD 27 y1 v1 i1 y2 v2 i2)) (by kernel_rfl) (by kernel_rfl) (by kernel_rfl) (by kernel_rfl) hf ?_ ?_ ?_ (by kernel_rfl) ?_ (by decide)
        · exact ⟨false, false, false, false, false, false, by kernel_rfl, by kernel_rfl, hb, hS, hT, hD⟩
        · rintro L ac Wn ⟨l35, l36, l37, l38, l39, l40, rfl, _⟩
          kernel_rfl
        · refine (seg_all (b := 41) [35, 36, 37, 38, 39, 40] ?_ : ∀ j ∈ [35, 36, 37, 38, 39, 40, 41], j ≠ 41 → _)
          refine lin_cons [] [39, 40] rfl (by kernel_rfl) (by kernel_rfl) ?_ ?_
          · intro L ac Wn hI hi hds hus Kc hK
            obtain ⟨l35, l36, l37, l38, l39, l40, rfl, hI⟩ := hI
            obtain rfl : l35 = false := hi
            obtain ⟨rfl, rfl, -⟩ : l39 = false ∧ l40 = false ∧ True := hus
            simp only [sel_f] at hI
            obtain ⟨rfl, hb, hS, hT, hD⟩ := hI
            obtain ⟨q0, q1, q2, q3, q4, q5, q6, q7, q8, q9, q10, q11⟩ := (hS).facts
            refine lin_yield (.agg #[.bool m, .string s, .int .i64 d, .bool n, .string t, .int .i64 e]) rfl (by go_simp; first | done | with_reducible rfl | assumption) ?_
            exact hK.out _ _ ⟨true, l36, l37, l38, false, false, by kernel_rfl, by kernel_rfl, hb, (hS), (hT), (hD)⟩
          refine lin_cons [] [38, 39, 40] rfl (by kernel_rfl) (by kernel_rfl) ?_ ?_
          · intro L ac Wn hI hi hds hus Kc hK
            obtain ⟨l35, l36, l37, l38, l39, l40, rfl, hI⟩ := hI
            obtain rfl : l36 = false := hi
            obtain ⟨rfl, rfl, rfl, -⟩ : l38 = false ∧ l39 = false ∧ l40 = false ∧ True := hus
            simp only [sel_f] at hI
            obtain ⟨rfl, hb, hS, hT, hD⟩ := hI
            obtain ⟨q0, q1, q2, q3, q4, q5, q6, q7, q8, q9, q10, q11⟩ := (hS).facts
            refine lin_yield (.agg #[.bool m, .string s, .int .i64 d, .bool n, .string t, .int .i64 e]) rfl (by go_simp; first | done | with_reducible rfl | assumption) ?_
            exact hK.out _ _ ⟨l35, true, l37, false, false, false, by kernel_rfl, by kernel_rfl, hb, (hS), (hT), (hD)⟩
          refine lin_cons [] [38, 39, 40] rfl (by kernel_rfl) (by kernel_rfl) ?_ ?_
          · intro L ac Wn hI hi hds hus Kc hK
            obtain ⟨l35, l36, l37, l38, l39, l40, rfl, hI⟩ := hI
            obtain rfl : l37 = false := hi
            obtain ⟨rfl, rfl, rfl, -⟩ : l38 = false ∧ l39 = false ∧ l40 = false ∧ True := hus
            simp only [sel_f] at hI
            obtain ⟨rfl, hb, hS, hT, hD⟩ := hI
            refine lin_yield (.int .i64 p) rfl (by go_simp; first | done | with_reducible rfl | assumption) ?_
            exact hK.out _ _ ⟨l35, l36, true, false, false, false, by kernel_rfl, by kernel_rfl, hb, (hS), (hT), (hD)⟩
          refine lin_cons [36, 37] [39, 40] rfl (by kernel_rfl) (by kernel_rfl) ?_ ?_
          · intro L ac Wn hI hi hds hus Kc hK
            obtain ⟨l35, l36, l37, l38, l39, l40, rfl, hI⟩ := hI
            obtain rfl : l38 = false := hi
            obtain ⟨rfl, rfl, -⟩ : l36 = true ∧ l37 = true ∧ True := hds
            obtain ⟨rfl, rfl, -⟩ : l39 = false ∧ l40 = false ∧ True := hus
            simp only [sel_t, sel_f] at hI
            obtain ⟨rfl, hb, hS, hT, hD⟩ := hI
            go_simp
            go_fit (sout_any _ m s d n t e p (by omega) HO.out.1.ok3 HO.out.2.1.ok3 y15 v15 i15 HK.out.2.2.2.2.2.2.2.2.2.2.2.2.2.2.1 y16 v16 i16 HK.out.2.2.2.2.2.2.2.2.2.2.2.2.2.2.2.1)
            rintro e V ⟨rfl, hq⟩
            exact hK.out _ _ ⟨l35, true, true, true, false, false, by kernel_rfl, by kernel_rfl, (below_next hb hq), (hS.below hq), (hT.below hq), (hD.below hq)⟩
          refine lin_cons [35, 36, 37, 38] [40] rfl (by kernel_rfl) (by kernel_rfl) ?_ ?_
          · intro L ac Wn hI hi hds hus Kc hK
            obtain ⟨l35, l36, l37, l38, l39, l40, rfl, hI⟩ := hI
            obtain rfl : l39 = false := hi
            obtain ⟨rfl, rfl, rfl, rfl, -⟩ : l35 = true ∧ l36 = true ∧ l37 = true ∧ l38 = true ∧ True := hds
            obtain ⟨rfl, -⟩ : l40 = false ∧ True := hus
            simp only [sel_t, sel_f] at hI
            obtain ⟨rfl, hb, hS, hT, hD⟩ := hI
            go_simp
            go_fit (swithin_any _ m s d n t e y15 v15 i15 y16 v16 i16 HO.out.1.ok3 HO.out.2.1.ok3 HC.out.2.2.2.2.2.2.2.2.2.2.2.2.1 HC.out.2.2.2.2.2.2.2.2.2.2.2.2.2.1 true HG.out.2.2.2.2.1)
            rintro e V ⟨rfl, hq⟩
            exact hK.out _ _ ⟨true, true, true, true, true, false, by kernel_rfl, by kernel_rfl, (below_next hb hq), (hS.below hq), (hT.below hq), (hD.below hq)⟩
          refine lin_cons [35, 36, 37, 38, 39] [] rfl (by kernel_rfl) (by kernel_rfl) ?_ lin_nil
          intro L ac Wn hI hi hds hus Kc hK
          obtain ⟨l35, l36, l37, l38, l39, l40, rfl, hI⟩ := hI
          obtain rfl : l40 = false := hi
          obtain ⟨rfl, rfl, rfl, rfl, rfl, -⟩ : l35 = true ∧ l36 = true ∧ l37 = true ∧ l38 = true ∧ l39 = true ∧ True := hds
          simp only [sel_t, sel_f] at hI
          obtain ⟨rfl, hb, hS, hT, hD⟩ := hI
          refine lin_yield (.bool false) rfl (by go_simp; first | done | with_reducible rfl | assumption) ?_
          exact hK.out _ _ ⟨true, true, true, true, true, true, by kernel_rfl, by kernel_rfl, hb, (hS), (hT), (hD)⟩
        refine bar_of [35, 36, 37, 38, 39, 40] rfl (by kernel_rfl) ?_
        intro L ac Wn hI hds Kc hK
        obtain ⟨l35, l36, l37, l38, l39, l40, rfl, hI⟩ := hI
        obtain ⟨rfl, rfl, rfl, rfl, rfl, rfl, -⟩ : l35 = true ∧ l36 = true ∧ l37 = true ∧ l38 = true ∧ l39 = true ∧ l40 = true ∧ True := hds
        simp only [sel_t] at hI
        obtain ⟨rfl, hb, hS, hT, hD⟩ := hI
        refine lin_yield (.bool false) rfl (by go_simp; first | done | with_reducible rfl | assumption) ?_
        refine hK.out _ _ (fun fu hf => wpAnyH_done (by kernel_rfl) ?_ _)
        clear hK Kc hf
        clear HR2
        obtain ⟨rb, hzb⟩ : ∃ r, hasD (dlo (nv y1 v1 i1) (nv y2 v2 i2)) (dhi (nv y1 v1 i1) (nv y2 v2 i2)) 0 = r := ⟨_, rfl⟩
        obtain ⟨rs, hzs⟩ : ∃ r, hasD (dlo (nv m s d) (nv n t e)) (dhi (nv m s d) (nv n t e)) 0 = r := ⟨_, rfl⟩
        have hcc : 0 < c ∨ ¬ 0 < c := by omega
        have HZb := Lib.hid hzb
        have HZs := Lib.hid hzs
        cases rb with
        | true =>
          cases rs with
          | true =>
            clear hzb hzs
            obtain ⟨hS0, hS1, hS2, hS3, hS4, hS5⟩ := hS.cells
            obtain ⟨hT0, hT1, hT2, hT3, hT4, hT5⟩ := hT.cells
            go_wp2_with fail
            clear hS0 hS1 hS2 hS3 hS4 hS5 hT0 hT1 hT2 hT3 hT4 hT5
            rcases hcc with hc0 | hc0
            · have hcd : decide (0 < c) = true := decide_eq_true hc0
              clear hc0
              refine (smeet_none _ m s d n t e m2 s2 d2 n2 t2 e2 HJ.out.1 HJ.out.2.1 HJ.out.2.2.1 HJ.out.2.2.2.1 y17 v17 i17 HK.out.2.2.2.2.2.2.2.2.2.2.2.2.2.2.2.2.1 y18 v18 i18 HK.out.2.2.2.2.2.2.2.2.2.2.2.2.2.2.2.2.2 c HG.out.2.2.2.2.2.2 hcd).mono ?_
              rintro e' V5 ⟨rfl, hq⟩
              replace hb := below_next hb hq
              replace hS := hS.below hq
              replace hT := hT.below hq
              replace hD := hD.below hq
              clear hq
              replace hS := hS.alloc (Obj.cells #[Value.bool false, Value.string { data := #[] }, Value.int IntKind.i64 0, Value.bool false, Value.string { data := #[] }, Value.int IntKind.i64 0] 27)
              replace hT := hT.alloc (Obj.cells #[Value.bool false, Value.string { data := #[] }, Value.int IntKind.i64 0, Value.bool false, Value.string { data := #[] }, Value.int IntKind.i64 0] 27)
              replace hD := hD.alloc (Obj.cells #[Value.bool false, Value.string { data := #[] }, Value.int IntKind.i64 0, Value.bool false, Value.string { data := #[] }, Value.int IntKind.i64 0] 27)
              replace hb := hb.alloc hb.size (Obj.cells #[Value.bool false, Value.string { data := #[] }, Value.int IntKind.i64 0, Value.bool false, Value.string { data := #[] }, Value.int IntKind.i64 0] 27)
              obtain ⟨hT0, hT1, hT2, hT3, hT4, hT5⟩ := hT.cells
              obtain ⟨hS0, hS1, hS2, hS3, hS4, hS5⟩ := hS.cells
              go_wp2_with fail
              clear hT0 hT1 hT2 hT3 hT4 hT5 hS0 hS1 hS2 hS3 hS4 hS5
              generalize (V5.alloc (Obj.cells #[Value.bool false, Value.string { data := #[] }, Value.int IntKind.i64 0, Value.bool false, Value.string { data := #[] }, Value.int IntKind.i64 0] 27)) = W5 at *
              generalize V5.heap.size = PM at *
              refine (div_none _ m2 s2 d2 n2 t2 e2 m s d n t e p HO.out.1.ok3 HO.out.2.1.ok3 HZs.out).mono ?_
              rintro e' V6 ⟨rfl, hq⟩
              replace hb := below_next hb hq
              replace hT := hT.below hq
              replace hD := hD.below hq
              clear hq
              replace hT := hT.alloc (Obj.cells #[Value.bool false, Value.string { data := #[] }, Value.int IntKind.i64 0, Value.bool false, Value.string { data := #[] }, Value.int IntKind.i64 0] 27)
              replace hD := hD.alloc (Obj.cells #[Value.bool false, Value.string { data := #[] }, Value.int IntKind.i64 0, Value.bool false, Value.string { data := #[] }, Value.int IntKind.i64 0] 27)
              replace hb := hb.alloc hb.size (Obj.cells #[Value.bool false, Value.string { data := #[] }, Value.int IntKind.i64 0, Value.bool false, Value.string { data := #[] }, Value.int IntKind.i64 0] 27)
              clear hS
              obtain ⟨hT0, hT1, hT2, hT3, hT4, hT5⟩ := hT.cells
              obtain ⟨hD0, hD1, hD2, hD3, hD4, hD5⟩ := hD.cells
              go_wp2_with fail
              clear hT0 hT1 hT2 hT3 hT4 hT5 hD0 hD1 hD2 hD3 hD4 hD5
              generalize (V6.alloc (Obj.cells #[Value.bool false, Value.string { data := #[] }, Value.int IntKind.i64 0, Value.bool false, Value.string { data := #[] }, Value.int IntKind.i64 0] 27)) = W6 at *
              generalize V6.heap.size = PX at *
              refine (div_none _ m2 s2 d2 n2 t2 e2 y1 v1 i1 y2 v2 i2 p HO.out.2.2.2.2.2.2.1.ok3 HO.out.2.2.2.2.2.2.2.ok3 HZb.out).mono ?_
              rintro e' V7 ⟨rfl, hq⟩
              replace hb := below_next hb hq
              clear hq
              replace hb := hb.alloc hb.size (Obj.cells #[Value.bool false, Value.string { data := #[] }, Value.int IntKind.i64 0, Value.bool false, Value.string { data := #[] }, Value.int IntKind.i64 0] 27)
              clear hT hD
              go_wp2_with fail
              refine (sawake_any _).mono ?_
              rintro e' V9 ⟨rfl, hq⟩
              replace hb := below_next hb hq
              go_wp2
              go_ret
              exact ⟨rfl, hb⟩
            · have hcd : decide (0 < c) = false := decide_eq_false (by omega)
              have HM := Lib.hid (HG.out.2.2.2.2.2.1 (by omega))
              clear hc0
              refine (smeet_some _ m s d n t e m2 s2 d2 n2 t2 e2 HJ.out.1 HJ.out.2.1 HJ.out.2.2.1 HJ.out.2.2.2.1 y17 v17 i17 HK.out.2.2.2.2.2.2.2.2.2.2.2.2.2.2.2.2.1 y18 v18 i18 HK.out.2.2.2.2.2.2.2.2.2.2.2.2.2.2.2.2.2 c HG.out.2.2.2.2.2.2 hcd).mono ?_
              rintro e' V5 ⟨rfl, hq⟩
              replace hb := below_next hb hq
              replace hS := hS.below hq
              replace hT := hT.below hq
              replace hD := hD.below hq
              clear hq
              have hM := Sk.new V5 27 y17 v17 i17 y18 v18 i18
              replace hS := hS.alloc (Obj.cells #[Value.bool y17, Value.string v17, Value.int IntKind.i64 i17, Value.bool y18, Value.string v18, Value.int IntKind.i64 i18] 27)
              replace hT := hT.alloc (Obj.cells #[Value.bool y17, Value.string v17, Value.int IntKind.i64 i17, Value.bool y18, Value.string v18, Value.int IntKind.i64 i18] 27)
              replace hD := hD.alloc (Obj.cells #[Value.bool y17, Value.string v17, Value.int IntKind.i64 i17, Value.bool y18, Value.string v18, Value.int IntKind.i64 i18] 27)
              replace hb := hb.alloc hb.size (Obj.cells #[Value.bool y17, Value.string v17, Value.int IntKind.i64 i17, Value.bool y18, Value.string v18, Value.int IntKind.i64 i18] 27)
              obtain ⟨hT0, hT1, hT2, hT3, hT4, hT5⟩ := hT.cells
              obtain ⟨hS0, hS1, hS2, hS3, hS4, hS5⟩ := hS.cells
              obtain ⟨hM0, hM1, hM2, hM3, hM4, hM5⟩ := hM.cells
              go_wp2_with fail
              clear hT0 hT1 hT2 hT3 hT4 hT5 hS0 hS1 hS2 hS3 hS4 hS5 hM0 hM1 hM2 hM3 hM4 hM5
              generalize (V5.alloc (Obj.cells #[Value.bool y17, Value.string v17, Value.int IntKind.i64 i17, Value.bool y18, Value.string v18, Value.int IntKind.i64 i18] 27)) = W5 at *
              generalize V5.heap.size = PM at *
              refine (swithin_any _ y17 v17 i17 y18 v18 i18 m s d n t e HC.out.2.2.2.2.2.2.2.2.2.2.2.2.2.2.1 HC.out.2.2.2.2.2.2.2.2.2.2.2.2.2.2.2 HO.out.1.ok3 HO.out.2.1.ok3 true HM.out.1).mono ?_
              rintro e' V51 ⟨rfl, hq⟩
              replace hb := below_next hb hq
              replace hS := hS.below hq
              replace hT := hT.below hq
              replace hD := hD.below hq
              replace hM := hM.below hq
              clear hq
              obtain ⟨hT0, hT1, hT2, hT3, hT4, hT5⟩ := hT.cells
              obtain ⟨hM0, hM1, hM2, hM3, hM4, hM5⟩ := hM.cells
              go_wp2_with fail
              clear hT0 hT1 hT2 hT3 hT4 hT5 hM0 hM1 hM2 hM3 hM4 hM5
              refine (swithin_any _ y17 v17 i17 y18 v18 i18 m2 s2 d2 n2 t2 e2 HC.out.2.2.2.2.2.2.2.2.2.2.2.2.2.2.1 HC.out.2.2.2.2.2.2.2.2.2.2.2.2.2.2.2 HO.out.2.2.1.ok3 HO.out.2.2.2.1.ok3 true HM.out.2).mono ?_
              rintro e' V52 ⟨rfl, hq⟩
              replace hb := below_next hb hq
              replace hS := hS.below hq
              replace hT := hT.below hq
              replace hD := hD.below hq
              clear hq
              clear hM
              obtain ⟨hT0, hT1, hT2, hT3, hT4, hT5⟩ := hT.cells
              obtain ⟨hS0, hS1, hS2, hS3, hS4, hS5⟩ := hS.cells
              go_wp2_with fail
              clear hT0 hT1 hT2 hT3 hT4 hT5 hS0 hS1 hS2 hS3 hS4 hS5
              refine (div_none _ m2 s2 d2 n2 t2 e2 m s d n t e p HO.out.1.ok3 HO.out.2.1.ok3 HZs.out).mono ?_
              rintro e' V6 ⟨rfl, hq⟩
              replace hb := below_next hb hq
              replace hT := hT.below hq
              replace hD := hD.below hq
              clear hq
              replace hT := hT.alloc (Obj.cells #[Value.bool false, Value.string { data := #[] }, Value.int IntKind.i64 0, Value.bool false, Value.string { data := #[] }, Value.int IntKind.i64 0] 27)
              replace hD := hD.alloc (Obj.cells #[Value.bool false, Value.string { data := #[] }, Value.int IntKind.i64 0, Value.bool false, Value.string { data := #[] }, Value.int IntKind.i64 0] 27)
              replace hb := hb.alloc hb.size (Obj.cells #[Value.bool false, Value.string { data := #[] }, Value.int IntKind.i64 0, Value.bool false, Value.string { data := #[] }, Value.int IntKind.i64 0] 27)
              clear hS
              obtain ⟨hT0, hT1, hT2, hT3, hT4, hT5⟩ := hT.cells
              obtain ⟨hD0, hD1, hD2, hD3, hD4, hD5⟩ := hD.cells
              go_wp2_with fail
              clear hT0 hT1 hT2 hT3 hT4 hT5 hD0 hD1 hD2 hD3 hD4 hD5
              generalize (V6.alloc (Obj.cells #[Value.bool false, Value.string { data := #[] }, Value.int IntKind.i64 0, Value.bool false, Value.string { data := #[] }, Value.int IntKind.i64 0] 27)) = W6 at *
              generalize V6.heap.size = PX at *
              refine (div_none _ m2 s2 d2 n2 t2 e2 y1 v1 i1 y2 v2 i2 p HO.out.2.2.2.2.2.2.1.ok3 HO.out.2.2.2.2.2.2.2.ok3 HZb.out).mono ?_
              rintro e' V7 ⟨rfl, hq⟩
              replace hb := below_next hb hq
              clear hq
              replace hb := hb.alloc hb.size (Obj.cells #[Value.bool false, Value.string { data := #[] }, Value.int IntKind.i64 0, Value.bool false, Value.string { data := #[] }, Value.int IntKind.i64 0] 27)
              clear hT hD
              go_wp2_with fail
              refine (sawake_any _).mono ?_
              rintro e' V9 ⟨rfl, hq⟩
              replace hb := below_next hb hq
              go_wp2
              go_ret
              exact ⟨rfl, hb⟩
          | false =>
            have nz1 : wv m s ≠ 0 := not_zero (in_nonzero hzs ⟨(dlo_spec _ _).1, (dhi_spec _ _).1⟩)
            have nz2 : wv n t ≠ 0 := not_zero (in_nonzero hzs ⟨(dlo_spec _ _).2.1, (dhi_spec _ _).2.1⟩)
            obtain ⟨fa1, fb1, fc1, rl1⟩ := df_some (qlo (nv m2 s2 d2) (nv m s d) p)
            obtain ⟨fd1, fe1, ff1, rh1⟩ := df_some (qhi (nv m2 s2 d2) (nv m s d) p)
            have ok1 := quo_ok hpp HO.out.2.2.1 HO.out.1 nz1 rl1 rh1
            obtain ⟨fa2, fb2, fc2, rl2⟩ := df_some (qlo (nv m2 s2 d2) (nv n t e) p)
            obtain ⟨fd2, fe2, ff2, rh2⟩ := df_some (qhi (nv m2 s2 d2) (nv n t e) p)
            have ok2 := quo_ok hpp HO.out.2.2.1 HO.out.2.1 nz2 rl2 rh2
            obtain ⟨fa3, fb3, fc3, rl3⟩ := df_some (qlo (nv n2 t2 e2) (nv m s d) p)
            obtain ⟨fd3, fe3, ff3, rh3⟩ := df_some (qhi (nv n2 t2 e2) (nv m s d) p)
            have ok3 := quo_ok hpp HO.out.2.2.2.1 HO.out.1 nz1 rl3 rh3
            obtain ⟨fa4, fb4, fc4, rl4⟩ := df_some (qlo (nv n2 t2 e2) (nv n t e) p)
            obtain ⟨fd4, fe4, ff4, rh4⟩ := df_some (qhi (nv n2 t2 e2) (nv n t e) p)
            have ok4 := quo_ok hpp HO.out.2.2.2.1 HO.out.2.1 nz2 rl4 rh4
            obtain ⟨y19, v19, i19, k19⟩ := df_some (farD (-1) ([((fa1, fb1, fc1), (fd1, fe1, ff1)), ((fa2, fb2, fc2), (fd2, fe2, ff2)), ((fa3, fb3, fc3), (fd3, fe3, ff3)), ((fa4, fb4, fc4), (fd4, fe4, ff4))].map lowS) 4)
            have f19 := far4_low (lowS ((fa1, fb1, fc1), (fd1, fe1, ff1))) (lowS ((fa2, fb2, fc2), (fd2, fe2, ff2))) (lowS ((fa3, fb3, fc3), (fd3, fe3, ff3))) (lowS ((fa4, fb4, fc4), (fd4, fe4, ff4)))
            have c19 : Ok3 v19 i19 := by
              rcases f19.2.2.2.2 with h | h | h | h
              · exact low_same (x := (fa1, fb1, fc1)) (y := (fd1, fe1, ff1)) rl1 rh1 ok1.1 ok1.2 (by rw [← h]; exact k19)
              · exact low_same (x := (fa2, fb2, fc2)) (y := (fd2, fe2, ff2)) rl2 rh2 ok2.1 ok2.2 (by rw [← h]; exact k19)
              · exact low_same (x := (fa3, fb3, fc3)) (y := (fd3, fe3, ff3)) rl3 rh3 ok3.1 ok3.2 (by rw [← h]; exact k19)
              · exact low_same (x := (fa4, fb4, fc4)) (y := (fd4, fe4, ff4)) rl4 rh4 ok4.1 ok4.2 (by rw [← h]; exact k19)
            obtain ⟨y20, v20, i20, k20⟩ := df_some (farD 1 ([((fa1, fb1, fc1), (fd1, fe1, ff1)), ((fa2, fb2, fc2), (fd2, fe2, ff2)), ((fa3, fb3, fc3), (fd3, fe3, ff3)), ((fa4, fb4, fc4), (fd4, fe4, ff4))].map highS) 4)
            have f20 := far4_high (highS ((fa1, fb1, fc1), (fd1, fe1, ff1))) (highS ((fa2, fb2, fc2), (fd2, fe2, ff2))) (highS ((fa3, fb3, fc3), (fd3, fe3, ff3))) (highS ((fa4, fb4, fc4), (fd4, fe4, ff4)))
            have c20 : Ok3 v20 i20 := by
              rcases f20.2.2.2.2 with h | h | h | h
              · exact high_same (x := (fa1, fb1, fc1)) (y := (fd1, fe1, ff1)) rl1 rh1 ok1.1 ok1.2 (by rw [← h]; exact k20)
              · exact high_same (x := (fa2, fb2, fc2)) (y := (fd2, fe2, ff2)) rl2 rh2 ok2.1 ok2.2 (by rw [← h]; exact k20)
              · exact high_same (x := (fa3, fb3, fc3)) (y := (fd3, fe3, ff3)) rl3 rh3 ok3.1 ok3.2 (by rw [← h]; exact k20)
              · exact high_same (x := (fa4, fb4, fc4)) (y := (fd4, fe4, ff4)) rl4 rh4 ok4.1 ok4.2 (by rw [← h]; exact k20)
            have HVs := Lib.hid (And.intro rl1 (And.intro rh1 (And.intro rl2 (And.intro rh2 (And.intro rl3 (And.intro rh3 (And.intro rl4 (And.intro rh4 (And.intro k19 k20)))))))))
            clear hzb hzs nz1 nz2 f19 f20 c19 c20 ok1 ok2 ok3 ok4 rl1 rh1 rl2 rh2 rl3 rh3 rl4 rh4 k19 k20
            obtain ⟨hS0, hS1, hS2, hS3, hS4, hS5⟩ := hS.cells
            obtain ⟨hT0, hT1, hT2, hT3, hT4, hT5⟩ := hT.cells
            go_wp2_with fail
            clear hS0 hS1 hS2 hS3 hS4 hS5 hT0 hT1 hT2 hT3 hT4 hT5
            rcases hcc with hc0 | hc0
            · have hcd : decide (0 < c) = true := decide_eq_true hc0
              clear hc0
              refine (smeet_none _ m s d n t e m2 s2 d2 n2 t2 e2 HJ.out.1 HJ.out.2.1 HJ.out.2.2.1 HJ.out.2.2.2.1 y17 v17 i17 HK.out.2.2.2.2.2.2.2.2.2.2.2.2.2.2.2.2.1 y18 v18 i18 HK.out.2.2.2.2.2.2.2.2.2.2.2.2.2.2.2.2.2 c HG.out.2.2.2.2.2.2 hcd).mono ?_
              rintro e' V5 ⟨rfl, hq⟩
              replace hb := below_next hb hq
              replace hS := hS.below hq
              replace hT := hT.below hq
              replace hD := hD.below hq
              clear hq
              replace hS := hS.alloc (Obj.cells #[Value.bool false, Value.string { data := #[] }, Value.int IntKind.i64 0, Value.bool false, Value.string { data := #[] }, Value.int IntKind.i64 0] 27)
              replace hT := hT.alloc (Obj.cells #[Value.bool false, Value.string { data := #[] }, Value.int IntKind.i64 0, Value.bool false, Value.string { data := #[] }, Value.int IntKind.i64 0] 27)
              replace hD := hD.alloc (Obj.cells #[Value.bool false, Value.string { data := #[] }, Value.int IntKind.i64 0, Value.bool false, Value.string { data := #[] }, Value.int IntKind.i64 0] 27)
              replace hb := hb.alloc hb.size (Obj.cells #[Value.bool false, Value.string { data := #[] }, Value.int IntKind.i64 0, Value.bool false, Value.string { data := #[] }, Value.int IntKind.i64 0] 27)
              obtain ⟨hT0, hT1, hT2, hT3, hT4, hT5⟩ := hT.cells
              obtain ⟨hS0, hS1, hS2, hS3, hS4, hS5⟩ := hS.cells
              go_wp2_with fail
              clear hT0 hT1 hT2 hT3 hT4 hT5 hS0 hS1 hS2 hS3 hS4 hS5
              generalize (V5.alloc (Obj.cells #[Value.bool false, Value.string { data := #[] }, Value.int IntKind.i64 0, Value.bool false, Value.string { data := #[] }, Value.int IntKind.i64 0] 27)) = W5 at *
              generalize V5.heap.size = PM at *
              refine (div_some _ m2 s2 d2 n2 t2 e2 m s d n t e p hpp HO.out.2.2.1 HO.out.2.2.2.1 HO.out.1 HO.out.2.1 HZs.out fa1 fb1 fc1 fd1 fe1 ff1 fa2 fb2 fc2 fd2 fe2 ff2 fa3 fb3 fc3 fd3 fe3 ff3 fa4 fb4 fc4 fd4 fe4 ff4 HVs.out.1 HVs.out.2.1 HVs.out.2.2.1 HVs.out.2.2.2.1 HVs.out.2.2.2.2.1 HVs.out.2.2.2.2.2.1 HVs.out.2.2.2.2.2.2.1 HVs.out.2.2.2.2.2.2.2.1 y19 v19 i19 HVs.out.2.2.2.2.2.2.2.2.1 y20 v20 i20 HVs.out.2.2.2.2.2.2.2.2.2).mono ?_
              rintro e' V6 ⟨rfl, hq⟩
              replace hb := below_next hb hq
              replace hT := hT.below hq
              replace hD := hD.below hq
              clear hq
              replace hT := hT.alloc (Obj.cells #[Value.bool y19, Value.string v19, Value.int IntKind.i64 i19, Value.bool y20, Value.string v20, Value.int IntKind.i64 i20] 27)
              replace hD := hD.alloc (Obj.cells #[Value.bool y19, Value.string v19, Value.int IntKind.i64 i19, Value.bool y20, Value.string v20, Value.int IntKind.i64 i20] 27)
              replace hb := hb.alloc hb.size (Obj.cells #[Value.bool y19, Value.string v19, Value.int IntKind.i64 i19, Value.bool y20, Value.string v20, Value.int IntKind.i64 i20] 27)
              clear hS
              obtain ⟨hT0, hT1, hT2, hT3, hT4, hT5⟩ := hT.cells
              obtain ⟨hD0, hD1, hD2, hD3, hD4, hD5⟩ := hD.cells
              go_wp2_with fail
              clear hT0 hT1 hT2 hT3 hT4 hT5 hD0 hD1 hD2 hD3 hD4 hD5
              generalize (V6.alloc (Obj.cells #[Value.bool y19, Value.string v19, Value.int IntKind.i64 i19, Value.bool y20, Value.string v20, Value.int IntKind.i64 i20] 27)) = W6 at *
              generalize V6.heap.size = PX at *
              refine (div_none _ m2 s2 d2 n2 t2 e2 y1 v1 i1 y2 v2 i2 p HO.out.2.2.2.2.2.2.1.ok3 HO.out.2.2.2.2.2.2.2.ok3 HZb.out).mono ?_
              rintro e' V7 ⟨rfl, hq⟩
              replace hb := below_next hb hq
              clear hq
              replace hb := hb.alloc hb.size (Obj.cells #[Value.bool false, Value.string { data := #[] }, Value.int IntKind.i64 0, Value.bool false, Value.string { data := #[] }, Value.int IntKind.i64 0] 27)
              clear hT hD
              go_wp2_with fail
              refine (sawake_any _).mono ?_
              rintro e' V9 ⟨rfl, hq⟩
              replace hb := below_next hb hq
              go_wp2
              go_ret
              exact ⟨rfl, hb⟩
            · have hcd : decide (0 < c) = false := decide_eq_false (by omega)
              have HM := Lib.hid (HG.out.2.2.2.2.2.1 (by omega))
              clear hc0
              refine (smeet_some _ m s d n t e m2 s2 d2 n2 t2 e2 HJ.out.1 HJ.out.2.1 HJ.out.2.2.1 HJ.out.2.2.2.1 y17 v17 i17 HK.out.2.2.2.2.2.2.2.2.2.2.2.2.2.2.2.2.1 y18 v18 i18 HK.out.2.2.2.2.2.2.2.2.2.2.2.2.2.2.2.2.2 c HG.out.2.2.2.2.2.2 hcd).mono ?_
              rintro e' V5 ⟨rfl, hq⟩
              replace hb := below_next hb hq
              replace hS := hS.below hq
              replace hT := hT.below hq
              replace hD := hD.below hq
              clear hq
              have hM := Sk.new V5 27 y17 v17 i17 y18 v18 i18
              replace hS := hS.alloc (Obj.cells #[Value.bool y17, Value.string v17, Value.int IntKind.i64 i17, Value.bool y18, Value.string v18, Value.int IntKind.i64 i18] 27)
              replace hT := hT.alloc (Obj.cells #[Value.bool y17, Value.string v17, Value.int IntKind.i64 i17, Value.bool y18, Value.string v18, Value.int IntKind.i64 i18] 27)
              replace hD := hD.alloc (Obj.cells #[Value.bool y17, Value.string v17, Value.int IntKind.i64 i17, Value.bool y18, Value.string v18, Value.int IntKind.i64 i18] 27)
              replace hb := hb.alloc hb.size (Obj.cells #[Value.bool y17, Value.string v17, Value.int IntKind.i64 i17, Value.bool y18, Value.string v18, Value.int IntKind.i64 i18] 27)
              obtain ⟨hT0, hT1, hT2, hT3, hT4, hT5⟩ := hT.cells
              obtain ⟨hS0, hS1, hS2, hS3, hS4, hS5⟩ := hS.cells
              obtain ⟨hM0, hM1, hM2, hM3, hM4, hM5⟩ := hM.cells
              go_wp2_with fail
              clear hT0 hT1 hT2 hT3 hT4 hT5 hS0 hS1 hS2 hS3 hS4 hS5 hM0 hM1 hM2 hM3 hM4 hM5
              generalize (V5.alloc (Obj.cells #[Value.bool y17, Value.string v17, Value.int IntKind.i64 i17, Value.bool y18, Value.string v18, Value.int IntKind.i64 i18] 27)) = W5 at *
              generalize V5.heap.size = PM at *
              refine (swithin_any _ y17 v17 i17 y18 v18 i18 m s d n t e HC.out.2.2.2.2.2.2.2.2.2.2.2.2.2.2.1 HC.out.2.2.2.2.2.2.2.2.2.2.2.2.2.2.2 HO.out.1.ok3 HO.out.2.1.ok3 true HM.out.1).mono ?_
              rintro e' V51 ⟨rfl, hq⟩
              replace hb := below_next hb hq
              replace hS := hS.below hq
              replace hT := hT.below hq
              replace hD := hD.below hq
              replace hM := hM.below hq
              clear hq
              obtain ⟨hT0, hT1, hT2, hT3, hT4, hT5⟩ := hT.cells
              obtain ⟨hM0, hM1, hM2, hM3, hM4, hM5⟩ := hM.cells
              go_wp2_with fail
              clear hT0 hT1 hT2 hT3 hT4 hT5 hM0 hM1 hM2 hM3 hM4 hM5
              refine (swithin_any _ y17 v17 i17 y18 v18 i18 m2 s2 d2 n2 t2 e2 HC.out.2.2.2.2.2.2.2.2.2.2.2.2.2.2.1 HC.out.2.2.2.2.2.2.2.2.2.2.2.2.2.2.2 HO.out.2.2.1.ok3 HO.out.2.2.2.1.ok3 true HM.out.2).mono ?_
              rintro e' V52 ⟨rfl, hq⟩
              replace hb := below_next hb hq
              replace hS := hS.below hq
              replace hT := hT.below hq
              replace hD := hD.below hq
              clear hq
              clear hM
              obtain ⟨hT0, hT1, hT2, hT3, hT4, hT5⟩ := hT.cells
              obtain ⟨hS0, hS1, hS2, hS3, hS4, hS5⟩ := hS.cells
              go_wp2_with fail
              clear hT0 hT1 hT2 hT3 hT4 hT5 hS0 hS1 hS2 hS3 hS4 hS5
              refine (div_some _ m2 s2 d2 n2 t2 e2 m s d n t e p hpp HO.out.2.2.1 HO.out.2.2.2.1 HO.out.1 HO.out.2.1 HZs.out fa1 fb1 fc1 fd1 fe1 ff1 fa2 fb2 fc2 fd2 fe2 ff2 fa3 fb3 fc3 fd3 fe3 ff3 fa4 fb4 fc4 fd4 fe4 ff4 HVs.out.1 HVs.out.2.1 HVs.out.2.2.1 HVs.out.2.2.2.1 HVs.out.2.2.2.2.1 HVs.out.2.2.2.2.2.1 HVs.out.2.2.2.2.2.2.1 HVs.out.2.2.2.2.2.2.2.1 y19 v19 i19 HVs.out.2.2.2.2.2.2.2.2.1 y20 v20 i20 HVs.out.2.2.2.2.2.2.2.2.2).mono ?_
              rintro e' V6 ⟨rfl, hq⟩
              replace hb := below_next hb hq
              replace hT := hT.below hq
              replace hD := hD.below hq
              clear hq
              replace hT := hT.alloc (Obj.cells #[Value.bool y19, Value.string v19, Value.int IntKind.i64 i19, Value.bool y20, Value.string v20, Value.int IntKind.i64 i20] 27)
              replace hD := hD.alloc (Obj.cells #[Value.bool y19, Value.string v19, Value.int IntKind.i64 i19, Value.bool y20, Value.string v20, Value.int IntKind.i64 i20] 27)
              replace hb := hb.alloc hb.size (Obj.cells #[Value.bool y19, Value.string v19, Value.int IntKind.i64 i19, Value.bool y20, Value.string v20, Value.int IntKind.i64 i20] 27)
              clear hS
              obtain ⟨hT0, hT1, hT2, hT3, hT4, hT5⟩ := hT.cells
              obtain ⟨hD0, hD1, hD2, hD3, hD4, hD5⟩ := hD.cells
              go_wp2_with fail
              clear hT0 hT1 hT2 hT3 hT4 hT5 hD0 hD1 hD2 hD3 hD4 hD5
              generalize (V6.alloc (Obj.cells #[Value.bool y19, Value.string v19, Value.int IntKind.i64 i19, Value.bool y20, Value.string v20, Value.int IntKind.i64 i20] 27)) = W6 at *
              generalize V6.heap.size = PX at *
              refine (div_none _ m2 s2 d2 n2 t2 e2 y1 v1 i1 y2 v2 i2 p HO.out.2.2.2.2.2.2.1.ok3 HO.out.2.2.2.2.2.2.2.ok3 HZb.out).mono ?_
              rintro e' V7 ⟨rfl, hq⟩
              replace hb := below_next hb hq
              clear hq
              replace hb := hb.alloc hb.size (Obj.cells #[Value.bool false, Value.string { data := #[] }, Value.int IntKind.i64 0, Value.bool false, Value.string { data := #[] }, Value.int IntKind.i64 0] 27)
              clear hT hD
              go_wp2_with fail
              refine (sawake_any _).mono ?_
              rintro e' V9 ⟨rfl, hq⟩
              replace hb := below_next hb hq
              go_wp2
              go_ret
              exact ⟨rfl, hb⟩
        | false =>
          have hzs' : rs = false := by
            cases rs with
            | false => rfl
            | true =>
              have h := (hasD_iff _ _ _).1 hzs
              have h2 := (hasD_iff (dlo (nv y1 v1 i1) (nv y2 v2 i2)) (dhi (nv y1 v1 i1) (nv y2 v2 i2)) 0).2 ⟨Rat.le_trans HI.out.2.2.2.2.1 h.1, Rat.le_trans h.2 HI.out.2.2.2.2.2⟩
              rw [h2] at hzb
              cases hzb
          subst hzs'
          have nz1 : wv m s ≠ 0 := not_zero (in_nonzero hzs ⟨(dlo_spec _ _).1, (dhi_spec _ _).1⟩)
          have nz2 : wv n t ≠ 0 := not_zero (in_nonzero hzs ⟨(dlo_spec _ _).2.1, (dhi_spec _ _).2.1⟩)
          obtain ⟨fa1, fb1, fc1, rl1⟩ := df_some (qlo (nv m2 s2 d2) (nv m s d) p)
          obtain ⟨fd1, fe1, ff1, rh1⟩ := df_some (qhi (nv m2 s2 d2) (nv m s d) p)
          have ok1 := quo_ok hpp HO.out.2.2.1 HO.out.1 nz1 rl1 rh1
          obtain ⟨fa2, fb2, fc2, rl2⟩ := df_some (qlo (nv m2 s2 d2) (nv n t e) p)
          obtain ⟨fd2, fe2, ff2, rh2⟩ := df_some (qhi (nv m2 s2 d2) (nv n t e) p)
          have ok2 := quo_ok hpp HO.out.2.2.1 HO.out.2.1 nz2 rl2 rh2
          obtain ⟨fa3, fb3, fc3, rl3⟩ := df_some (qlo (nv n2 t2 e2) (nv m s d) p)
          obtain ⟨fd3, fe3, ff3, rh3⟩ := df_some (qhi (nv n2 t2 e2) (nv m s d) p)
          have ok3 := quo_ok hpp HO.out.2.2.2.1 HO.out.1 nz1 rl3 rh3
          obtain ⟨fa4, fb4, fc4, rl4⟩ := df_some (qlo (nv n2 t2 e2) (nv n t e) p)
          obtain ⟨fd4, fe4, ff4, rh4⟩ := df_some (qhi (nv n2 t2 e2) (nv n t e) p)
          have ok4 := quo_ok hpp HO.out.2.2.2.1 HO.out.2.1 nz2 rl4 rh4
          obtain ⟨y19, v19, i19, k19⟩ := df_some (farD (-1) ([((fa1, fb1, fc1), (fd1, fe1, ff1)), ((fa2, fb2, fc2), (fd2, fe2, ff2)), ((fa3, fb3, fc3), (fd3, fe3, ff3)), ((fa4, fb4, fc4), (fd4, fe4, ff4))].map lowS) 4)
          have f19 := far4_low (lowS ((fa1, fb1, fc1), (fd1, fe1, ff1))) (lowS ((fa2, fb2, fc2), (fd2, fe2, ff2))) (lowS ((fa3, fb3, fc3), (fd3, fe3, ff3))) (lowS ((fa4, fb4, fc4), (fd4, fe4, ff4)))
          have c19 : Ok3 v19 i19 := by
            rcases f19.2.2.2.2 with h | h | h | h
            · exact low_same (x := (fa1, fb1, fc1)) (y := (fd1, fe1, ff1)) rl1 rh1 ok1.1 ok1.2 (by rw [← h]; exact k19)
            · exact low_same (x := (fa2, fb2, fc2)) (y := (fd2, fe2, ff2)) rl2 rh2 ok2.1 ok2.2 (by rw [← h]; exact k19)
            · exact low_same (x := (fa3, fb3, fc3)) (y := (fd3, fe3, ff3)) rl3 rh3 ok3.1 ok3.2 (by rw [← h]; exact k19)
            · exact low_same (x := (fa4, fb4, fc4)) (y := (fd4, fe4, ff4)) rl4 rh4 ok4.1 ok4.2 (by rw [← h]; exact k19)
          obtain ⟨y20, v20, i20, k20⟩ := df_some (farD 1 ([((fa1, fb1, fc1), (fd1, fe1, ff1)), ((fa2, fb2, fc2), (fd2, fe2, ff2)), ((fa3, fb3, fc3), (fd3, fe3, ff3)), ((fa4, fb4, fc4), (fd4, fe4, ff4))].map highS) 4)
          have f20 := far4_high (highS ((fa1, fb1, fc1), (fd1, fe1, ff1))) (highS ((fa2, fb2, fc2), (fd2, fe2, ff2))) (highS ((fa3, fb3, fc3), (fd3, fe3, ff3))) (highS ((fa4, fb4, fc4), (fd4, fe4, ff4)))
          have c20 : Ok3 v20 i20 := by
            rcases f20.2.2.2.2 with h | h | h | h
            · exact high_same (x := (fa1, fb1, fc1)) (y := (fd1, fe1, ff1)) rl1 rh1 ok1.1 ok1.2 (by rw [← h]; exact k20)
            · exact high_same (x := (fa2, fb2, fc2)) (y := (fd2, fe2, ff2)) rl2 rh2 ok2.1 ok2.2 (by rw [← h]; exact k20)
            · exact high_same (x := (fa3, fb3, fc3)) (y := (fd3, fe3, ff3)) rl3 rh3 ok3.1 ok3.2 (by rw [← h]; exact k20)
            · exact high_same (x := (fa4, fb4, fc4)) (y := (fd4, fe4, ff4)) rl4 rh4 ok4.1 ok4.2 (by rw [← h]; exact k20)
          have nz3 : wv y1 v1 ≠ 0 := not_zero (in_nonzero hzb ⟨(dlo_spec _ _).1, (dhi_spec _ _).1⟩)
          have nz4 : wv y2 v2 ≠ 0 := not_zero (in_nonzero hzb ⟨(dlo_spec _ _).2.1, (dhi_spec _ _).2.1⟩)
          obtain ⟨fa5, fb5, fc5, rl5⟩ := df_some (qlo (nv m2 s2 d2) (nv y1 v1 i1) p)
          obtain ⟨fd5, fe5, ff5, rh5⟩ := df_some (qhi (nv m2 s2 d2) (nv y1 v1 i1) p)
          have ok5 := quo_ok hpp HO.out.2.2.1 HO.out.2.2.2.2.2.2.1 nz3 rl5 rh5
          obtain ⟨fa6, fb6, fc6, rl6⟩ := df_some (qlo (nv m2 s2 d2) (nv y2 v2 i2) p)
          obtain ⟨fd6, fe6, ff6, rh6⟩ := df_some (qhi (nv m2 s2 d2) (nv y2 v2 i2) p)
          have ok6 := quo_ok hpp HO.out.2.2.1 HO.out.2.2.2.2.2.2.2 nz4 rl6 rh6
          obtain ⟨fa7, fb7, fc7, rl7⟩ := df_some (qlo (nv n2 t2 e2) (nv y1 v1 i1) p)
          obtain ⟨fd7, fe7, ff7, rh7⟩ := df_some (qhi (nv n2 t2 e2) (nv y1 v1 i1) p)
          have ok7 := quo_ok hpp HO.out.2.2.2.1 HO.out.2.2.2.2.2.2.1 nz3 rl7 rh7
          obtain ⟨fa8, fb8, fc8, rl8⟩ := df_some (qlo (nv n2 t2 e2) (nv y2 v2 i2) p)
          obtain ⟨fd8, fe8, ff8, rh8⟩ := df_some (qhi (nv n2 t2 e2) (nv y2 v2 i2) p)
          have ok8 := quo_ok hpp HO.out.2.2.2.1 HO.out.2.2.2.2.2.2.2 nz4 rl8 rh8
          obtain ⟨y21, v21, i21, k21⟩ := df_some (farD (-1) ([((fa5, fb5, fc5), (fd5, fe5, ff5)), ((fa6, fb6, fc6), (fd6, fe6, ff6)), ((fa7, fb7, fc7), (fd7, fe7, ff7)), ((fa8, fb8, fc8), (fd8, fe8, ff8))].map lowS) 4)
          have f21 := far4_low (lowS ((fa5, fb5, fc5), (fd5, fe5, ff5))) (lowS ((fa6, fb6, fc6), (fd6, fe6, ff6))) (lowS ((fa7, fb7, fc7), (fd7, fe7, ff7))) (lowS ((fa8, fb8, fc8), (fd8, fe8, ff8)))
          have c21 : Ok3 v21 i21 := by
            rcases f21.2.2.2.2 with h | h | h | h
            · exact low_same (x := (fa5, fb5, fc5)) (y := (fd5, fe5, ff5)) rl5 rh5 ok5.1 ok5.2 (by rw [← h]; exact k21)
            · exact low_same (x := (fa6, fb6, fc6)) (y := (fd6, fe6, ff6)) rl6 rh6 ok6.1 ok6.2 (by rw [← h]; exact k21)
            · exact low_same (x := (fa7, fb7, fc7)) (y := (fd7, fe7, ff7)) rl7 rh7 ok7.1 ok7.2 (by rw [← h]; exact k21)
            · exact low_same (x := (fa8, fb8, fc8)) (y := (fd8, fe8, ff8)) rl8 rh8 ok8.1 ok8.2 (by rw [← h]; exact k21)
          obtain ⟨y22, v22, i22, k22⟩ := df_some (farD 1 ([((fa5, fb5, fc5), (fd5, fe5, ff5)), ((fa6, fb6, fc6), (fd6, fe6, ff6)), ((fa7, fb7, fc7), (fd7, fe7, ff7)), ((fa8, fb8, fc8), (fd8, fe8, ff8))].map highS) 4)
          have f22 := far4_high (highS ((fa5, fb5, fc5), (fd5, fe5, ff5))) (highS ((fa6, fb6, fc6), (fd6, fe6, ff6))) (highS ((fa7, fb7, fc7), (fd7, fe7, ff7))) (highS ((fa8, fb8, fc8), (fd8, fe8, ff8)))
          have c22 : Ok3 v22 i22 := by
            rcases f22.2.2.2.2 with h | h | h | h
            · exact high_same (x := (fa5, fb5, fc5)) (y := (fd5, fe5, ff5)) rl5 rh5 ok5.1 ok5.2 (by rw [← h]; exact k22)
            · exact high_same (x := (fa6, fb6, fc6)) (y := (fd6, fe6, ff6)) rl6 rh6 ok6.1 ok6.2 (by rw [← h]; exact k22)
            · exact high_same (x := (fa7, fb7, fc7)) (y := (fd7, fe7, ff7)) rl7 rh7 ok7.1 ok7.2 (by rw [← h]; exact k22)
            · exact high_same (x := (fa8, fb8, fc8)) (y := (fd8, fe8, ff8)) rl8 rh8 ok8.1 ok8.2 (by rw [← h]; exact k22)
          have ll5 : (nvl (lowS ((fa5, fb5, fc5), (fd5, fe5, ff5)))).toRat ≤ (nv fa5 fb5 fc5).toRat := by
            rw [show nvl (lowS ((fa5, fb5, fc5), (fd5, fe5, ff5))) = dlo (nv fa5 fb5 fc5) (nv fd5 fe5 ff5) from lowN_val _ _]
            exact (dlo_spec _ _).1
          have lh5 : (nv fd5 fe5 ff5).toRat ≤ (nvl (highS ((fa5, fb5, fc5), (fd5, fe5, ff5)))).toRat := by
            rw [show nvl (highS ((fa5, fb5, fc5), (fd5, fe5, ff5))) = dhi (nv fa5 fb5 fc5) (nv fd5 fe5 ff5) from highN_val _ _]
            exact (dhi_spec _ _).2.1
          rw [form_nv rl5] at ll5
          rw [form_nv rh5] at lh5
          have ll6 : (nvl (lowS ((fa6, fb6, fc6), (fd6, fe6, ff6)))).toRat ≤ (nv fa6 fb6 fc6).toRat := by
            rw [show nvl (lowS ((fa6, fb6, fc6), (fd6, fe6, ff6))) = dlo (nv fa6 fb6 fc6) (nv fd6 fe6 ff6) from lowN_val _ _]
            exact (dlo_spec _ _).1
          have lh6 : (nv fd6 fe6 ff6).toRat ≤ (nvl (highS ((fa6, fb6, fc6), (fd6, fe6, ff6)))).toRat := by
            rw [show nvl (highS ((fa6, fb6, fc6), (fd6, fe6, ff6))) = dhi (nv fa6 fb6 fc6) (nv fd6 fe6 ff6) from highN_val _ _]
            exact (dhi_spec _ _).2.1
          rw [form_nv rl6] at ll6
          rw [form_nv rh6] at lh6
          have ll7 : (nvl (lowS ((fa7, fb7, fc7), (fd7, fe7, ff7)))).toRat ≤ (nv fa7 fb7 fc7).toRat := by
            rw [show nvl (lowS ((fa7, fb7, fc7), (fd7, fe7, ff7))) = dlo (nv fa7 fb7 fc7) (nv fd7 fe7 ff7) from lowN_val _ _]
            exact (dlo_spec _ _).1
          have lh7 : (nv fd7 fe7 ff7).toRat ≤ (nvl (highS ((fa7, fb7, fc7), (fd7, fe7, ff7)))).toRat := by
            rw [show nvl (highS ((fa7, fb7, fc7), (fd7, fe7, ff7))) = dhi (nv fa7 fb7 fc7) (nv fd7 fe7 ff7) from highN_val _ _]
            exact (dhi_spec _ _).2.1
          rw [form_nv rl7] at ll7
          rw [form_nv rh7] at lh7
          have ll8 : (nvl (lowS ((fa8, fb8, fc8), (fd8, fe8, ff8)))).toRat ≤ (nv fa8 fb8 fc8).toRat := by
            rw [show nvl (lowS ((fa8, fb8, fc8), (fd8, fe8, ff8))) = dlo (nv fa8 fb8 fc8) (nv fd8 fe8 ff8) from lowN_val _ _]
            exact (dlo_spec _ _).1
          have lh8 : (nv fd8 fe8 ff8).toRat ≤ (nvl (highS ((fa8, fb8, fc8), (fd8, fe8, ff8)))).toRat := by
            rw [show nvl (highS ((fa8, fb8, fc8), (fd8, fe8, ff8))) = dhi (nv fa8 fb8 fc8) (nv fd8 fe8 ff8) from highN_val _ _]
            exact (dhi_spec _ _).2.1
          rw [form_nv rl8] at ll8
          rw [form_nv rh8] at lh8
          have r19 := form_nv k19
          have r20 := form_nv k20
          have r21 := form_nv k21
          have r22 := form_nv k22
          have in1 := in_quo (p := p) (lo := nv y21 v21 i21) (hi := nv y22 v22 i22) hzb (by rw [r21]; exact Rat.le_trans f21.1 ll5) (by rw [r21]; exact Rat.le_trans f21.2.1 ll6) (by rw [r21]; exact Rat.le_trans f21.2.2.1 ll7) (by rw [r21]; exact Rat.le_trans f21.2.2.2.1 ll8)
            (by rw [r22]; exact Rat.le_trans lh5 f22.1) (by rw [r22]; exact Rat.le_trans lh6 f22.2.1) (by rw [r22]; exact Rat.le_trans lh7 f22.2.2.1) (by rw [r22]; exact Rat.le_trans lh8 f22.2.2.2.1) HI.out.2.2.1 HI.out.1
          rw [← form_nv rl1, ← form_nv rh1] at in1
          have in2 := in_quo (p := p) (lo := nv y21 v21 i21) (hi := nv y22 v22 i22) hzb (by rw [r21]; exact Rat.le_trans f21.1 ll5) (by rw [r21]; exact Rat.le_trans f21.2.1 ll6) (by rw [r21]; exact Rat.le_trans f21.2.2.1 ll7) (by rw [r21]; exact Rat.le_trans f21.2.2.2.1 ll8)
            (by rw [r22]; exact Rat.le_trans lh5 f22.1) (by rw [r22]; exact Rat.le_trans lh6 f22.2.1) (by rw [r22]; exact Rat.le_trans lh7 f22.2.2.1) (by rw [r22]; exact Rat.le_trans lh8 f22.2.2.2.1) HI.out.2.2.1 HI.out.2.1
          rw [← form_nv rl2, ← form_nv rh2] at in2
          have in3 := in_quo (p := p) (lo := nv y21 v21 i21) (hi := nv y22 v22 i22) hzb (by rw [r21]; exact Rat.le_trans f21.1 ll5) (by rw [r21]; exact Rat.le_trans f21.2.1 ll6) (by rw [r21]; exact Rat.le_trans f21.2.2.1 ll7) (by rw [r21]; exact Rat.le_trans f21.2.2.2.1 ll8)
            (by rw [r22]; exact Rat.le_trans lh5 f22.1) (by rw [r22]; exact Rat.le_trans lh6 f22.2.1) (by rw [r22]; exact Rat.le_trans lh7 f22.2.2.1) (by rw [r22]; exact Rat.le_trans lh8 f22.2.2.2.1) HI.out.2.2.2.1 HI.out.1
          rw [← form_nv rl3, ← form_nv rh3] at in3
          have in4 := in_quo (p := p) (lo := nv y21 v21 i21) (hi := nv y22 v22 i22) hzb (by rw [r21]; exact Rat.le_trans f21.1 ll5) (by rw [r21]; exact Rat.le_trans f21.2.1 ll6) (by rw [r21]; exact Rat.le_trans f21.2.2.1 ll7) (by rw [r21]; exact Rat.le_trans f21.2.2.2.1 ll8)
            (by rw [r22]; exact Rat.le_trans lh5 f22.1) (by rw [r22]; exact Rat.le_trans lh6 f22.2.1) (by rw [r22]; exact Rat.le_trans lh7 f22.2.2.1) (by rw [r22]; exact Rat.le_trans lh8 f22.2.2.2.1) HI.out.2.2.2.1 HI.out.2.1
          rw [← form_nv rl4, ← form_nv rh4] at in4
          have g7 : (hasD (dlo (nv y21 v21 i21) (nv y22 v22 i22)) (dhi (nv y21 v21 i21) (nv y22 v22 i22)) (nv y19 v19 i19) && hasD (dlo (nv y21 v21 i21) (nv y22 v22 i22)) (dhi (nv y21 v21 i21) (nv y22 v22 i22)) (nv y20 v20 i20)) = true := by
            refine within2 ?_ ?_
            · rcases f19.2.2.2.2 with h | h | h | h
              · rw [r19.trans h]
                exact pick_in (lowS_or ((fa1, fb1, fc1), (fd1, fe1, ff1))) in1
              · rw [r19.trans h]
                exact pick_in (lowS_or ((fa2, fb2, fc2), (fd2, fe2, ff2))) in2
              · rw [r19.trans h]
                exact pick_in (lowS_or ((fa3, fb3, fc3), (fd3, fe3, ff3))) in3
              · rw [r19.trans h]
                exact pick_in (lowS_or ((fa4, fb4, fc4), (fd4, fe4, ff4))) in4
            · rcases f20.2.2.2.2 with h | h | h | h
              · rw [r20.trans h]
                exact pick_in (highS_or ((fa1, fb1, fc1), (fd1, fe1, ff1))) in1
              · rw [r20.trans h]
                exact pick_in (highS_or ((fa2, fb2, fc2), (fd2, fe2, ff2))) in2
              · rw [r20.trans h]
                exact pick_in (highS_or ((fa3, fb3, fc3), (fd3, fe3, ff3))) in3
              · rw [r20.trans h]
                exact pick_in (highS_or ((fa4, fb4, fc4), (fd4, fe4, ff4))) in4
          have HW := Lib.hid (And.intro c19 (And.intro c20 (And.intro c21 (And.intro c22 g7))))
          have HVs := Lib.hid (And.intro rl1 (And.intro rh1 (And.intro rl2 (And.intro rh2 (And.intro rl3 (And.intro rh3 (And.intro rl4 (And.intro rh4 (And.intro k19 k20)))))))))
          have HVb := Lib.hid (And.intro rl5 (And.intro rh5 (And.intro rl6 (And.intro rh6 (And.intro rl7 (And.intro rh7 (And.intro rl8 (And.intro rh8 (And.intro k21 k22)))))))))
          clear hzb hzs nz1 nz2 nz3 nz4 f19 f20 f21 f22 c19 c20 c21 c22 g7 r19 r20 r21 r22 in1 in2 in3 in4 ll5 ll6 ll7 ll8 lh5 lh6 lh7 lh8 ok1 ok2 ok3 ok4 ok5 ok6 ok7 ok8 rl1 rh1 rl2 rh2 rl3 rh3 rl4 rh4 k19 k20 rl5 rh5 rl6 rh6 rl7 rh7 rl8 rh8 k21 k22
          obtain ⟨hS0, hS1, hS2, hS3, hS4, hS5⟩ := hS.cells
          obtain ⟨hT0, hT1, hT2, hT3, hT4, hT5⟩ := hT.cells
          go_wp2_with fail
          clear hS0 hS1 hS2 hS3 hS4 hS5 hT0 hT1 hT2 hT3 hT4 hT5
          rcases hcc with hc0 | hc0
          · have hcd : decide (0 < c) = true := decide_eq_true hc0
            clear hc0
            refine (smeet_none _ m s d n t e m2 s2 d2 n2 t2 e2 HJ.out.1 HJ.out.2.1 HJ.out.2.2.1 HJ.out.2.2.2.1 y17 v17 i17 HK.out.2.2.2.2.2.2.2.2.2.2.2.2.2.2.2.2.1 y18 v18 i18 HK.out.2.2.2.2.2.2.2.2.2.2.2.2.2.2.2.2.2 c HG.out.2.2.2.2.2.2 hcd).mono ?_
            rintro e' V5 ⟨rfl, hq⟩
            replace hb := below_next hb hq
            replace hS := hS.below hq
            replace hT := hT.below hq
            replace hD := hD.below hq
            clear hq
            replace hS := hS.alloc (Obj.cells #[Value.bool false, Value.string { data := #[] }, Value.int IntKind.i64 0, Value.bool false, Value.string { data := #[] }, Value.int IntKind.i64 0] 27)
            replace hT := hT.alloc (Obj.cells #[Value.bool false, Value.string { data := #[] }, Value.int IntKind.i64 0, Value.bool false, Value.string { data := #[] }, Value.int IntKind.i64 0] 27)
            replace hD := hD.alloc (Obj.cells #[Value.bool false, Value.string { data := #[] }, Value.int IntKind.i64 0, Value.bool false, Value.string { data := #[] }, Value.int IntKind.i64 0] 27)
            replace hb := hb.alloc hb.size (Obj.cells #[Value.bool false, Value.string { data := #[] }, Value.int IntKind.i64 0, Value.bool false, Value.string { data := #[] }, Value.int IntKind.i64 0] 27)
            obtain ⟨hT0, hT1, hT2, hT3, hT4, hT5⟩ := hT.cells
            obtain ⟨hS0, hS1, hS2, hS3, hS4, hS5⟩ := hS.cells
            go_wp2_with fail
            clear hT0 hT1 hT2 hT3 hT4 hT5 hS0 hS1 hS2 hS3 hS4 hS5
            generalize (V5.alloc (Obj.cells #[Value.bool false, Value.string { data := #[] }, Value.int IntKind.i64 0, Value.bool false, Value.string { data := #[] }, Value.int IntKind.i64 0] 27)) = W5 at *
            generalize V5.heap.size = PM at *
            refine (div_some _ m2 s2 d2 n2 t2 e2 m s d n t e p hpp HO.out.2.2.1 HO.out.2.2.2.1 HO.out.1 HO.out.2.1 HZs.out fa1 fb1 fc1 fd1 fe1 ff1 fa2 fb2 fc2 fd2 fe2 ff2 fa3 fb3 fc3 fd3 fe3 ff3 fa4 fb4 fc4 fd4 fe4 ff4 HVs.out.1 HVs.out.2.1 HVs.out.2.2.1 HVs.out.2.2.2.1 HVs.out.2.2.2.2.1 HVs.out.2.2.2.2.2.1 HVs.out.2.2.2.2.2.2.1 HVs.out.2.2.2.2.2.2.2.1 y19 v19 i19 HVs.out.2.2.2.2.2.2.2.2.1 y20 v20 i20 HVs.out.2.2.2.2.2.2.2.2.2).mono ?_
            rintro e' V6 ⟨rfl, hq⟩
            replace hb := below_next hb hq
            replace hT := hT.below hq
            replace hD := hD.below hq
            clear hq
            have hX := Sk.new V6 27 y19 v19 i19 y20 v20 i20
            replace hT := hT.alloc (Obj.cells #[Value.bool y19, Value.string v19, Value.int IntKind.i64 i19, Value.bool y20, Value.string v20, Value.int IntKind.i64 i20] 27)
            replace hD := hD.alloc (Obj.cells #[Value.bool y19, Value.string v19, Value.int IntKind.i64 i19, Value.bool y20, Value.string v20, Value.int IntKind.i64 i20] 27)
            replace hb := hb.alloc hb.size (Obj.cells #[Value.bool y19, Value.string v19, Value.int IntKind.i64 i19, Value.bool y20, Value.string v20, Value.int IntKind.i64 i20] 27)
            clear hS
            obtain ⟨hT0, hT1, hT2, hT3, hT4, hT5⟩ := hT.cells
            obtain ⟨hD0, hD1, hD2, hD3, hD4, hD5⟩ := hD.cells
            go_wp2_with fail
            clear hT0 hT1 hT2 hT3 hT4 hT5 hD0 hD1 hD2 hD3 hD4 hD5
            generalize (V6.alloc (Obj.cells #[Value.bool y19, Value.string v19, Value.int IntKind.i64 i19, Value.bool y20, Value.string v20, Value.int IntKind.i64 i20] 27)) = W6 at *
            generalize V6.heap.size = PX at *
            refine (div_some _ m2 s2 d2 n2 t2 e2 y1 v1 i1 y2 v2 i2 p hpp HO.out.2.2.1 HO.out.2.2.2.1 HO.out.2.2.2.2.2.2.1 HO.out.2.2.2.2.2.2.2 HZb.out fa5 fb5 fc5 fd5 fe5 ff5 fa6 fb6 fc6 fd6 fe6 ff6 fa7 fb7 fc7 fd7 fe7 ff7 fa8 fb8 fc8 fd8 fe8 ff8 HVb.out.1 HVb.out.2.1 HVb.out.2.2.1 HVb.out.2.2.2.1 HVb.out.2.2.2.2.1 HVb.out.2.2.2.2.2.1 HVb.out.2.2.2.2.2.2.1 HVb.out.2.2.2.2.2.2.2.1 y21 v21 i21 HVb.out.2.2.2.2.2.2.2.2.1 y22 v22 i22 HVb.out.2.2.2.2.2.2.2.2.2).mono ?_
            rintro e' V7 ⟨rfl, hq⟩
            replace hb := below_next hb hq
            replace hX := hX.below hq
            clear hq
            have hY := Sk.new V7 27 y21 v21 i21 y22 v22 i22
            replace hX := hX.alloc (Obj.cells #[Value.bool y21, Value.string v21, Value.int IntKind.i64 i21, Value.bool y22, Value.string v22, Value.int IntKind.i64 i22] 27)
            replace hb := hb.alloc hb.size (Obj.cells #[Value.bool y21, Value.string v21, Value.int IntKind.i64 i21, Value.bool y22, Value.string v22, Value.int IntKind.i64 i22] 27)
            clear hT hD
            obtain ⟨hX0, hX1, hX2, hX3, hX4, hX5⟩ := hX.cells
            obtain ⟨hY0, hY1, hY2, hY3, hY4, hY5⟩ := hY.cells
            go_wp2_with fail
            clear hX0 hX1 hX2 hX3 hX4 hX5 hY0 hY1 hY2 hY3 hY4 hY5
            refine (swithin_any _ y19 v19 i19 y20 v20 i20 y21 v21 i21 y22 v22 i22 HW.out.1 HW.out.2.1 HW.out.2.2.1 HW.out.2.2.2.1 true HW.out.2.2.2.2).mono ?_
            rintro e' V8 ⟨rfl, hq⟩
            replace hb := below_next hb hq
            clear hq
            clear hX hY
            go_wp2_with fail
            refine (sawake_any _).mono ?_
            rintro e' V9 ⟨rfl, hq⟩
            replace hb := below_next hb hq
            go_wp2
            go_ret
            exact ⟨rfl, hb⟩
          · have hcd : decide (0 < c) = false := decide_eq_false (by omega)
            have HM := Lib.hid (HG.out.2.2.2.2.2.1 (by omega))
            clear hc0
            refine (smeet_some _ m s d n t e m2 s2 d2 n2 t2 e2 HJ.out.1 HJ.out.2.1 HJ.out.2.2.1 HJ.out.2.2.2.1 y17 v17 i17 HK.out.2.2.2.2.2.2.2.2.2.2.2.2.2.2.2.2.1 y18 v18 i18 HK.out.2.2.2.2.2.2.2.2.2.2.2.2.2.2.2.2.2 c HG.out.2.2.2.2.2.2 hcd).mono ?_
            rintro e' V5 ⟨rfl, hq⟩
            replace hb := below_next hb hq
            replace hS := hS.below hq
            replace hT := hT.below hq
            replace hD := hD.below hq
            clear hq
            have hM := Sk.new V5 27 y17 v17 i17 y18 v18 i18
            replace hS := hS.alloc (Obj.cells #[Value.bool y17, Value.string v17, Value.int IntKind.i64 i17, Value.bool y18, Value.string v18, Value.int IntKind.i64 i18] 27)
            replace hT := hT.alloc (Obj.cells #[Value.bool y17, Value.string v17, Value.int IntKind.i64 i17, Value.bool y18, Value.string v18, Value.int IntKind.i64 i18] 27)
            replace hD := hD.alloc (Obj.cells #[Value.bool y17, Value.string v17, Value.int IntKind.i64 i17, Value.bool y18, Value.string v18, Value.int IntKind.i64 i18] 27)
            replace hb := hb.alloc hb.size (Obj.cells #[Value.bool y17, Value.string v17, Value.int IntKind.i64 i17, Value.bool y18, Value.string v18, Value.int IntKind.i64 i18] 27)
            obtain ⟨hT0, hT1, hT2, hT3, hT4, hT5⟩ := hT.cells
            obtain ⟨hS0, hS1, hS2, hS3, hS4, hS5⟩ := hS.cells
            obtain ⟨hM0, hM1, hM2, hM3, hM4, hM5⟩ := hM.cells
            go_wp2_with fail
            clear hT0 hT1 hT2 hT3 hT4 hT5 hS0 hS1 hS2 hS3 hS4 hS5 hM0 hM1 hM2 hM3 hM4 hM5
            generalize (V5.alloc (Obj.cells #[Value.bool y17, Value.string v17, Value.int IntKind.i64 i17, Value.bool y18, Value.string v18, Value.int IntKind.i64 i18] 27)) = W5 at *
            generalize V5.heap.size = PM at *
            refine (swithin_any _ y17 v17 i17 y18 v18 i18 m s d n t e HC.out.2.2.2.2.2.2.2.2.2.2.2.2.2.2.1 HC.out.2.2.2.2.2.2.2.2.2.2.2.2.2.2.2 HO.out.1.ok3 HO.out.2.1.ok3 true HM.out.1).mono ?_
            rintro e' V51 ⟨rfl, hq⟩
            replace hb := below_next hb hq
            replace hS := hS.below hq
            replace hT := hT.below hq
            replace hD := hD.below hq
            replace hM := hM.below hq
            clear hq
            obtain ⟨hT0, hT1, hT2, hT3, hT4, hT5⟩ := hT.cells
            obtain ⟨hM0, hM1, hM2, hM3, hM4, hM5⟩ := hM.cells
            go_wp2_with fail
            clear hT0 hT1 hT2 hT3 hT4 hT5 hM0 hM1 hM2 hM3 hM4 hM5
            refine (swithin_any _ y17 v17 i17 y18 v18 i18 m2 s2 d2 n2 t2 e2 HC.out.2.2.2.2.2.2.2.2.2.2.2.2.2.2.1 HC.out.2.2.2.2.2.2.2.2.2.2.2.2.2.2.2 HO.out.2.2.1.ok3 HO.out.2.2.2.1.ok3 true HM.out.2).mono ?_
            rintro e' V52 ⟨rfl, hq⟩
            replace hb := below_next hb hq
            replace hS := hS.below hq
            replace hT := hT.below hq
            replace hD := hD.below hq
            clear hq
            clear hM
            obtain ⟨hT0, hT1, hT2, hT3, hT4, hT5⟩ := hT.cells
            obtain ⟨hS0, hS1, hS2, hS3, hS4, hS5⟩ := hS.cells
            go_wp2_with fail
            clear hT0 hT1 hT2 hT3 hT4 hT5 hS0 hS1 hS2 hS3 hS4 hS5
            refine (div_some _ m2 s2 d2 n2 t2 e2 m s d n t e p hpp HO.out.2.2.1 HO.out.2.2.2.1 HO.out.1 HO.out.2.1 HZs.out fa1 fb1 fc1 fd1 fe1 ff1 fa2 fb2 fc2 fd2 fe2 ff2 fa3 fb3 fc3 fd3 fe3 ff3 fa4 fb4 fc4 fd4 fe4 ff4 HVs.out.1 HVs.out.2.1 HVs.out.2.2.1 HVs.out.2.2.2.1 HVs.out.2.2.2.2.1 HVs.out.2.2.2.2.2.1 HVs.out.2.2.2.2.2.2.1 HVs.out.2.2.2.2.2.2.2.1 y19 v19 i19 HVs.out.2.2.2.2.2.2.2.2.1 y20 v20 i20 HVs.out.2.2.2.2.2.2.2.2.2).mono ?_
            rintro e' V6 ⟨rfl, hq⟩
            replace hb := below_next hb hq
            replace hT := hT.below hq
            replace hD := hD.below hq
            clear hq
            have hX := Sk.new V6 27 y19 v19 i19 y20 v20 i20
            replace hT := hT.alloc (Obj.cells #[Value.bool y19, Value.string v19, Value.int IntKind.i64 i19, Value.bool y20, Value.string v20, Value.int IntKind.i64 i20] 27)
            replace hD := hD.alloc (Obj.cells #[Value.bool y19, Value.string v19, Value.int IntKind.i64 i19, Value.bool y20, Value.string v20, Value.int IntKind.i64 i20] 27)
            replace hb := hb.alloc hb.size (Obj.cells #[Value.bool y19, Value.string v19, Value.int IntKind.i64 i19, Value.bool y20, Value.string v20, Value.int IntKind.i64 i20] 27)
            clear hS
            obtain ⟨hT0, hT1, hT2, hT3, hT4, hT5⟩ := hT.cells
            obtain ⟨hD0, hD1, hD2, hD3, hD4, hD5⟩ := hD.cells
            go_wp2_with fail
            clear hT0 hT1 hT2 hT3 hT4 hT5 hD0 hD1 hD2 hD3 hD4 hD5
            generalize (V6.alloc (Obj.cells #[Value.bool y19, Value.string v19, Value.int IntKind.i64 i19, Value.bool y20, Value.string v20, Value.int IntKind.i64 i20] 27)) = W6 at *
            generalize V6.heap.size = PX at *
            refine (div_some _ m2 s2 d2 n2 t2 e2 y1 v1 i1 y2 v2 i2 p hpp HO.out.2.2.1 HO.out.2.2.2.1 HO.out.2.2.2.2.2.2.1 HO.out.2.2.2.2.2.2.2 HZb.out fa5 fb5 fc5 fd5 fe5 ff5 fa6 fb6 fc6 fd6 fe6 ff6 fa7 fb7 fc7 fd7 fe7 ff7 fa8 fb8 fc8 fd8 fe8 ff8 HVb.out.1 HVb.out.2.1 HVb.out.2.2.1 HVb.out.2.2.2.1 HVb.out.2.2.2.2.1 HVb.out.2.2.2.2.2.1 HVb.out.2.2.2.2.2.2.1 HVb.out.2.2.2.2.2.2.2.1 y21 v21 i21 HVb.out.2.2.2.2.2.2.2.2.1 y22 v22 i22 HVb.out.2.2.2.2.2.2.2.2.2).mono ?_
            rintro e' V7 ⟨rfl, hq⟩
            replace hb := below_next hb hq
            replace hX := hX.below hq
            clear hq
            have hY := Sk.new V7 27 y21 v21 i21 y22 v22 i22
            replace hX := hX.alloc (Obj.cells #[Value.bool y21, Value.string v21, Value.int IntKind.i64 i21, Value.bool y22, Value.string v22, Value.int IntKind.i64 i22] 27)
            replace hb := hb.alloc hb.size (Obj.cells #[Value.bool y21, Value.string v21, Value.int IntKind.i64 i21, Value.bool y22, Value.string v22, Value.int IntKind.i64 i22] 27)
            clear hT hD
            obtain ⟨hX0, hX1, hX2, hX3, hX4, hX5⟩ := hX.cells
            obtain ⟨hY0, hY1, hY2, hY3, hY4, hY5⟩ := hY.cells
            go_wp2_with fail
            clear hX0 hX1 hX2 hX3 hX4 hX5 hY0 hY1 hY2 hY3 hY4 hY5
            refine (swithin_any _ y19 v19 i19 y20 v20 i20 y21 v21 i21 y22 v22 i22 HW.out.1 HW.out.2.1 HW.out.2.2.1 HW.out.2.2.2.1 true HW.out.2.2.2.2).mono ?_
            rintro e' V8 ⟨rfl, hq⟩
            replace hb := below_next hb hq
            clear hq
            clear hX hY
            go_wp2_with fail
            refine (sawake_any _).mono ?_
            rintro e' V9 ⟨rfl, hq⟩
            replace hb := below_next hb hq
            go_wp2
            go_ret
            exact ⟨rfl, hb⟩
end Go.Proofs.YthggjlkeadjhcaaGreatDoor
