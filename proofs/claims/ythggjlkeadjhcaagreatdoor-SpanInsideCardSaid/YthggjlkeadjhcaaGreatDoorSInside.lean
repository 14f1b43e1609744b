/- SpanInside (begun). -/
import Derived.Test.YthggjlkeadjhcaaGreatDoorSPlace
namespace Go.Proofs.YthggjlkeadjhcaaGreatDoor
open Go.RowKit Go.Shelf

theorem sfar_to2 (w : World) (ad : Option Addr) (l : List SV) (n c : Nat) (hn : l.length = n) (hmax : n ≤ 4611686018427387904) (hl : SAt w ad l) {r : Bool} (hr : farD5 l = r) :
    Calls Tryz.prog 10 #[.slice ad n c] w (Ret (.bool r) w) := by
  refine (sfar_any w ad l n c hn hmax hl).mono ?_
  rintro e V ⟨rfl, hq⟩
  exact ⟨by rw [hr], hq⟩
theorem far_two {x y : SV} (h : farD5 [x, y] = false) : ((x.1.2.1.size ≤ 40 ∧ -300 ≤ x.1.2.2 ∧ x.1.2.2 ≤ 300) ∧ (x.2.2.1.size ≤ 40 ∧ -300 ≤ x.2.2.2 ∧ x.2.2.2 ≤ 300)) ∧
    ((y.1.2.1.size ≤ 40 ∧ -300 ≤ y.1.2.2 ∧ y.1.2.2 ≤ 300) ∧ (y.2.2.1.size ≤ 40 ∧ -300 ≤ y.2.2.2 ∧ y.2.2.2 ≤ 300)) := by
  have h1 : longD 40 300 [x.1, x.2] = false ∧ longD 40 300 [y.1, y.2] = false := by
    unfold farD5 at h
    simpa using h
  exact ⟨⟨longd_false h1.1 x.1 (by simp), longd_false h1.1 x.2 (by simp)⟩, ⟨longd_false h1.2 y.1 (by simp), longd_false h1.2 y.2 (by simp)⟩⟩
theorem rat_add_le {a b c d : Rat} (h : a ≤ b) (k : c ≤ d) : a + c ≤ b + d := by grind
theorem sum_low2 (x y : SV) : sumD ([x, y].map lowS) 2 = dlo (nvl x.1) (nvl x.2) + dlo (nvl y.1) (nvl y.2) := by
  rw [← lowN_val, ← lowN_val]
  show (0 + nvl (lowN x.1 x.2)) + nvl (lowN y.1 y.2) = _
  rw [Dyadic.zero_add]
theorem sum_high2 (x y : SV) : sumD ([x, y].map highS) 2 = dhi (nvl x.1) (nvl x.2) + dhi (nvl y.1) (nvl y.2) := by
  rw [← highN_val, ← highN_val]
  show (0 + nvl (highN x.1 x.2)) + nvl (highN y.1 y.2) = _
  rw [Dyadic.zero_add]
theorem has_of {x y c : Dyadic} (h1 : x.toRat ≤ c.toRat) (h2 : c.toRat ≤ y.toRat) : hasD (dlo x y) (dhi x y) c = true := by
  rw [hasD_iff]
  have a := dlo_spec x y
  have b := dhi_spec x y
  exact ⟨by grind, by grind⟩
theorem corner4 {P : Dyadic → Dyadic → Prop} {x y z u : Dyadic} (h1 : P x z) (h2 : P x u) (h3 : P y z) (h4 : P y u) : P (dlo x y) (dlo z u) ∧ P (dlo x y) (dhi z u) ∧ P (dhi x y) (dlo z u) ∧ P (dhi x y) (dhi z u) := by
  rcases (dlo_spec x y).2.2 with a | a <;> rcases (dhi_spec x y).2.2 with b | b <;> rcases (dlo_spec z u).2.2 with c | c <;> rcases (dhi_spec z u).2.2 with d | d <;> (rw [a, b, c, d]; exact ⟨by assumption, by assumption, by assumption, by assumption⟩)
theorem in_mul {x y z u a b lo hi : Dyadic} (l1 : lo.toRat ≤ (x * z).toRat) (l2 : lo.toRat ≤ (x * u).toRat) (l3 : lo.toRat ≤ (y * z).toRat) (l4 : lo.toRat ≤ (y * u).toRat)
    (g1 : (x * z).toRat ≤ hi.toRat) (g2 : (x * u).toRat ≤ hi.toRat) (g3 : (y * z).toRat ≤ hi.toRat) (g4 : (y * u).toRat ≤ hi.toRat)
    (ha : (dlo x y).toRat ≤ a.toRat ∧ a.toRat ≤ (dhi x y).toRat) (hb : (dlo z u).toRat ≤ b.toRat ∧ b.toRat ≤ (dhi z u).toRat) : lo.toRat ≤ (a * b).toRat ∧ (a * b).toRat ≤ hi.toRat := by
  obtain ⟨c1, c2, c3, c4⟩ := corner4 (P := fun p q => lo.toRat ≤ (p * q).toRat ∧ (p * q).toRat ≤ hi.toRat) ⟨l1, g1⟩ ⟨l2, g2⟩ ⟨l3, g3⟩ ⟨l4, g4⟩
  simp only [Dyadic.toRat_mul] at c1 c2 c3 c4 ⊢
  exact ⟨mul_low c1.1 c2.1 c3.1 c4.1 ha.1 ha.2 hb.1 hb.2, mul_high c1.2 c2.2 c3.2 c4.2 ha.1 ha.2 hb.1 hb.2⟩
theorem form_same {X : Dyadic} {u : Bool} {v : ByteArray} {x : Int} {z : Bool} {o : ByteArray} {e : Int} (k : df X = nu u v x) (ok : Ok3 v x) (h : df (nv u v x) = nu z o e) : Ok3 o e := by
  rw [form_nv k, k] at h
  obtain ⟨_, h2, h3⟩ := nu_inj h
  rw [← h2, ← h3]
  exact ok
theorem low_same {X Y : Dyadic} {x y : NV} (kx : df X = nu x.1 x.2.1 x.2.2) (ky : df Y = nu y.1 y.2.1 y.2.2) (ox : Ok3 x.2.1 x.2.2) (oy : Ok3 y.2.1 y.2.2) {z : Bool} {o : ByteArray} {e : Int} (h : df (nvl (lowS (x, y))) = nu z o e) : Ok3 o e := by
  unfold lowS lowN at h
  split at h
  · exact form_same ky oy h
  · exact form_same kx ox h
theorem high_same {X Y : Dyadic} {x y : NV} (kx : df X = nu x.1 x.2.1 x.2.2) (ky : df Y = nu y.1 y.2.1 y.2.2) (ox : Ok3 x.2.1 x.2.2) (oy : Ok3 y.2.1 y.2.2) {z : Bool} {o : ByteArray} {e : Int} (h : df (nvl (highS (x, y))) = nu z o e) : Ok3 o e := by
  unfold highS highN at h
  split at h
  · exact form_same kx ox h
  · exact form_same ky oy h
theorem not_zero {m : Bool} {s : ByteArray} {d : Int} (h : (nv m s d).toRat ≠ 0) : wv m s ≠ 0 := by
  intro g
  apply h
  unfold nv
  rw [g, ofI_toRat, show ((0 : Int) : Rat) = 0 from rfl, Rat.zero_mul]
theorem in_quo {x y z u a b : Dyadic} {p : Int} {lo hi : Dyadic} (hz : hasD (dlo z u) (dhi z u) 0 = false) (l1 : lo.toRat ≤ (qlo x z p).toRat) (l2 : lo.toRat ≤ (qlo x u p).toRat) (l3 : lo.toRat ≤ (qlo y z p).toRat) (l4 : lo.toRat ≤ (qlo y u p).toRat)
    (g1 : (qhi x z p).toRat ≤ hi.toRat) (g2 : (qhi x u p).toRat ≤ hi.toRat) (g3 : (qhi y z p).toRat ≤ hi.toRat) (g4 : (qhi y u p).toRat ≤ hi.toRat)
    (ha : (dlo x y).toRat ≤ a.toRat ∧ a.toRat ≤ (dhi x y).toRat) (hb : (dlo z u).toRat ≤ b.toRat ∧ b.toRat ≤ (dhi z u).toRat) : lo.toRat ≤ (qlo a b p).toRat ∧ (qlo a b p).toRat ≤ (qhi a b p).toRat ∧ (qhi a b p).toRat ≤ hi.toRat := by
  have hz' : 0 < (dlo z u).toRat ∨ (dhi z u).toRat < 0 := by
    by_cases h1 : 0 < (dlo z u).toRat
    · exact .inl h1
    · by_cases h2 : (dhi z u).toRat < 0
      · exact .inr h2
      · have := (hasD_iff (dlo z u) (dhi z u) 0).2 (by rw [Dyadic.toRat_zero]; exact ⟨by grind, by grind⟩)
        rw [this] at hz
        cases hz
  obtain ⟨c1, c2, c3, c4⟩ := corner4 (P := fun p' q => lo.toRat ≤ (qlo p' q p).toRat ∧ (qhi p' q p).toRat ≤ hi.toRat) ⟨l1, g1⟩ ⟨l2, g2⟩ ⟨l3, g3⟩ ⟨l4, g4⟩
  refine ⟨?_, Rat.le_trans (qlo_le a b p) (qhi_ge a b p), ?_⟩
  · rcases quo_corner_low hz' ha.1 ha.2 hb.1 hb.2 with h | h | h | h
    · exact Rat.le_trans c1.1 (qlo_mono p h)
    · exact Rat.le_trans c2.1 (qlo_mono p h)
    · exact Rat.le_trans c3.1 (qlo_mono p h)
    · exact Rat.le_trans c4.1 (qlo_mono p h)
  · rcases quo_corner_high hz' ha.1 ha.2 hb.1 hb.2 with h | h | h | h
    · exact Rat.le_trans (qhi_mono p h) c1.2
    · exact Rat.le_trans (qhi_mono p h) c2.2
    · exact Rat.le_trans (qhi_mono p h) c3.2
    · exact Rat.le_trans (qhi_mono p h) c4.2
theorem in_nonzero {z u b : Dyadic} (hz : hasD (dlo z u) (dhi z u) 0 = false) (hb : (dlo z u).toRat ≤ b.toRat ∧ b.toRat ≤ (dhi z u).toRat) : b.toRat ≠ 0 := by
  intro g
  have := (hasD_iff (dlo z u) (dhi z u) 0).2 (by rw [Dyadic.toRat_zero, ← g]; exact hb)
  rw [this] at hz
  cases hz

set_option maxRecDepth 100000 in
set_option maxHeartbeats 16000000 in
theorem inside_law (w : World) (m : Bool) (s : ByteArray) (d : Int) (n : Bool) (t : ByteArray) (e : Int) (_w1 : s.size ≤ maxLen) (_x1 : (Lit.int .i64 d).wf = true) (_y1 : t.size ≤ maxLen) (_z1 : (Lit.int .i64 e).wf = true)
    (m2 : Bool) (s2 : ByteArray) (d2 : Int) (n2 : Bool) (t2 : ByteArray) (e2 : Int) (_w2 : s2.size ≤ maxLen) (_x2 : (Lit.int .i64 d2).wf = true) (_y2 : t2.size ≤ maxLen) (_z2 : (Lit.int .i64 e2).wf = true) (i : Int) (_w3 : (Lit.int .u8 i).wf = true) (j : Int) (_w4 : (Lit.int .u8 j).wf = true) (p : Int) (_w5 : (Lit.int .i64 p).wf = true) :
    Calls Tryz.prog 7 #[.agg #[.bool m, .string s, .int .i64 d, .bool n, .string t, .int .i64 e], .agg #[.bool m2, .string s2, .int .i64 d2, .bool n2, .string t2, .int .i64 e2], .int .u8 i, .int .u8 j, .int .i64 p] w (Ret (.bool true) w) := by
  have hi : 0 ≤ i ∧ i ≤ 255 := (by simpa [Lit.wf] using _w3 : IntKind.u8.min ≤ i ∧ i ≤ IntKind.u8.max)
  have hj : 0 ≤ j ∧ j ≤ 255 := (by simpa [Lit.wf] using _w4 : IntKind.u8.min ≤ j ∧ j ≤ IntKind.u8.max)
  clear _w1 _x1 _y1 _z1 _w2 _x2 _y2 _z2 _w3 _w4 _w5
  obtain ⟨r2, hr2⟩ : ∃ r, farD5 [((m, s, d), (n, t, e)), ((m2, s2, d2), (n2, t2, e2))] = r := ⟨_, rfl⟩
  have HR2 := Lib.hid hr2
  cases r2 with
  | true =>
    clear hr2 hi hj
    go_enter Tryz.func7, Tryz.ntmps7
    go_wp2_with fail
    have hS := Sk.new w 27 m s d n t e
    have hb := (Below.refl w.heap.size w).alloc (Nat.le_refl _) (Obj.cells #[Value.bool m, Value.string s, Value.int IntKind.i64 d, Value.bool n, Value.string t, Value.int IntKind.i64 e] 27)
    have hT := Sk.new ((w.alloc (Obj.cells #[Value.bool m, Value.string s, Value.int IntKind.i64 d, Value.bool n, Value.string t, Value.int IntKind.i64 e] 27))) 27 m2 s2 d2 n2 t2 e2
    simp only [World.size_alloc] at hT
    replace hS := hS.alloc (Obj.cells #[Value.bool m2, Value.string s2, Value.int IntKind.i64 d2, Value.bool n2, Value.string t2, Value.int IntKind.i64 e2] 27)
    replace hb := hb.alloc (by simp only [World.size_alloc]; omega) (Obj.cells #[Value.bool m2, Value.string s2, Value.int IntKind.i64 d2, Value.bool n2, Value.string t2, Value.int IntKind.i64 e2] 27)
    have hrow := SAt.new ((w.alloc (Obj.cells #[Value.bool m, Value.string s, Value.int IntKind.i64 d, Value.bool n, Value.string t, Value.int IntKind.i64 e] 27)).alloc (Obj.cells #[Value.bool m2, Value.string s2, Value.int IntKind.i64 d2, Value.bool n2, Value.string t2, Value.int IntKind.i64 e2] 27)) 27 [((m, s, d), (n, t, e)), ((m2, s2, d2), (n2, t2, e2))] #[.bool m, .string s, .int .i64 d, .bool n, .string t, .int .i64 e, .bool m2, .string s2, .int .i64 d2, .bool n2, .string t2, .int .i64 e2] rfl
    simp only [World.size_alloc] at hrow
    replace hS := hS.alloc (Obj.cells #[Value.bool m, Value.string s, Value.int IntKind.i64 d, Value.bool n, Value.string t, Value.int IntKind.i64 e, Value.bool m2, Value.string s2, Value.int IntKind.i64 d2, Value.bool n2, Value.string t2, Value.int IntKind.i64 e2] 27)
    replace hT := hT.alloc (Obj.cells #[Value.bool m, Value.string s, Value.int IntKind.i64 d, Value.bool n, Value.string t, Value.int IntKind.i64 e, Value.bool m2, Value.string s2, Value.int IntKind.i64 d2, Value.bool n2, Value.string t2, Value.int IntKind.i64 e2] 27)
    replace hb := hb.alloc (by simp only [World.size_alloc]; omega) (Obj.cells #[Value.bool m, Value.string s, Value.int IntKind.i64 d, Value.bool n, Value.string t, Value.int IntKind.i64 e, Value.bool m2, Value.string s2, Value.int IntKind.i64 d2, Value.bool n2, Value.string t2, Value.int IntKind.i64 e2] 27)
    generalize (((w.alloc (Obj.cells #[Value.bool m, Value.string s, Value.int IntKind.i64 d, Value.bool n, Value.string t, Value.int IntKind.i64 e] 27)).alloc (Obj.cells #[Value.bool m2, Value.string s2, Value.int IntKind.i64 d2, Value.bool n2, Value.string t2, Value.int IntKind.i64 e2] 27)).alloc (Obj.cells #[Value.bool m, Value.string s, Value.int IntKind.i64 d, Value.bool n, Value.string t, Value.int IntKind.i64 e, Value.bool m2, Value.string s2, Value.int IntKind.i64 d2, Value.bool n2, Value.string t2, Value.int IntKind.i64 e2] 27)) = W0 at *
    refine (sfar_to2 _ _ [((m, s, d), (n, t, e)), ((m2, s2, d2), (n2, t2, e2))] 2 2 rfl (by omega) hrow HR2.out).mono ?_
    rintro e' W ⟨rfl, hq⟩
    replace hb := below_next hb hq
    replace hS := hS.below hq
    replace hT := hT.below hq
    clear hq hrow
    clear hS hT
    go_wp2_with fail
    refine (sawake_any _).mono ?_
    rintro e' V9 ⟨rfl, hq⟩
    replace hb := below_next hb hq
    go_wp2
    go_ret
    exact ⟨rfl, hb⟩
  | false =>
    by_cases p1 : p < -300
    · have dp1 : decide (p < -300) = true := decide_eq_true p1
      clear hr2 hi hj
      go_enter Tryz.func7, Tryz.ntmps7
      go_wp2_with fail
      have hS := Sk.new w 27 m s d n t e
      have hb := (Below.refl w.heap.size w).alloc (Nat.le_refl _) (Obj.cells #[Value.bool m, Value.string s, Value.int IntKind.i64 d, Value.bool n, Value.string t, Value.int IntKind.i64 e] 27)
      have hT := Sk.new ((w.alloc (Obj.cells #[Value.bool m, Value.string s, Value.int IntKind.i64 d, Value.bool n, Value.string t, Value.int IntKind.i64 e] 27))) 27 m2 s2 d2 n2 t2 e2
      simp only [World.size_alloc] at hT
      replace hS := hS.alloc (Obj.cells #[Value.bool m2, Value.string s2, Value.int IntKind.i64 d2, Value.bool n2, Value.string t2, Value.int IntKind.i64 e2] 27)
      replace hb := hb.alloc (by simp only [World.size_alloc]; omega) (Obj.cells #[Value.bool m2, Value.string s2, Value.int IntKind.i64 d2, Value.bool n2, Value.string t2, Value.int IntKind.i64 e2] 27)
      have hrow := SAt.new ((w.alloc (Obj.cells #[Value.bool m, Value.string s, Value.int IntKind.i64 d, Value.bool n, Value.string t, Value.int IntKind.i64 e] 27)).alloc (Obj.cells #[Value.bool m2, Value.string s2, Value.int IntKind.i64 d2, Value.bool n2, Value.string t2, Value.int IntKind.i64 e2] 27)) 27 [((m, s, d), (n, t, e)), ((m2, s2, d2), (n2, t2, e2))] #[.bool m, .string s, .int .i64 d, .bool n, .string t, .int .i64 e, .bool m2, .string s2, .int .i64 d2, .bool n2, .string t2, .int .i64 e2] rfl
      simp only [World.size_alloc] at hrow
      replace hS := hS.alloc (Obj.cells #[Value.bool m, Value.string s, Value.int IntKind.i64 d, Value.bool n, Value.string t, Value.int IntKind.i64 e, Value.bool m2, Value.string s2, Value.int IntKind.i64 d2, Value.bool n2, Value.string t2, Value.int IntKind.i64 e2] 27)
      replace hT := hT.alloc (Obj.cells #[Value.bool m, Value.string s, Value.int IntKind.i64 d, Value.bool n, Value.string t, Value.int IntKind.i64 e, Value.bool m2, Value.string s2, Value.int IntKind.i64 d2, Value.bool n2, Value.string t2, Value.int IntKind.i64 e2] 27)
      replace hb := hb.alloc (by simp only [World.size_alloc]; omega) (Obj.cells #[Value.bool m, Value.string s, Value.int IntKind.i64 d, Value.bool n, Value.string t, Value.int IntKind.i64 e, Value.bool m2, Value.string s2, Value.int IntKind.i64 d2, Value.bool n2, Value.string t2, Value.int IntKind.i64 e2] 27)
      generalize (((w.alloc (Obj.cells #[Value.bool m, Value.string s, Value.int IntKind.i64 d, Value.bool n, Value.string t, Value.int IntKind.i64 e] 27)).alloc (Obj.cells #[Value.bool m2, Value.string s2, Value.int IntKind.i64 d2, Value.bool n2, Value.string t2, Value.int IntKind.i64 e2] 27)).alloc (Obj.cells #[Value.bool m, Value.string s, Value.int IntKind.i64 d, Value.bool n, Value.string t, Value.int IntKind.i64 e, Value.bool m2, Value.string s2, Value.int IntKind.i64 d2, Value.bool n2, Value.string t2, Value.int IntKind.i64 e2] 27)) = W0 at *
      refine (sfar_to2 _ _ [((m, s, d), (n, t, e)), ((m2, s2, d2), (n2, t2, e2))] 2 2 rfl (by omega) hrow HR2.out).mono ?_
      rintro e' W ⟨rfl, hq⟩
      replace hb := below_next hb hq
      replace hS := hS.below hq
      replace hT := hT.below hq
      clear hq hrow
      clear hS hT
      go_wp2_with fail
      refine (sawake_any _).mono ?_
      rintro e' V9 ⟨rfl, hq⟩
      replace hb := below_next hb hq
      go_wp2
      go_ret
      exact ⟨rfl, hb⟩
    · have dp1 : decide (p < -300) = false := decide_eq_false p1
      by_cases p2 : 300 < p
      · have dp2 : decide (300 < p) = true := decide_eq_true p2
        clear hr2 hi hj
        go_enter Tryz.func7, Tryz.ntmps7
        go_wp2_with fail
        have hS := Sk.new w 27 m s d n t e
        have hb := (Below.refl w.heap.size w).alloc (Nat.le_refl _) (Obj.cells #[Value.bool m, Value.string s, Value.int IntKind.i64 d, Value.bool n, Value.string t, Value.int IntKind.i64 e] 27)
        have hT := Sk.new ((w.alloc (Obj.cells #[Value.bool m, Value.string s, Value.int IntKind.i64 d, Value.bool n, Value.string t, Value.int IntKind.i64 e] 27))) 27 m2 s2 d2 n2 t2 e2
        simp only [World.size_alloc] at hT
        replace hS := hS.alloc (Obj.cells #[Value.bool m2, Value.string s2, Value.int IntKind.i64 d2, Value.bool n2, Value.string t2, Value.int IntKind.i64 e2] 27)
        replace hb := hb.alloc (by simp only [World.size_alloc]; omega) (Obj.cells #[Value.bool m2, Value.string s2, Value.int IntKind.i64 d2, Value.bool n2, Value.string t2, Value.int IntKind.i64 e2] 27)
        have hrow := SAt.new ((w.alloc (Obj.cells #[Value.bool m, Value.string s, Value.int IntKind.i64 d, Value.bool n, Value.string t, Value.int IntKind.i64 e] 27)).alloc (Obj.cells #[Value.bool m2, Value.string s2, Value.int IntKind.i64 d2, Value.bool n2, Value.string t2, Value.int IntKind.i64 e2] 27)) 27 [((m, s, d), (n, t, e)), ((m2, s2, d2), (n2, t2, e2))] #[.bool m, .string s, .int .i64 d, .bool n, .string t, .int .i64 e, .bool m2, .string s2, .int .i64 d2, .bool n2, .string t2, .int .i64 e2] rfl
        simp only [World.size_alloc] at hrow
        replace hS := hS.alloc (Obj.cells #[Value.bool m, Value.string s, Value.int IntKind.i64 d, Value.bool n, Value.string t, Value.int IntKind.i64 e, Value.bool m2, Value.string s2, Value.int IntKind.i64 d2, Value.bool n2, Value.string t2, Value.int IntKind.i64 e2] 27)
        replace hT := hT.alloc (Obj.cells #[Value.bool m, Value.string s, Value.int IntKind.i64 d, Value.bool n, Value.string t, Value.int IntKind.i64 e, Value.bool m2, Value.string s2, Value.int IntKind.i64 d2, Value.bool n2, Value.string t2, Value.int IntKind.i64 e2] 27)
        replace hb := hb.alloc (by simp only [World.size_alloc]; omega) (Obj.cells #[Value.bool m, Value.string s, Value.int IntKind.i64 d, Value.bool n, Value.string t, Value.int IntKind.i64 e, Value.bool m2, Value.string s2, Value.int IntKind.i64 d2, Value.bool n2, Value.string t2, Value.int IntKind.i64 e2] 27)
        generalize (((w.alloc (Obj.cells #[Value.bool m, Value.string s, Value.int IntKind.i64 d, Value.bool n, Value.string t, Value.int IntKind.i64 e] 27)).alloc (Obj.cells #[Value.bool m2, Value.string s2, Value.int IntKind.i64 d2, Value.bool n2, Value.string t2, Value.int IntKind.i64 e2] 27)).alloc (Obj.cells #[Value.bool m, Value.string s, Value.int IntKind.i64 d, Value.bool n, Value.string t, Value.int IntKind.i64 e, Value.bool m2, Value.string s2, Value.int IntKind.i64 d2, Value.bool n2, Value.string t2, Value.int IntKind.i64 e2] 27)) = W0 at *
        refine (sfar_to2 _ _ [((m, s, d), (n, t, e)), ((m2, s2, d2), (n2, t2, e2))] 2 2 rfl (by omega) hrow HR2.out).mono ?_
        rintro e' W ⟨rfl, hq⟩
        replace hb := below_next hb hq
        replace hS := hS.below hq
        replace hT := hT.below hq
        clear hq hrow
        clear hS hT
        go_wp2_with fail
        refine (sawake_any _).mono ?_
        rintro e' V9 ⟨rfl, hq⟩
        replace hb := below_next hb hq
        go_wp2
        go_ret
        exact ⟨rfl, hb⟩
      · have dp2 : decide (300 < p) = false := decide_eq_false p2
        have hs := far_two hr2
        simp only at hs
        clear hr2
        obtain ⟨za, oa, ea, ka⟩ := df_some (placeD (dlo (nv m s d) (nv n t e)) (dhi (nv m s d) (nv n t e)) i)
        obtain ⟨zb, ob, eb, kb⟩ := df_some (placeD (dlo (nv m2 s2 d2) (nv n2 t2 e2)) (dhi (nv m2 s2 d2) (nv n2 t2 e2)) j)
        have pa := place_bnd (m := m) (n := n) hs.1.1 hs.1.2 hi
        have pb := place_bnd (m := m2) (n := n2) hs.2.1 hs.2.2 hj
        have ba := pa.2.2.2.2.2.2
        have bb := pb.2.2.2.2.2.2
        have va := form_nv ka
        have vb := form_nv kb
        have la := place_in hi.1 hi.2 (dlo_dhi (nv m s d) (nv n t e))
        have lb := place_in hj.1 hj.2 (dlo_dhi (nv m2 s2 d2) (nv n2 t2 e2))
        have oka := ba.ok1 (by omega) (by omega) (by omega) ka
        have okb := bb.ok1 (by omega) (by omega) (by omega) kb
        rw [← va] at la ba
        rw [← vb] at lb bb
        have g1 := (hasD_iff _ _ _).2 la
        have g2 := (hasD_iff _ _ _).2 lb
        have kS : Ok1 s d := by unfold Ok1; omega
        have kT : Ok1 t e := by unfold Ok1; omega
        have kS2 : Ok1 s2 d2 := by unfold Ok1; omega
        have kT2 : Ok1 t2 e2 := by unfold Ok1; omega
        have hall : ∀ x ∈ [((m, s, d), (n, t, e)), ((m2, s2, d2), (n2, t2, e2))], Ok3 x.1.2.1 x.1.2.2 ∧ Ok3 x.2.2.1 x.2.2.2 := by
          intro x hx
          simp at hx
          rcases hx with rfl | rfl
          · exact ⟨kS.ok3, kT.ok3⟩
          · exact ⟨kS2.ok3, kT2.ok3⟩
        obtain ⟨z3, o3, e3, k3⟩ := df_some (sumD ([((m, s, d), (n, t, e)), ((m2, s2, d2), (n2, t2, e2))].map lowS) 2)
        obtain ⟨z4, o4, e4, k4⟩ := df_some (sumD ([((m, s, d), (n, t, e)), ((m2, s2, d2), (n2, t2, e2))].map highS) 2)
        obtain ⟨z5, o5, e5, k5⟩ := df_some (nv za oa ea + nv zb ob eb)
        have v3 := form_nv k3
        have v4 := form_nv k4
        have v5 := form_nv k5
        rw [sum_low2] at v3
        rw [sum_high2] at v4
        have c3 : Ok3 o3 e3 := (pa.1.add pb.1).ok (by omega) (by omega) (by rw [sum_low2] at k3; exact k3)
        have c4 : Ok3 o4 e4 := (pa.2.1.add pb.2.1).ok (by omega) (by omega) (by rw [sum_high2] at k4; exact k4)
        have c5 : Ok3 o5 e5 := (ba.add bb).ok (by omega) (by omega) k5
        have g3 : hasD (dlo (nv z3 o3 e3) (nv z4 o4 e4)) (dhi (nv z3 o3 e3) (nv z4 o4 e4)) (nv z5 o5 e5) = true := by
          rw [v3, v4, v5]
          refine has_of ?_ ?_ <;> simp only [Dyadic.toRat_add, nvl]
          · exact rat_add_le la.1 lb.1
          · exact rat_add_le la.2 lb.2
        have by1 : Bnd (nv m s d) 115 300 := Bnd.of (B := 40) (K := 75) 300 hs.1.1.1 (by omega) (by omega)
        have by2 : Bnd (nv n t e) 115 300 := Bnd.of (B := 40) (K := 75) 300 hs.1.2.1 (by omega) (by omega)
        have by3 : Bnd (nv m2 s2 d2) 115 300 := Bnd.of (B := 40) (K := 75) 300 hs.2.1.1 (by omega) (by omega)
        have by4 : Bnd (nv n2 t2 e2) 115 300 := Bnd.of (B := 40) (K := 75) 300 hs.2.2.1 (by omega) (by omega)
        obtain ⟨u1, w1, x1, q1⟩ := df_some (nv m s d * nv m2 s2 d2)
        obtain ⟨u2, w2, x2, q2⟩ := df_some (nv m s d * nv n2 t2 e2)
        obtain ⟨u3, w3, x3, q3⟩ := df_some (nv n t e * nv m2 s2 d2)
        obtain ⟨u4, w4, x4, q4⟩ := df_some (nv n t e * nv n2 t2 e2)
        have y1 := form_nv q1
        have y2 := form_nv q2
        have y3 := form_nv q3
        have y4 := form_nv q4
        obtain ⟨z6, o6, e6, k6⟩ := df_some (farD (-1) [(u1, w1, x1), (u2, w2, x2), (u3, w3, x3), (u4, w4, x4)] 4)
        obtain ⟨z7, o7, e7, k7⟩ := df_some (farD 1 [(u1, w1, x1), (u2, w2, x2), (u3, w3, x3), (u4, w4, x4)] 4)
        obtain ⟨z8, o8, e8, k8⟩ := df_some (nv za oa ea * nv zb ob eb)
        have f6 := far4_low (u1, w1, x1) (u2, w2, x2) (u3, w3, x3) (u4, w4, x4)
        have f7 := far4_high (u1, w1, x1) (u2, w2, x2) (u3, w3, x3) (u4, w4, x4)
        simp only [nvl, y1, y2, y3, y4] at f6 f7
        have v6 := form_nv k6
        have v7 := form_nv k7
        have v8 := form_nv k8
        have b6 : Bnd (farD (-1) [(u1, w1, x1), (u2, w2, x2), (u3, w3, x3), (u4, w4, x4)] 4) 230 600 := by
          rcases f6.2.2.2.2 with h | h | h | h <;> rw [h]
          · exact by1.mul by3
          · exact by1.mul by4
          · exact by2.mul by3
          · exact by2.mul by4
        have b7 : Bnd (farD 1 [(u1, w1, x1), (u2, w2, x2), (u3, w3, x3), (u4, w4, x4)] 4) 230 600 := by
          rcases f7.2.2.2.2 with h | h | h | h <;> rw [h]
          · exact by1.mul by3
          · exact by1.mul by4
          · exact by2.mul by3
          · exact by2.mul by4
        have c6 := b6.ok (by omega) (by omega) k6
        have c7 := b7.ok (by omega) (by omega) k7
        have c8 : Ok3 o8 e8 := (ba.mul bb).ok (by omega) (by omega) k8
        have g4 : hasD (dlo (nv z6 o6 e6) (nv z7 o7 e7)) (dhi (nv z6 o6 e6) (nv z7 o7 e7)) (nv z8 o8 e8) = true := by
          rw [v6, v7, v8]
          have h := in_mul f6.1 f6.2.1 f6.2.2.1 f6.2.2.2.1 f7.1 f7.2.1 f7.2.2.1 f7.2.2.2.1 la lb
          exact has_of h.1 h.2
        obtain ⟨z9, o9, e9, k9⟩ := df_some (farD (-1) ([((m, s, d), (n, t, e)), ((m2, s2, d2), (n2, t2, e2))].map lowS) 2)
        obtain ⟨z0, o0, e0, k0⟩ := df_some (farD 1 ([((m, s, d), (n, t, e)), ((m2, s2, d2), (n2, t2, e2))].map highS) 2)
        have v9 := form_nv k9
        have v0 := form_nv k0
        have f9 := far2_low (lowS ((m, s, d), (n, t, e))) (lowS ((m2, s2, d2), (n2, t2, e2)))
        have f0 := far2_high (highS ((m, s, d), (n, t, e))) (highS ((m2, s2, d2), (n2, t2, e2)))
        have w9 : nvl (lowS ((m, s, d), (n, t, e))) = dlo (nv m s d) (nv n t e) ∧ nvl (lowS ((m2, s2, d2), (n2, t2, e2))) = dlo (nv m2 s2 d2) (nv n2 t2 e2) := ⟨lowN_val _ _, lowN_val _ _⟩
        have w0 : nvl (highS ((m, s, d), (n, t, e))) = dhi (nv m s d) (nv n t e) ∧ nvl (highS ((m2, s2, d2), (n2, t2, e2))) = dhi (nv m2 s2 d2) (nv n2 t2 e2) := ⟨highN_val _ _, highN_val _ _⟩
        have c9 : Ok3 o9 e9 := by
          rcases far2_pick (-1) (lowS ((m, s, d), (n, t, e))) (lowS ((m2, s2, d2), (n2, t2, e2))) with h | h
          · exact (show Bnd (farD (-1) [lowS ((m, s, d), (n, t, e)), lowS ((m2, s2, d2), (n2, t2, e2))] 2) 115 300 by rw [h, w9.1]; exact pa.1).ok (by omega) (by omega) k9
          · exact (show Bnd (farD (-1) [lowS ((m, s, d), (n, t, e)), lowS ((m2, s2, d2), (n2, t2, e2))] 2) 115 300 by rw [h, w9.2]; exact pb.1).ok (by omega) (by omega) k9
        have c0 : Ok3 o0 e0 := by
          rcases far2_pick 1 (highS ((m, s, d), (n, t, e))) (highS ((m2, s2, d2), (n2, t2, e2))) with h | h
          · exact (show Bnd (farD 1 [highS ((m, s, d), (n, t, e)), highS ((m2, s2, d2), (n2, t2, e2))] 2) 115 300 by rw [h, w0.1]; exact pa.2.1).ok (by omega) (by omega) k0
          · exact (show Bnd (farD 1 [highS ((m, s, d), (n, t, e)), highS ((m2, s2, d2), (n2, t2, e2))] 2) 115 300 by rw [h, w0.2]; exact pb.2.1).ok (by omega) (by omega) k0
        have g5 : hasD (dlo (nv z9 o9 e9) (nv z0 o0 e0)) (dhi (nv z9 o9 e9) (nv z0 o0 e0)) (nv za oa ea) = true := by
          rw [v9, v0]
          rw [w9.1] at f9
          rw [w0.1] at f0
          exact has_of (Rat.le_trans f9.1 la.1) (Rat.le_trans la.2 f0.1)
        have HP := Lib.hid (And.intro ka kb)
        have HS := Lib.hid hs
        have HJ := Lib.hid (And.intro hi hj)
        have HO := Lib.hid (And.intro kS (And.intro kT (And.intro kS2 (And.intro kT2 (And.intro oka okb)))))
        have HG := Lib.hid (And.intro g1 (And.intro g2 (And.intro g3 (And.intro g4 g5))))
        have HC := Lib.hid (And.intro c3 (And.intro c4 (And.intro c5 (And.intro c6 (And.intro c7 (And.intro c8 (And.intro c9 c0)))))))
        have HK := Lib.hid (And.intro k3 (And.intro k4 (And.intro k5 (And.intro k6 (And.intro k7 (And.intro k8 (And.intro k9 k0)))))))
        have HQ := Lib.hid (And.intro q1 (And.intro q2 (And.intro q3 q4)))
        have HA := Lib.hid hall
        have HL := Lib.hid (And.intro la lb)
        clear ka kb hs hi hj pa pb ba bb va vb la lb oka okb g1 g2 g3 g4 g5 kS kT kS2 kT2 hall k3 k4 k5 v3 v4 v5 c3 c4 c5 by1 by2 by3 by4 q1 q2 q3 q4 y1 y2 y3 y4 k6 k7 k8 f6 f7 v6 v7 v8 b6 b7 c6 c7 c8 k9 k0 v9 v0 f9 f0 w9 w0 c9 c0
        go_enter Tryz.func7, Tryz.ntmps7
        go_wp2_with fail
        have hS := Sk.new w 27 m s d n t e
        have hb := (Below.refl w.heap.size w).alloc (Nat.le_refl _) (Obj.cells #[Value.bool m, Value.string s, Value.int IntKind.i64 d, Value.bool n, Value.string t, Value.int IntKind.i64 e] 27)
        have hT := Sk.new ((w.alloc (Obj.cells #[Value.bool m, Value.string s, Value.int IntKind.i64 d, Value.bool n, Value.string t, Value.int IntKind.i64 e] 27))) 27 m2 s2 d2 n2 t2 e2
        simp only [World.size_alloc] at hT
        replace hS := hS.alloc (Obj.cells #[Value.bool m2, Value.string s2, Value.int IntKind.i64 d2, Value.bool n2, Value.string t2, Value.int IntKind.i64 e2] 27)
        replace hb := hb.alloc (by simp only [World.size_alloc]; omega) (Obj.cells #[Value.bool m2, Value.string s2, Value.int IntKind.i64 d2, Value.bool n2, Value.string t2, Value.int IntKind.i64 e2] 27)
        have hrow := SAt.new ((w.alloc (Obj.cells #[Value.bool m, Value.string s, Value.int IntKind.i64 d, Value.bool n, Value.string t, Value.int IntKind.i64 e] 27)).alloc (Obj.cells #[Value.bool m2, Value.string s2, Value.int IntKind.i64 d2, Value.bool n2, Value.string t2, Value.int IntKind.i64 e2] 27)) 27 [((m, s, d), (n, t, e)), ((m2, s2, d2), (n2, t2, e2))] #[.bool m, .string s, .int .i64 d, .bool n, .string t, .int .i64 e, .bool m2, .string s2, .int .i64 d2, .bool n2, .string t2, .int .i64 e2] rfl
        simp only [World.size_alloc] at hrow
        replace hS := hS.alloc (Obj.cells #[Value.bool m, Value.string s, Value.int IntKind.i64 d, Value.bool n, Value.string t, Value.int IntKind.i64 e, Value.bool m2, Value.string s2, Value.int IntKind.i64 d2, Value.bool n2, Value.string t2, Value.int IntKind.i64 e2] 27)
        replace hT := hT.alloc (Obj.cells #[Value.bool m, Value.string s, Value.int IntKind.i64 d, Value.bool n, Value.string t, Value.int IntKind.i64 e, Value.bool m2, Value.string s2, Value.int IntKind.i64 d2, Value.bool n2, Value.string t2, Value.int IntKind.i64 e2] 27)
        replace hb := hb.alloc (by simp only [World.size_alloc]; omega) (Obj.cells #[Value.bool m, Value.string s, Value.int IntKind.i64 d, Value.bool n, Value.string t, Value.int IntKind.i64 e, Value.bool m2, Value.string s2, Value.int IntKind.i64 d2, Value.bool n2, Value.string t2, Value.int IntKind.i64 e2] 27)
        generalize (((w.alloc (Obj.cells #[Value.bool m, Value.string s, Value.int IntKind.i64 d, Value.bool n, Value.string t, Value.int IntKind.i64 e] 27)).alloc (Obj.cells #[Value.bool m2, Value.string s2, Value.int IntKind.i64 d2, Value.bool n2, Value.string t2, Value.int IntKind.i64 e2] 27)).alloc (Obj.cells #[Value.bool m, Value.string s, Value.int IntKind.i64 d, Value.bool n, Value.string t, Value.int IntKind.i64 e, Value.bool m2, Value.string s2, Value.int IntKind.i64 d2, Value.bool n2, Value.string t2, Value.int IntKind.i64 e2] 27)) = W0 at *
        refine (sfar_to2 _ _ [((m, s, d), (n, t, e)), ((m2, s2, d2), (n2, t2, e2))] 2 2 rfl (by omega) hrow HR2.out).mono ?_
        rintro e' W ⟨rfl, hq⟩
        replace hb := below_next hb hq
        replace hS := hS.below hq
        replace hT := hT.below hq
        clear hq hrow
        go_wp2_with fail
        refine region_segs (n := 10) #[false, false, false, false, false, false, false, false, false, false] (by kernel_rfl) (by kernel_rfl) (by kernel_rfl) ?_
        intro fu hf
        refine lin_seg 10 [0, 1, 2, 3, 4, 5, 6, 7, 8, 9] 9 (fun L ac Wn => ∃ l0 l1 l2 l3 l4 l5 l6 l7 l8 : Bool, L = #[l0, l1, l2, l3, l4, l5, l6, l7, l8, false] ∧ ∃ p11 p12 : Nat, ac = { tmps := #[.agg #[.bool m, .string s, .int .i64 d, .bool n, .string t, .int .i64 e], .agg #[.bool m2, .string s2, .int .i64 d2, .bool n2, .string t2, .int .i64 e2], Value.int IntKind.u8 i, Value.int IntKind.u8 j, .int .i64 p, .pointer (some ⟨w.heap.size, 0, none⟩), .pointer (some ⟨w.heap.size + 1, 0, none⟩), undef, undef, undef, .bool false, sel l6 (.pointer (some ⟨p11, 0, none⟩)) (undef), sel l7 (.pointer (some ⟨p12, 0, none⟩)) (undef), undef, undef, undef, undef, .agg #[.bool m, .string s, .int .i64 d, .bool n, .string t, .int .i64 e], .agg #[.bool m2, .string s2, .int .i64 d2, .bool n2, .string t2, .int .i64 e2], .slice (some ⟨w.heap.size + 1 + 1, 0, none⟩) 2 2, .bool false, .bool false, .int .i64 p, .bool false, .bool false, .bool false, .int .i64 p, .bool false, .bool false, undef, sel l0 (.agg #[.bool m, .string s, .int .i64 d, .bool n, .string t, .int .i64 e]) (undef), sel l1 (Value.int IntKind.u8 i) (undef), sel l2 (.agg #[.bool za, .string oa, .int .i64 ea]) (undef), sel l3 (.agg #[.bool m2, .string s2, .int .i64 d2, .bool n2, .string t2, .int .i64 e2]) (undef), sel l4 (Value.int IntKind.u8 j) (undef), sel l5 (.agg #[.bool zb, .string ob, .int .i64 eb]) (undef), undef, undef, undef, undef, undef, undef, undef, undef, undef, undef, undef, undef, undef, undef, undef, undef, undef, undef, undef, undef, undef, undef, undef, undef, undef, undef, undef, undef, undef, undef, undef, undef, undef, undef, undef, undef, undef, undef, undef, undef, undef, undef, undef, undef, undef, undef, undef, undef, undef, undef, undef, undef, undef, undef, undef, undef, undef, undef, undef, undef, undef, undef, undef, undef, undef, undef, undef, undef, undef, undef, undef, undef, undef, undef], defers := [] } ∧ Below (w.heap.size) w Wn ∧ (Sk Wn (w.heap.size) 27 m s d n t e) ∧ (Sk Wn (w.heap.size + 1) 27 m2 s2 d2 n2 t2 e2) ∧ (On l6 → Off l8 → Nk Wn p11 false ⟨#[]⟩ 0) ∧ (On l8 → Nk Wn p11 za oa ea) ∧ (On l7 → Nk Wn p12 false ⟨#[]⟩ 0) ∧ (On l6 → w.heap.size ≤ p11) ∧ (On l7 → w.heap.size ≤ p12) ∧ (On l6 → w.heap.size ≠ p11) ∧ (On l6 → w.heap.size + 1 ≠ p11) ∧ (On l6 → On l7 → p12 ≠ p11) ∧ (On l7 → w.heap.size ≠ p12) ∧ (On l7 → w.heap.size + 1 ≠ p12)) (by kernel_rfl) (by kernel_rfl) (by kernel_rfl) (by kernel_rfl) hf ?_ ?_ ?_ (by kernel_rfl) ?_ (by decide)
        · exact ⟨false, false, false, false, false, false, false, false, false, by kernel_rfl, 0, 0, by kernel_rfl, hb.drew, hS.drew, hT.drew, (fun h _ => not_ft h), (fun h => not_ft h), (fun h => not_ft h), (fun h => not_ft h), (fun h => not_ft h), (fun h => not_ft h), (fun h => not_ft h), (fun h _ => not_ft h), (fun h => not_ft h), (fun h => not_ft h)⟩
        · rintro L ac Wn ⟨l0, l1, l2, l3, l4, l5, l6, l7, l8, rfl, _⟩
          kernel_rfl
        · refine (seg_all (b := 9) [0, 1, 2, 3, 4, 5, 6, 7, 8] ?_ : ∀ j ∈ [0, 1, 2, 3, 4, 5, 6, 7, 8, 9], j ≠ 9 → _)
          refine lin_cons [] [2, 5, 8] rfl (by kernel_rfl) (by kernel_rfl) ?_ ?_
          · intro L ac Wn hI hi hds hus Kc hK
            obtain ⟨l0, l1, l2, l3, l4, l5, l6, l7, l8, rfl, hI⟩ := hI
            obtain rfl : l0 = false := hi
            obtain ⟨rfl, rfl, rfl, -⟩ : l2 = false ∧ l5 = false ∧ l8 = false ∧ True := hus
            simp only [sel_f] at hI
            obtain ⟨p11, p12, rfl, hb, hS, hT, hA, hA', hB, dA, dB, nAS, nAT, nAB, nBS, nBT⟩ := hI
            obtain ⟨q0, q1, q2, q3, q4, q5, q6, q7, q8, q9, q10, q11⟩ := (hS).facts
            refine lin_yield (.agg #[.bool m, .string s, .int .i64 d, .bool n, .string t, .int .i64 e]) rfl (by go_simp; first | done | with_reducible rfl | assumption) ?_
            exact hK.out _ _ ⟨true, l1, false, l3, l4, false, l6, l7, false, by kernel_rfl, p11, p12, by kernel_rfl, hb, (hS), (hT), (fun z0 z1 => (hA z0 z1)), (fun h => not_ft h), (fun z0 => (hB z0)), (fun z0 => (dA z0)), (fun z0 => (dB z0)), (fun z0 => (nAS z0)), (fun z0 => (nAT z0)), (fun z0 z1 => (nAB z0 z1)), (fun z0 => (nBS z0)), (fun z0 => (nBT z0))⟩
          refine lin_cons [] [2, 5, 8] rfl (by kernel_rfl) (by kernel_rfl) ?_ ?_
          · intro L ac Wn hI hi hds hus Kc hK
            obtain ⟨l0, l1, l2, l3, l4, l5, l6, l7, l8, rfl, hI⟩ := hI
            obtain rfl : l1 = false := hi
            obtain ⟨rfl, rfl, rfl, -⟩ : l2 = false ∧ l5 = false ∧ l8 = false ∧ True := hus
            simp only [sel_f] at hI
            obtain ⟨p11, p12, rfl, hb, hS, hT, hA, hA', hB, dA, dB, nAS, nAT, nAB, nBS, nBT⟩ := hI
            refine lin_yield (Value.int IntKind.u8 i) rfl (by go_simp; first | done | with_reducible rfl | assumption) ?_
            exact hK.out _ _ ⟨l0, true, false, l3, l4, false, l6, l7, false, by kernel_rfl, p11, p12, by kernel_rfl, hb, (hS), (hT), (fun z0 z1 => (hA z0 z1)), (fun h => not_ft h), (fun z0 => (hB z0)), (fun z0 => (dA z0)), (fun z0 => (dB z0)), (fun z0 => (nAS z0)), (fun z0 => (nAT z0)), (fun z0 z1 => (nAB z0 z1)), (fun z0 => (nBS z0)), (fun z0 => (nBT z0))⟩
          refine lin_cons [0, 1] [5, 8] rfl (by kernel_rfl) (by kernel_rfl) ?_ ?_
          · intro L ac Wn hI hi hds hus Kc hK
            obtain ⟨l0, l1, l2, l3, l4, l5, l6, l7, l8, rfl, hI⟩ := hI
            obtain rfl : l2 = false := hi
            obtain ⟨rfl, rfl, -⟩ : l0 = true ∧ l1 = true ∧ True := hds
            obtain ⟨rfl, rfl, -⟩ : l5 = false ∧ l8 = false ∧ True := hus
            simp only [sel_t, sel_f] at hI
            obtain ⟨p11, p12, rfl, hb, hS, hT, hA, hA', hB, dA, dB, nAS, nAT, nAB, nBS, nBT⟩ := hI
            go_simp
            go_fit (place_any _ m s d n t e i HS.out.1.1 HS.out.1.2 HJ.out.1 za oa ea HP.out.1)
            rintro e V ⟨rfl, hq⟩
            exact hK.out _ _ ⟨true, true, true, l3, l4, false, l6, l7, false, by kernel_rfl, p11, p12, by kernel_rfl, (below_next hb hq), (hS.below hq), (hT.below hq), (fun z0 z1 => (hA z0 z1).below hq), (fun h => not_ft h), (fun z0 => (hB z0).below hq), (fun z0 => (dA z0)), (fun z0 => (dB z0)), (fun z0 => (nAS z0)), (fun z0 => (nAT z0)), (fun z0 z1 => (nAB z0 z1)), (fun z0 => (nBS z0)), (fun z0 => (nBT z0))⟩
          refine lin_cons [] [5, 8] rfl (by kernel_rfl) (by kernel_rfl) ?_ ?_
          · intro L ac Wn hI hi hds hus Kc hK
            obtain ⟨l0, l1, l2, l3, l4, l5, l6, l7, l8, rfl, hI⟩ := hI
            obtain rfl : l3 = false := hi
            obtain ⟨rfl, rfl, -⟩ : l5 = false ∧ l8 = false ∧ True := hus
            simp only [sel_f] at hI
            obtain ⟨p11, p12, rfl, hb, hS, hT, hA, hA', hB, dA, dB, nAS, nAT, nAB, nBS, nBT⟩ := hI
            obtain ⟨q0, q1, q2, q3, q4, q5, q6, q7, q8, q9, q10, q11⟩ := (hT).facts
            refine lin_yield (.agg #[.bool m2, .string s2, .int .i64 d2, .bool n2, .string t2, .int .i64 e2]) rfl (by go_simp; first | done | with_reducible rfl | assumption) ?_
            exact hK.out _ _ ⟨l0, l1, l2, true, l4, false, l6, l7, false, by kernel_rfl, p11, p12, by kernel_rfl, hb, (hS), (hT), (fun z0 z1 => (hA z0 z1)), (fun h => not_ft h), (fun z0 => (hB z0)), (fun z0 => (dA z0)), (fun z0 => (dB z0)), (fun z0 => (nAS z0)), (fun z0 => (nAT z0)), (fun z0 z1 => (nAB z0 z1)), (fun z0 => (nBS z0)), (fun z0 => (nBT z0))⟩
          refine lin_cons [] [5, 8] rfl (by kernel_rfl) (by kernel_rfl) ?_ ?_
          · intro L ac Wn hI hi hds hus Kc hK
            obtain ⟨l0, l1, l2, l3, l4, l5, l6, l7, l8, rfl, hI⟩ := hI
            obtain rfl : l4 = false := hi
            obtain ⟨rfl, rfl, -⟩ : l5 = false ∧ l8 = false ∧ True := hus
            simp only [sel_f] at hI
            obtain ⟨p11, p12, rfl, hb, hS, hT, hA, hA', hB, dA, dB, nAS, nAT, nAB, nBS, nBT⟩ := hI
            refine lin_yield (Value.int IntKind.u8 j) rfl (by go_simp; first | done | with_reducible rfl | assumption) ?_
            exact hK.out _ _ ⟨l0, l1, l2, l3, true, false, l6, l7, false, by kernel_rfl, p11, p12, by kernel_rfl, hb, (hS), (hT), (fun z0 z1 => (hA z0 z1)), (fun h => not_ft h), (fun z0 => (hB z0)), (fun z0 => (dA z0)), (fun z0 => (dB z0)), (fun z0 => (nAS z0)), (fun z0 => (nAT z0)), (fun z0 z1 => (nAB z0 z1)), (fun z0 => (nBS z0)), (fun z0 => (nBT z0))⟩
          refine lin_cons [0, 1, 2, 3, 4] [8] rfl (by kernel_rfl) (by kernel_rfl) ?_ ?_
          · intro L ac Wn hI hi hds hus Kc hK
            obtain ⟨l0, l1, l2, l3, l4, l5, l6, l7, l8, rfl, hI⟩ := hI
            obtain rfl : l5 = false := hi
            obtain ⟨rfl, rfl, rfl, rfl, rfl, -⟩ : l0 = true ∧ l1 = true ∧ l2 = true ∧ l3 = true ∧ l4 = true ∧ True := hds
            obtain ⟨rfl, -⟩ : l8 = false ∧ True := hus
            simp only [sel_t, sel_f] at hI
            obtain ⟨p11, p12, rfl, hb, hS, hT, hA, hA', hB, dA, dB, nAS, nAT, nAB, nBS, nBT⟩ := hI
            go_simp
            go_fit (place_any _ m2 s2 d2 n2 t2 e2 j HS.out.2.1 HS.out.2.2 HJ.out.2 zb ob eb HP.out.2)
            rintro e V ⟨rfl, hq⟩
            exact hK.out _ _ ⟨true, true, true, true, true, true, l6, l7, false, by kernel_rfl, p11, p12, by kernel_rfl, (below_next hb hq), (hS.below hq), (hT.below hq), (fun z0 z1 => (hA z0 z1).below hq), (fun h => not_ft h), (fun z0 => (hB z0).below hq), (fun z0 => (dA z0)), (fun z0 => (dB z0)), (fun z0 => (nAS z0)), (fun z0 => (nAT z0)), (fun z0 z1 => (nAB z0 z1)), (fun z0 => (nBS z0)), (fun z0 => (nBT z0))⟩
          refine lin_cons [] [8] rfl (by kernel_rfl) (by kernel_rfl) ?_ ?_
          · intro L ac Wn hI hi hds hus Kc hK
            obtain ⟨l0, l1, l2, l3, l4, l5, l6, l7, l8, rfl, hI⟩ := hI
            obtain rfl : l6 = false := hi
            obtain ⟨rfl, -⟩ : l8 = false ∧ True := hus
            simp only [sel_f] at hI
            obtain ⟨p11, p12, rfl, hb, hS, hT, hA, hA', hB, dA, dB, nAS, nAT, nAB, nBS, nBT⟩ := hI
            go_simp
            exact hK.out _ _ ⟨l0, l1, l2, l3, l4, l5, true, l7, false, by kernel_rfl, _, p12, by kernel_rfl, (hb.alloc hb.size _), (hS.alloc _), (hT.alloc _), (fun z0 z1 => Nk.new _ _ _ _), (fun h => not_ft h), (fun z0 => (hB z0).alloc _), (fun z0 => hb.size), (fun z0 => (dB z0)), (fun z0 => Nat.ne_of_lt ((hS).lt)), (fun z0 => Nat.ne_of_lt ((hT).lt)), (fun z0 z1 => Nat.ne_of_lt ((hB z1).lt)), (fun z0 => (nBS z0)), (fun z0 => (nBT z0))⟩
          refine lin_cons [] [8] rfl (by kernel_rfl) (by kernel_rfl) ?_ ?_
          · intro L ac Wn hI hi hds hus Kc hK
            obtain ⟨l0, l1, l2, l3, l4, l5, l6, l7, l8, rfl, hI⟩ := hI
            obtain rfl : l7 = false := hi
            obtain ⟨rfl, -⟩ : l8 = false ∧ True := hus
            simp only [sel_f] at hI
            obtain ⟨p11, p12, rfl, hb, hS, hT, hA, hA', hB, dA, dB, nAS, nAT, nAB, nBS, nBT⟩ := hI
            go_simp
            exact hK.out _ _ ⟨l0, l1, l2, l3, l4, l5, l6, true, false, by kernel_rfl, p11, _, by kernel_rfl, (hb.alloc hb.size _), (hS.alloc _), (hT.alloc _), (fun z0 z1 => (hA z0 z1).alloc _), (fun h => not_ft h), (fun z0 => Nk.new _ _ _ _), (fun z0 => (dA z0)), (fun z0 => hb.size), (fun z0 => (nAS z0)), (fun z0 => (nAT z0)), (fun z0 z1 => Nat.ne_of_gt ((hA z0 rfl).lt)), (fun z0 => Nat.ne_of_lt ((hS).lt)), (fun z0 => Nat.ne_of_lt ((hT).lt))⟩
          refine lin_cons [0, 1, 2, 3, 4, 5, 6, 7] [] rfl (by kernel_rfl) (by kernel_rfl) ?_ lin_nil
          intro L ac Wn hI hi hds hus Kc hK
          obtain ⟨l0, l1, l2, l3, l4, l5, l6, l7, l8, rfl, hI⟩ := hI
          obtain rfl : l8 = false := hi
          obtain ⟨rfl, rfl, rfl, rfl, rfl, rfl, rfl, rfl, -⟩ : l0 = true ∧ l1 = true ∧ l2 = true ∧ l3 = true ∧ l4 = true ∧ l5 = true ∧ l6 = true ∧ l7 = true ∧ True := hds
          simp only [sel_t] at hI
          obtain ⟨p11, p12, rfl, hb, hS, hT, hA, hA', hB, dA, dB, nAS, nAT, nAB, nBS, nBT⟩ := hI
          obtain ⟨q0, q1, q2, q3, q4, q5⟩ := (hA rfl rfl).facts
          have edA := dA rfl
          have edB := dB rfl
          have enAS := nAS rfl
          have enAT := nAT rfl
          have enAB := nAB rfl rfl
          have enBS := nBS rfl
          have enBT := nBT rfl
          go_simp
          exact hK.out _ _ ⟨true, true, true, true, true, true, true, true, true, by kernel_rfl, p11, p12, by kernel_rfl, (((hb.setCell (p := ⟨p11, 0, none⟩) (by show w.heap.size ≤ p11; omega) (.bool za)).setCell (p := ⟨p11, 1, none⟩) (by show w.heap.size ≤ p11; omega) (.string oa)).setCell (p := ⟨p11, 2, none⟩) (by show w.heap.size ≤ p11; omega) (.int .i64 ea)), ((((hS).far (p := ⟨p11, 0, none⟩) (by show w.heap.size ≠ p11; omega) (.bool za)).far (p := ⟨p11, 1, none⟩) (by show w.heap.size ≠ p11; omega) (.string oa)).far (p := ⟨p11, 2, none⟩) (by show w.heap.size ≠ p11; omega) (.int .i64 ea)), ((((hT).far (p := ⟨p11, 0, none⟩) (by show w.heap.size + 1 ≠ p11; omega) (.bool za)).far (p := ⟨p11, 1, none⟩) (by show w.heap.size + 1 ≠ p11; omega) (.string oa)).far (p := ⟨p11, 2, none⟩) (by show w.heap.size + 1 ≠ p11; omega) (.int .i64 ea)), (fun _ h => not_tf h), (fun _ => (hA rfl rfl).set3 (za) (oa) (ea)), (fun z0 => ((((hB z0)).far (p := ⟨p11, 0, none⟩) (by show p12 ≠ p11; omega) (.bool za)).far (p := ⟨p11, 1, none⟩) (by show p12 ≠ p11; omega) (.string oa)).far (p := ⟨p11, 2, none⟩) (by show p12 ≠ p11; omega) (.int .i64 ea)), (fun z0 => (dA z0)), (fun z0 => (dB z0)), (fun z0 => (nAS z0)), (fun z0 => (nAT z0)), (fun z0 z1 => (nAB z0 z1)), (fun z0 => (nBS z0)), (fun z0 => (nBT z0))⟩
        refine bar_of [0, 1, 2, 3, 4, 5, 6, 7, 8] rfl (by kernel_rfl) ?_
        intro L ac Wn hI hds Kc hK
        obtain ⟨l0, l1, l2, l3, l4, l5, l6, l7, l8, rfl, hI⟩ := hI
        obtain ⟨rfl, rfl, rfl, rfl, rfl, rfl, rfl, rfl, rfl, -⟩ : l0 = true ∧ l1 = true ∧ l2 = true ∧ l3 = true ∧ l4 = true ∧ l5 = true ∧ l6 = true ∧ l7 = true ∧ l8 = true ∧ True := hds
        simp only [sel_t] at hI
        obtain ⟨p11, p12, rfl, hb, hS, hT, hA, hA', hB, dA, dB, nAS, nAT, nAB, nBS, nBT⟩ := hI
        clear hA
        replace hA' := hA' rfl
        replace hB := hB rfl
        replace dA := dA rfl
        replace dB := dB rfl
        replace nAS := nAS rfl
        replace nAT := nAT rfl
        replace nAB := nAB rfl rfl
        replace nBS := nBS rfl
        replace nBT := nBT rfl
        have hA := hA'
        clear hA'
        obtain ⟨q0, q1, q2, q3, q4, q5⟩ := (hB).facts
        go_simp
        replace hS := (((hS).far (p := ⟨p12, 0, none⟩) (by show w.heap.size ≠ p12; omega) (.bool zb)).far (p := ⟨p12, 1, none⟩) (by show w.heap.size ≠ p12; omega) (.string ob)).far (p := ⟨p12, 2, none⟩) (by show w.heap.size ≠ p12; omega) (.int .i64 eb)
        replace hT := (((hT).far (p := ⟨p12, 0, none⟩) (by show w.heap.size + 1 ≠ p12; omega) (.bool zb)).far (p := ⟨p12, 1, none⟩) (by show w.heap.size + 1 ≠ p12; omega) (.string ob)).far (p := ⟨p12, 2, none⟩) (by show w.heap.size + 1 ≠ p12; omega) (.int .i64 eb)
        replace hA := (((hA).far (p := ⟨p12, 0, none⟩) (by show p11 ≠ p12; omega) (.bool zb)).far (p := ⟨p12, 1, none⟩) (by show p11 ≠ p12; omega) (.string ob)).far (p := ⟨p12, 2, none⟩) (by show p11 ≠ p12; omega) (.int .i64 eb)
        replace hB := (hB).set3 (zb) (ob) (eb)
        replace hb := (((hb.setCell (p := ⟨p12, 0, none⟩) (by show w.heap.size ≤ p12; omega) (.bool zb)).setCell (p := ⟨p12, 1, none⟩) (by show w.heap.size ≤ p12; omega) (.string ob)).setCell (p := ⟨p12, 2, none⟩) (by show w.heap.size ≤ p12; omega) (.int .i64 eb))
        refine hK.out _ _ (fun fu hf => wpAnyH_done (by kernel_rfl) ?_ _)
        clear hK Kc hf
        generalize (((Wn.setCell ⟨p12, 0, none⟩ (.bool zb)).setCell ⟨p12, 1, none⟩ (.string ob)).setCell ⟨p12, 2, none⟩ (.int .i64 eb)) = W1 at *
        go_wp2_with fail
        refine region_segs (n := 42) #[false, false, false, false, false, false, false, false, false, false, false, false, false, false, false, false, false, false, false, false, false, false, false, false, false, false, false, false, false, false, false, false, false, false, false, false, false, false, false, false, false, false] (by kernel_rfl) (by kernel_rfl) (by kernel_rfl) ?_
        intro fu hf
        refine lin_seg 42 [0, 1, 2, 3, 4] 4 (fun L ac Wn => ∃ l0 l1 l2 l3 : Bool, L = #[l0, l1, l2, l3, false, false, false, false, false, false, false, false, false, false, false, false, false, false, false, false, false, false, false, false, false, false, false, false, false, false, false, false, false, false, false, false, false, false, false, false, false, false] ∧ ac = { tmps := #[.agg #[.bool m, .string s, .int .i64 d, .bool n, .string t, .int .i64 e], .agg #[.bool m2, .string s2, .int .i64 d2, .bool n2, .string t2, .int .i64 e2], Value.int IntKind.u8 i, Value.int IntKind.u8 j, .int .i64 p, .pointer (some ⟨w.heap.size, 0, none⟩), .pointer (some ⟨w.heap.size + 1, 0, none⟩), undef, undef, undef, .bool false, .pointer (some ⟨p11, 0, none⟩), .pointer (some ⟨p12, 0, none⟩), undef, undef, undef, undef, .agg #[.bool m, .string s, .int .i64 d, .bool n, .string t, .int .i64 e], .agg #[.bool m2, .string s2, .int .i64 d2, .bool n2, .string t2, .int .i64 e2], .slice (some ⟨w.heap.size + 1 + 1, 0, none⟩) 2 2, .bool false, .bool false, .int .i64 p, .bool false, .bool false, .bool false, .int .i64 p, .bool false, .bool false, undef, .agg #[.bool m, .string s, .int .i64 d, .bool n, .string t, .int .i64 e], Value.int IntKind.u8 i, .agg #[.bool za, .string oa, .int .i64 ea], .agg #[.bool m2, .string s2, .int .i64 d2, .bool n2, .string t2, .int .i64 e2], Value.int IntKind.u8 j, .agg #[.bool zb, .string ob, .int .i64 eb], sel l0 (.agg #[.bool m, .string s, .int .i64 d, .bool n, .string t, .int .i64 e]) (undef), sel l1 (.agg #[.bool za, .string oa, .int .i64 ea]) (undef), sel l2 (.bool true) (undef), sel l3 (.bool false) (undef), undef, undef, undef, undef, undef, undef, undef, undef, undef, undef, undef, undef, undef, undef, undef, undef, undef, undef, undef, undef, undef, undef, undef, undef, undef, undef, undef, undef, undef, undef, undef, undef, undef, undef, undef, undef, undef, undef, undef, undef, undef, undef, undef, undef, undef, undef, undef, undef, undef, undef, undef, undef, undef, undef, undef, undef, undef, undef, undef, undef, undef, undef, undef, undef, undef, undef, undef, undef, undef, undef], defers := [] } ∧ Below (w.heap.size) w Wn ∧ (Sk Wn (w.heap.size) 27 m s d n t e) ∧ (Sk Wn (w.heap.size + 1) 27 m2 s2 d2 n2 t2 e2) ∧ (Nk Wn p11 za oa ea) ∧ (Nk Wn p12 zb ob eb)) (by kernel_rfl) (by kernel_rfl) (by kernel_rfl) (by kernel_rfl) hf ?_ ?_ ?_ (by kernel_rfl) ?_ (by decide)
        · exact ⟨false, false, false, false, by kernel_rfl, by kernel_rfl, hb.drew, hS.drew, hT.drew, hA.drew, hB.drew⟩
        · rintro L ac Wn ⟨l0, l1, l2, l3, rfl, _⟩
          kernel_rfl
        · refine (seg_all (b := 4) [0, 1, 2, 3] ?_ : ∀ j ∈ [0, 1, 2, 3, 4], j ≠ 4 → _)
          refine lin_cons [] [2, 3] rfl (by kernel_rfl) (by kernel_rfl) ?_ ?_
          · intro L ac Wn hI hi hds hus Kc hK
            obtain ⟨l0, l1, l2, l3, rfl, hI⟩ := hI
            obtain rfl : l0 = false := hi
            obtain ⟨rfl, rfl, -⟩ : l2 = false ∧ l3 = false ∧ True := hus
            simp only [sel_f] at hI
            obtain ⟨rfl, hb, hS, hT, hA, hB⟩ := hI
            obtain ⟨q0, q1, q2, q3, q4, q5, q6, q7, q8, q9, q10, q11⟩ := (hS).facts
            refine lin_yield (.agg #[.bool m, .string s, .int .i64 d, .bool n, .string t, .int .i64 e]) rfl (by go_simp; first | done | with_reducible rfl | assumption) ?_
            exact hK.out _ _ ⟨true, l1, false, false, by kernel_rfl, by kernel_rfl, hb, (hS), (hT), (hA), (hB)⟩
          refine lin_cons [] [2, 3] rfl (by kernel_rfl) (by kernel_rfl) ?_ ?_
          · intro L ac Wn hI hi hds hus Kc hK
            obtain ⟨l0, l1, l2, l3, rfl, hI⟩ := hI
            obtain rfl : l1 = false := hi
            obtain ⟨rfl, rfl, -⟩ : l2 = false ∧ l3 = false ∧ True := hus
            simp only [sel_f] at hI
            obtain ⟨rfl, hb, hS, hT, hA, hB⟩ := hI
            obtain ⟨q0, q1, q2, q3, q4, q5⟩ := (hA).facts
            refine lin_yield (.agg #[.bool za, .string oa, .int .i64 ea]) rfl (by go_simp; first | done | with_reducible rfl | assumption) ?_
            exact hK.out _ _ ⟨l0, true, false, false, by kernel_rfl, by kernel_rfl, hb, (hS), (hT), (hA), (hB)⟩
          refine lin_cons [0, 1] [3] rfl (by kernel_rfl) (by kernel_rfl) ?_ ?_
          · intro L ac Wn hI hi hds hus Kc hK
            obtain ⟨l0, l1, l2, l3, rfl, hI⟩ := hI
            obtain rfl : l2 = false := hi
            obtain ⟨rfl, rfl, -⟩ : l0 = true ∧ l1 = true ∧ True := hds
            obtain ⟨rfl, -⟩ : l3 = false ∧ True := hus
            simp only [sel_t, sel_f] at hI
            obtain ⟨rfl, hb, hS, hT, hA, hB⟩ := hI
            go_simp
            go_fit (shas_any _ m s d n t e za oa ea HO.out.1.ok3 HO.out.2.1.ok3 HO.out.2.2.2.2.1.ok3 true HG.out.1)
            rintro e V ⟨rfl, hq⟩
            exact hK.out _ _ ⟨true, true, true, false, by kernel_rfl, by kernel_rfl, (below_next hb hq), (hS.below hq), (hT.below hq), (hA.below hq), (hB.below hq)⟩
          refine lin_cons [0, 1, 2] [] rfl (by kernel_rfl) (by kernel_rfl) ?_ lin_nil
          intro L ac Wn hI hi hds hus Kc hK
          obtain ⟨l0, l1, l2, l3, rfl, hI⟩ := hI
          obtain rfl : l3 = false := hi
          obtain ⟨rfl, rfl, rfl, -⟩ : l0 = true ∧ l1 = true ∧ l2 = true ∧ True := hds
          simp only [sel_t, sel_f] at hI
          obtain ⟨rfl, hb, hS, hT, hA, hB⟩ := hI
          refine lin_yield (.bool false) rfl (by go_simp; first | done | with_reducible rfl | assumption) ?_
          exact hK.out _ _ ⟨true, true, true, true, by kernel_rfl, by kernel_rfl, hb, (hS), (hT), (hA), (hB)⟩
        refine bar_of [0, 1, 2, 3] rfl (by kernel_rfl) ?_
        intro L ac Wn hI hds Kc hK
        obtain ⟨l0, l1, l2, l3, rfl, hI⟩ := hI
        obtain ⟨rfl, rfl, rfl, rfl, -⟩ : l0 = true ∧ l1 = true ∧ l2 = true ∧ l3 = true ∧ True := hds
        simp only [sel_t] at hI
        obtain ⟨rfl, hb, hS, hT, hA, hB⟩ := hI
        refine lin_yield (.bool false) rfl (by go_simp; first | done | with_reducible rfl | assumption) ?_
        refine hK.out _ _ (fun fu hf => ?_)
        clear hK Kc
        refine lin_seg 42 [5, 6, 7, 8, 9, 10] 10 (fun L ac Wn => ∃ l5 l6 l7 l8 l9 : Bool, L = #[true, true, true, true, true, l5, l6, l7, l8, l9, false, false, false, false, false, false, false, false, false, false, false, false, false, false, false, false, false, false, false, false, false, false, false, false, false, false, false, false, false, false, false, false] ∧ ac = { tmps := #[.agg #[.bool m, .string s, .int .i64 d, .bool n, .string t, .int .i64 e], .agg #[.bool m2, .string s2, .int .i64 d2, .bool n2, .string t2, .int .i64 e2], Value.int IntKind.u8 i, Value.int IntKind.u8 j, .int .i64 p, .pointer (some ⟨w.heap.size, 0, none⟩), .pointer (some ⟨w.heap.size + 1, 0, none⟩), undef, undef, undef, .bool false, .pointer (some ⟨p11, 0, none⟩), .pointer (some ⟨p12, 0, none⟩), undef, undef, undef, undef, .agg #[.bool m, .string s, .int .i64 d, .bool n, .string t, .int .i64 e], .agg #[.bool m2, .string s2, .int .i64 d2, .bool n2, .string t2, .int .i64 e2], .slice (some ⟨w.heap.size + 1 + 1, 0, none⟩) 2 2, .bool false, .bool false, .int .i64 p, .bool false, .bool false, .bool false, .int .i64 p, .bool false, .bool false, undef, .agg #[.bool m, .string s, .int .i64 d, .bool n, .string t, .int .i64 e], Value.int IntKind.u8 i, .agg #[.bool za, .string oa, .int .i64 ea], .agg #[.bool m2, .string s2, .int .i64 d2, .bool n2, .string t2, .int .i64 e2], Value.int IntKind.u8 j, .agg #[.bool zb, .string ob, .int .i64 eb], .agg #[.bool m, .string s, .int .i64 d, .bool n, .string t, .int .i64 e], .agg #[.bool za, .string oa, .int .i64 ea], .bool true, .bool false, .bool false, sel l5 (.agg #[.bool m2, .string s2, .int .i64 d2, .bool n2, .string t2, .int .i64 e2]) (undef), sel l6 (.agg #[.bool zb, .string ob, .int .i64 eb]) (undef), sel l7 (.bool true) (undef), sel l8 (.bool false) (undef), sel l9 (.bool false) (undef), undef, undef, undef, undef, undef, undef, undef, undef, undef, undef, undef, undef, undef, undef, undef, undef, undef, undef, undef, undef, undef, undef, undef, undef, undef, undef, undef, undef, undef, undef, undef, undef, undef, undef, undef, undef, undef, undef, undef, undef, undef, undef, undef, undef, undef, undef, undef, undef, undef, undef, undef, undef, undef, undef, undef, undef, undef, undef, undef, undef, undef, undef, undef, undef], defers := [] } ∧ Below (w.heap.size) w Wn ∧ (Sk Wn (w.heap.size) 27 m s d n t e) ∧ (Sk Wn (w.heap.size + 1) 27 m2 s2 d2 n2 t2 e2) ∧ (Nk Wn p11 za oa ea) ∧ (Nk Wn p12 zb ob eb)) (by kernel_rfl) (by kernel_rfl) (by kernel_rfl) (by kernel_rfl) hf ?_ ?_ ?_ (by kernel_rfl) ?_ (by decide)
        · exact ⟨false, false, false, false, false, by kernel_rfl, by kernel_rfl, hb, hS, hT, hA, hB⟩
        · rintro L ac Wn ⟨l5, l6, l7, l8, l9, rfl, _⟩
          kernel_rfl
        · refine (seg_all (b := 10) [5, 6, 7, 8, 9] ?_ : ∀ j ∈ [5, 6, 7, 8, 9, 10], j ≠ 10 → _)
          refine lin_cons [] [7, 8, 9] rfl (by kernel_rfl) (by kernel_rfl) ?_ ?_
          · intro L ac Wn hI hi hds hus Kc hK
            obtain ⟨l5, l6, l7, l8, l9, rfl, hI⟩ := hI
            obtain rfl : l5 = false := hi
            obtain ⟨rfl, rfl, rfl, -⟩ : l7 = false ∧ l8 = false ∧ l9 = false ∧ True := hus
            simp only [sel_f] at hI
            obtain ⟨rfl, hb, hS, hT, hA, hB⟩ := hI
            obtain ⟨q0, q1, q2, q3, q4, q5, q6, q7, q8, q9, q10, q11⟩ := (hT).facts
            refine lin_yield (.agg #[.bool m2, .string s2, .int .i64 d2, .bool n2, .string t2, .int .i64 e2]) rfl (by go_simp; first | done | with_reducible rfl | assumption) ?_
            exact hK.out _ _ ⟨true, l6, false, false, false, by kernel_rfl, by kernel_rfl, hb, (hS), (hT), (hA), (hB)⟩
          refine lin_cons [] [7, 8, 9] rfl (by kernel_rfl) (by kernel_rfl) ?_ ?_
          · intro L ac Wn hI hi hds hus Kc hK
            obtain ⟨l5, l6, l7, l8, l9, rfl, hI⟩ := hI
            obtain rfl : l6 = false := hi
            obtain ⟨rfl, rfl, rfl, -⟩ : l7 = false ∧ l8 = false ∧ l9 = false ∧ True := hus
            simp only [sel_f] at hI
            obtain ⟨rfl, hb, hS, hT, hA, hB⟩ := hI
            obtain ⟨q0, q1, q2, q3, q4, q5⟩ := (hB).facts
            refine lin_yield (.agg #[.bool zb, .string ob, .int .i64 eb]) rfl (by go_simp; first | done | with_reducible rfl | assumption) ?_
            exact hK.out _ _ ⟨l5, true, false, false, false, by kernel_rfl, by kernel_rfl, hb, (hS), (hT), (hA), (hB)⟩
          refine lin_cons [5, 6] [8, 9] rfl (by kernel_rfl) (by kernel_rfl) ?_ ?_
          · intro L ac Wn hI hi hds hus Kc hK
            obtain ⟨l5, l6, l7, l8, l9, rfl, hI⟩ := hI
            obtain rfl : l7 = false := hi
            obtain ⟨rfl, rfl, -⟩ : l5 = true ∧ l6 = true ∧ True := hds
            obtain ⟨rfl, rfl, -⟩ : l8 = false ∧ l9 = false ∧ True := hus
            simp only [sel_t, sel_f] at hI
            obtain ⟨rfl, hb, hS, hT, hA, hB⟩ := hI
            go_simp
            go_fit (shas_any _ m2 s2 d2 n2 t2 e2 zb ob eb HO.out.2.2.1.ok3 HO.out.2.2.2.1.ok3 HO.out.2.2.2.2.2.ok3 true HG.out.2.1)
            rintro e V ⟨rfl, hq⟩
            exact hK.out _ _ ⟨true, true, true, false, false, by kernel_rfl, by kernel_rfl, (below_next hb hq), (hS.below hq), (hT.below hq), (hA.below hq), (hB.below hq)⟩
          refine lin_cons [5, 6, 7] [9] rfl (by kernel_rfl) (by kernel_rfl) ?_ ?_
          · intro L ac Wn hI hi hds hus Kc hK
            obtain ⟨l5, l6, l7, l8, l9, rfl, hI⟩ := hI
            obtain rfl : l8 = false := hi
            obtain ⟨rfl, rfl, rfl, -⟩ : l5 = true ∧ l6 = true ∧ l7 = true ∧ True := hds
            obtain ⟨rfl, -⟩ : l9 = false ∧ True := hus
            simp only [sel_t, sel_f] at hI
            obtain ⟨rfl, hb, hS, hT, hA, hB⟩ := hI
            refine lin_yield (.bool false) rfl (by go_simp; first | done | with_reducible rfl | assumption) ?_
            exact hK.out _ _ ⟨true, true, true, true, false, by kernel_rfl, by kernel_rfl, hb, (hS), (hT), (hA), (hB)⟩
          refine lin_cons [5, 6, 7, 8] [] rfl (by kernel_rfl) (by kernel_rfl) ?_ lin_nil
          intro L ac Wn hI hi hds hus Kc hK
          obtain ⟨l5, l6, l7, l8, l9, rfl, hI⟩ := hI
          obtain rfl : l9 = false := hi
          obtain ⟨rfl, rfl, rfl, rfl, -⟩ : l5 = true ∧ l6 = true ∧ l7 = true ∧ l8 = true ∧ True := hds
          simp only [sel_t, sel_f] at hI
          obtain ⟨rfl, hb, hS, hT, hA, hB⟩ := hI
          refine lin_yield (.bool false) rfl (by go_simp; first | done | with_reducible rfl | assumption) ?_
          exact hK.out _ _ ⟨true, true, true, true, true, by kernel_rfl, by kernel_rfl, hb, (hS), (hT), (hA), (hB)⟩
        refine bar_of [5, 6, 7, 8, 9] rfl (by kernel_rfl) ?_
        intro L ac Wn hI hds Kc hK
        obtain ⟨l5, l6, l7, l8, l9, rfl, hI⟩ := hI
        obtain ⟨rfl, rfl, rfl, rfl, rfl, -⟩ : l5 = true ∧ l6 = true ∧ l7 = true ∧ l8 = true ∧ l9 = true ∧ True := hds
        simp only [sel_t] at hI
        obtain ⟨rfl, hb, hS, hT, hA, hB⟩ := hI
        refine lin_yield (.bool false) rfl (by go_simp; first | done | with_reducible rfl | assumption) ?_
        refine hK.out _ _ (fun fu hf => ?_)
        clear hK Kc
        refine lin_seg 42 [11, 12, 13, 14, 15, 16, 17, 18, 19, 20, 21, 22] 22 (fun L ac Wn => ∃ l11 l12 l13 l14 l15 l16 l17 l18 l19 l20 l21 : Bool, L = #[true, true, true, true, true, true, true, true, true, true, true, l11, l12, l13, l14, l15, l16, l17, l18, l19, l20, l21, false, false, false, false, false, false, false, false, false, false, false, false, false, false, false, false, false, false, false, false] ∧ ∃ g49 g53 : Nat, ac = { tmps := #[.agg #[.bool m, .string s, .int .i64 d, .bool n, .string t, .int .i64 e], .agg #[.bool m2, .string s2, .int .i64 d2, .bool n2, .string t2, .int .i64 e2], Value.int IntKind.u8 i, Value.int IntKind.u8 j, .int .i64 p, .pointer (some ⟨w.heap.size, 0, none⟩), .pointer (some ⟨w.heap.size + 1, 0, none⟩), undef, undef, undef, .bool false, .pointer (some ⟨p11, 0, none⟩), .pointer (some ⟨p12, 0, none⟩), undef, undef, undef, undef, .agg #[.bool m, .string s, .int .i64 d, .bool n, .string t, .int .i64 e], .agg #[.bool m2, .string s2, .int .i64 d2, .bool n2, .string t2, .int .i64 e2], .slice (some ⟨w.heap.size + 1 + 1, 0, none⟩) 2 2, .bool false, .bool false, .int .i64 p, .bool false, .bool false, .bool false, .int .i64 p, .bool false, .bool false, undef, .agg #[.bool m, .string s, .int .i64 d, .bool n, .string t, .int .i64 e], Value.int IntKind.u8 i, .agg #[.bool za, .string oa, .int .i64 ea], .agg #[.bool m2, .string s2, .int .i64 d2, .bool n2, .string t2, .int .i64 e2], Value.int IntKind.u8 j, .agg #[.bool zb, .string ob, .int .i64 eb], .agg #[.bool m, .string s, .int .i64 d, .bool n, .string t, .int .i64 e], .agg #[.bool za, .string oa, .int .i64 ea], .bool true, .bool false, .bool false, .agg #[.bool m2, .string s2, .int .i64 d2, .bool n2, .string t2, .int .i64 e2], .agg #[.bool zb, .string ob, .int .i64 eb], .bool true, .bool false, .bool false, .bool false, sel l11 (.agg #[.bool m, .string s, .int .i64 d, .bool n, .string t, .int .i64 e]) (undef), sel l12 (.agg #[.bool m2, .string s2, .int .i64 d2, .bool n2, .string t2, .int .i64 e2]) (undef), sel l13 (.slice (some ⟨g49, 0, none⟩) 2 2) (undef), sel l14 (.agg #[.bool z3, .string o3, .int .i64 e3, .bool z4, .string o4, .int .i64 e4]) (undef), sel l15 (.agg #[.bool za, .string oa, .int .i64 ea]) (undef), sel l16 (.agg #[.bool zb, .string ob, .int .i64 eb]) (undef), sel l17 (.slice (some ⟨g53, 0, none⟩) 2 2) (undef), sel l18 (.agg #[.bool z5, .string o5, .int .i64 e5]) (undef), sel l19 (.bool true) (undef), sel l20 (.bool false) (undef), sel l21 (.bool false) (undef), undef, undef, undef, undef, undef, undef, undef, undef, undef, undef, undef, undef, undef, undef, undef, undef, undef, undef, undef, undef, undef, undef, undef, undef, undef, undef, undef, undef, undef, undef, undef, undef, undef, undef, undef, undef, undef, undef, undef, undef, undef, undef, undef, undef, undef, undef, undef, undef, undef, undef, undef, undef], defers := [] } ∧ Below (w.heap.size) w Wn ∧ (Sk Wn (w.heap.size) 27 m s d n t e) ∧ (Sk Wn (w.heap.size + 1) 27 m2 s2 d2 n2 t2 e2) ∧ (Nk Wn p11 za oa ea) ∧ (Nk Wn p12 zb ob eb) ∧ (On l13 → Off l14 → SAt Wn (some ⟨g49, 0, none⟩) [((m, s, d), (n, t, e)), ((m2, s2, d2), (n2, t2, e2))]) ∧ (On l17 → Off l18 → NAt Wn (some ⟨g53, 0, none⟩) [(za, oa, ea), (zb, ob, eb)])) (by kernel_rfl) (by kernel_rfl) (by kernel_rfl) (by kernel_rfl) hf ?_ ?_ ?_ (by kernel_rfl) ?_ (by decide)
        · exact ⟨false, false, false, false, false, false, false, false, false, false, false, by kernel_rfl, 0, 0, by kernel_rfl, hb, hS, hT, hA, hB, (fun h _ => not_ft h), (fun h _ => not_ft h)⟩
        · rintro L ac Wn ⟨l11, l12, l13, l14, l15, l16, l17, l18, l19, l20, l21, rfl, _⟩
          kernel_rfl
        · refine (seg_all (b := 22) [11, 12, 13, 14, 15, 16, 17, 18, 19, 20, 21] ?_ : ∀ j ∈ [11, 12, 13, 14, 15, 16, 17, 18, 19, 20, 21, 22], j ≠ 22 → _)
          refine lin_cons [] [13, 14, 18, 19, 20, 21] rfl (by kernel_rfl) (by kernel_rfl) ?_ ?_
          · intro L ac Wn hI hi hds hus Kc hK
            obtain ⟨l11, l12, l13, l14, l15, l16, l17, l18, l19, l20, l21, rfl, hI⟩ := hI
            obtain rfl : l11 = false := hi
            obtain ⟨rfl, rfl, rfl, rfl, rfl, rfl, -⟩ : l13 = false ∧ l14 = false ∧ l18 = false ∧ l19 = false ∧ l20 = false ∧ l21 = false ∧ True := hus
            simp only [sel_f] at hI
            obtain ⟨g49, g53, rfl, hb, hS, hT, hA, hB, hW13, hW17⟩ := hI
            obtain ⟨q0, q1, q2, q3, q4, q5, q6, q7, q8, q9, q10, q11⟩ := (hS).facts
            refine lin_yield (.agg #[.bool m, .string s, .int .i64 d, .bool n, .string t, .int .i64 e]) rfl (by go_simp; first | done | with_reducible rfl | assumption) ?_
            exact hK.out _ _ ⟨true, l12, false, false, l15, l16, l17, false, false, false, false, by kernel_rfl, g49, g53, by kernel_rfl, hb, (hS), (hT), (hA), (hB), (fun h _ => not_ft h), (fun z0 z1 => (hW17 z0 z1))⟩
          refine lin_cons [] [13, 14, 18, 19, 20, 21] rfl (by kernel_rfl) (by kernel_rfl) ?_ ?_
          · intro L ac Wn hI hi hds hus Kc hK
            obtain ⟨l11, l12, l13, l14, l15, l16, l17, l18, l19, l20, l21, rfl, hI⟩ := hI
            obtain rfl : l12 = false := hi
            obtain ⟨rfl, rfl, rfl, rfl, rfl, rfl, -⟩ : l13 = false ∧ l14 = false ∧ l18 = false ∧ l19 = false ∧ l20 = false ∧ l21 = false ∧ True := hus
            simp only [sel_f] at hI
            obtain ⟨g49, g53, rfl, hb, hS, hT, hA, hB, hW13, hW17⟩ := hI
            obtain ⟨q0, q1, q2, q3, q4, q5, q6, q7, q8, q9, q10, q11⟩ := (hT).facts
            refine lin_yield (.agg #[.bool m2, .string s2, .int .i64 d2, .bool n2, .string t2, .int .i64 e2]) rfl (by go_simp; first | done | with_reducible rfl | assumption) ?_
            exact hK.out _ _ ⟨l11, true, false, false, l15, l16, l17, false, false, false, false, by kernel_rfl, g49, g53, by kernel_rfl, hb, (hS), (hT), (hA), (hB), (fun h _ => not_ft h), (fun z0 z1 => (hW17 z0 z1))⟩
          refine lin_cons [11, 12] [14, 18, 19, 20, 21] rfl (by kernel_rfl) (by kernel_rfl) ?_ ?_
          · intro L ac Wn hI hi hds hus Kc hK
            obtain ⟨l11, l12, l13, l14, l15, l16, l17, l18, l19, l20, l21, rfl, hI⟩ := hI
            obtain rfl : l13 = false := hi
            obtain ⟨rfl, rfl, -⟩ : l11 = true ∧ l12 = true ∧ True := hds
            obtain ⟨rfl, rfl, rfl, rfl, rfl, -⟩ : l14 = false ∧ l18 = false ∧ l19 = false ∧ l20 = false ∧ l21 = false ∧ True := hus
            simp only [sel_t, sel_f] at hI
            obtain ⟨g49, g53, rfl, hb, hS, hT, hA, hB, hW13, hW17⟩ := hI
            go_simp
            exact hK.out _ _ ⟨true, true, true, false, l15, l16, l17, false, false, false, false, by kernel_rfl, _, g53, by kernel_rfl, (hb.alloc hb.size _), (hS.alloc _), (hT.alloc _), (hA.alloc _), (hB.alloc _), (fun _ _ => SAt.new _ _ _ _ rfl), (fun z0 z1 => (hW17 z0 z1).alloc _)⟩
          refine lin_cons [11, 12, 13] [18, 19, 20, 21] rfl (by kernel_rfl) (by kernel_rfl) ?_ ?_
          · intro L ac Wn hI hi hds hus Kc hK
            obtain ⟨l11, l12, l13, l14, l15, l16, l17, l18, l19, l20, l21, rfl, hI⟩ := hI
            obtain rfl : l14 = false := hi
            obtain ⟨rfl, rfl, rfl, -⟩ : l11 = true ∧ l12 = true ∧ l13 = true ∧ True := hds
            obtain ⟨rfl, rfl, rfl, rfl, -⟩ : l18 = false ∧ l19 = false ∧ l20 = false ∧ l21 = false ∧ True := hus
            simp only [sel_t, sel_f] at hI
            obtain ⟨g49, g53, rfl, hb, hS, hT, hA, hB, hW13, hW17⟩ := hI
            go_simp
            go_fit (sadd_any _ _ [((m, s, d), (n, t, e)), ((m2, s2, d2), (n2, t2, e2))] 2 2 rfl (by omega) (hW13 rfl rfl) HA.out z3 o3 e3 HK.out.1 z4 o4 e4 HK.out.2.1)
            rintro e V ⟨rfl, hq⟩
            exact hK.out _ _ ⟨true, true, true, true, l15, l16, l17, false, false, false, false, by kernel_rfl, g49, g53, by kernel_rfl, (below_next hb hq), (hS.below hq), (hT.below hq), (hA.below hq), (hB.below hq), (fun _ h => not_tf h), (fun z0 z1 => (hW17 z0 z1).below hq)⟩
          refine lin_cons [] [17, 18, 19, 20, 21] rfl (by kernel_rfl) (by kernel_rfl) ?_ ?_
          · intro L ac Wn hI hi hds hus Kc hK
            obtain ⟨l11, l12, l13, l14, l15, l16, l17, l18, l19, l20, l21, rfl, hI⟩ := hI
            obtain rfl : l15 = false := hi
            obtain ⟨rfl, rfl, rfl, rfl, rfl, -⟩ : l17 = false ∧ l18 = false ∧ l19 = false ∧ l20 = false ∧ l21 = false ∧ True := hus
            simp only [sel_f] at hI
            obtain ⟨g49, g53, rfl, hb, hS, hT, hA, hB, hW13, hW17⟩ := hI
            obtain ⟨q0, q1, q2, q3, q4, q5⟩ := (hA).facts
            refine lin_yield (.agg #[.bool za, .string oa, .int .i64 ea]) rfl (by go_simp; first | done | with_reducible rfl | assumption) ?_
            exact hK.out _ _ ⟨l11, l12, l13, l14, true, l16, false, false, false, false, false, by kernel_rfl, g49, g53, by kernel_rfl, hb, (hS), (hT), (hA), (hB), (fun z0 z1 => (hW13 z0 z1)), (fun h _ => not_ft h)⟩
          refine lin_cons [] [17, 18, 19, 20, 21] rfl (by kernel_rfl) (by kernel_rfl) ?_ ?_
          · intro L ac Wn hI hi hds hus Kc hK
            obtain ⟨l11, l12, l13, l14, l15, l16, l17, l18, l19, l20, l21, rfl, hI⟩ := hI
            obtain rfl : l16 = false := hi
            obtain ⟨rfl, rfl, rfl, rfl, rfl, -⟩ : l17 = false ∧ l18 = false ∧ l19 = false ∧ l20 = false ∧ l21 = false ∧ True := hus
            simp only [sel_f] at hI
            obtain ⟨g49, g53, rfl, hb, hS, hT, hA, hB, hW13, hW17⟩ := hI
            obtain ⟨q0, q1, q2, q3, q4, q5⟩ := (hB).facts
            refine lin_yield (.agg #[.bool zb, .string ob, .int .i64 eb]) rfl (by go_simp; first | done | with_reducible rfl | assumption) ?_
            exact hK.out _ _ ⟨l11, l12, l13, l14, l15, true, false, false, false, false, false, by kernel_rfl, g49, g53, by kernel_rfl, hb, (hS), (hT), (hA), (hB), (fun z0 z1 => (hW13 z0 z1)), (fun h _ => not_ft h)⟩
          refine lin_cons [15, 16] [18, 19, 20, 21] rfl (by kernel_rfl) (by kernel_rfl) ?_ ?_
          · intro L ac Wn hI hi hds hus Kc hK
            obtain ⟨l11, l12, l13, l14, l15, l16, l17, l18, l19, l20, l21, rfl, hI⟩ := hI
            obtain rfl : l17 = false := hi
            obtain ⟨rfl, rfl, -⟩ : l15 = true ∧ l16 = true ∧ True := hds
            obtain ⟨rfl, rfl, rfl, rfl, -⟩ : l18 = false ∧ l19 = false ∧ l20 = false ∧ l21 = false ∧ True := hus
            simp only [sel_t, sel_f] at hI
            obtain ⟨g49, g53, rfl, hb, hS, hT, hA, hB, hW13, hW17⟩ := hI
            go_simp
            exact hK.out _ _ ⟨l11, l12, l13, l14, true, true, true, false, false, false, false, by kernel_rfl, g49, _, by kernel_rfl, (hb.alloc hb.size _), (hS.alloc _), (hT.alloc _), (hA.alloc _), (hB.alloc _), (fun z0 z1 => (hW13 z0 z1).alloc _), (fun _ _ => NAt.new _ _ _ _ rfl)⟩
          refine lin_cons [11, 12, 13, 14, 15, 16, 17] [19, 20, 21] rfl (by kernel_rfl) (by kernel_rfl) ?_ ?_
          · intro L ac Wn hI hi hds hus Kc hK
            obtain ⟨l11, l12, l13, l14, l15, l16, l17, l18, l19, l20, l21, rfl, hI⟩ := hI
            obtain rfl : l18 = false := hi
            obtain ⟨rfl, rfl, rfl, rfl, rfl, rfl, rfl, -⟩ : l11 = true ∧ l12 = true ∧ l13 = true ∧ l14 = true ∧ l15 = true ∧ l16 = true ∧ l17 = true ∧ True := hds
            obtain ⟨rfl, rfl, rfl, -⟩ : l19 = false ∧ l20 = false ∧ l21 = false ∧ True := hus
            simp only [sel_t, sel_f] at hI
            obtain ⟨g49, g53, rfl, hb, hS, hT, hA, hB, hW13, hW17⟩ := hI
            go_simp
            go_fit (use_yadd2 HO.out.2.2.2.2.1.ok3 HO.out.2.2.2.2.2.ok3 (hW17 rfl rfl) HK.out.2.2.1)
            rintro e V ⟨rfl, hq⟩
            exact hK.out _ _ ⟨true, true, true, true, true, true, true, true, false, false, false, by kernel_rfl, g49, g53, by kernel_rfl, (below_next hb hq), (hS.below hq), (hT.below hq), (hA.below hq), (hB.below hq), (fun _ h => not_tf h), (fun _ h => not_tf h)⟩
          refine lin_cons [11, 12, 13, 14, 15, 16, 17, 18] [20, 21] rfl (by kernel_rfl) (by kernel_rfl) ?_ ?_
          · intro L ac Wn hI hi hds hus Kc hK
            obtain ⟨l11, l12, l13, l14, l15, l16, l17, l18, l19, l20, l21, rfl, hI⟩ := hI
            obtain rfl : l19 = false := hi
            obtain ⟨rfl, rfl, rfl, rfl, rfl, rfl, rfl, rfl, -⟩ : l11 = true ∧ l12 = true ∧ l13 = true ∧ l14 = true ∧ l15 = true ∧ l16 = true ∧ l17 = true ∧ l18 = true ∧ True := hds
            obtain ⟨rfl, rfl, -⟩ : l20 = false ∧ l21 = false ∧ True := hus
            simp only [sel_t, sel_f] at hI
            obtain ⟨g49, g53, rfl, hb, hS, hT, hA, hB, hW13, hW17⟩ := hI
            go_simp
            go_fit (shas_any _ z3 o3 e3 z4 o4 e4 z5 o5 e5 HC.out.1 HC.out.2.1 HC.out.2.2.1 true HG.out.2.2.1)
            rintro e V ⟨rfl, hq⟩
            exact hK.out _ _ ⟨true, true, true, true, true, true, true, true, true, false, false, by kernel_rfl, g49, g53, by kernel_rfl, (below_next hb hq), (hS.below hq), (hT.below hq), (hA.below hq), (hB.below hq), (fun _ h => not_tf h), (fun _ h => not_tf h)⟩
          refine lin_cons [11, 12, 13, 14, 15, 16, 17, 18, 19] [21] rfl (by kernel_rfl) (by kernel_rfl) ?_ ?_
          · intro L ac Wn hI hi hds hus Kc hK
            obtain ⟨l11, l12, l13, l14, l15, l16, l17, l18, l19, l20, l21, rfl, hI⟩ := hI
            obtain rfl : l20 = false := hi
            obtain ⟨rfl, rfl, rfl, rfl, rfl, rfl, rfl, rfl, rfl, -⟩ : l11 = true ∧ l12 = true ∧ l13 = true ∧ l14 = true ∧ l15 = true ∧ l16 = true ∧ l17 = true ∧ l18 = true ∧ l19 = true ∧ True := hds
            obtain ⟨rfl, -⟩ : l21 = false ∧ True := hus
            simp only [sel_t, sel_f] at hI
            obtain ⟨g49, g53, rfl, hb, hS, hT, hA, hB, hW13, hW17⟩ := hI
            refine lin_yield (.bool false) rfl (by go_simp; first | done | with_reducible rfl | assumption) ?_
            exact hK.out _ _ ⟨true, true, true, true, true, true, true, true, true, true, false, by kernel_rfl, g49, g53, by kernel_rfl, hb, (hS), (hT), (hA), (hB), (fun _ h => not_tf h), (fun _ h => not_tf h)⟩
          refine lin_cons [11, 12, 13, 14, 15, 16, 17, 18, 19, 20] [] rfl (by kernel_rfl) (by kernel_rfl) ?_ lin_nil
          intro L ac Wn hI hi hds hus Kc hK
          obtain ⟨l11, l12, l13, l14, l15, l16, l17, l18, l19, l20, l21, rfl, hI⟩ := hI
          obtain rfl : l21 = false := hi
          obtain ⟨rfl, rfl, rfl, rfl, rfl, rfl, rfl, rfl, rfl, rfl, -⟩ : l11 = true ∧ l12 = true ∧ l13 = true ∧ l14 = true ∧ l15 = true ∧ l16 = true ∧ l17 = true ∧ l18 = true ∧ l19 = true ∧ l20 = true ∧ True := hds
          simp only [sel_t, sel_f] at hI
          obtain ⟨g49, g53, rfl, hb, hS, hT, hA, hB, hW13, hW17⟩ := hI
          refine lin_yield (.bool false) rfl (by go_simp; first | done | with_reducible rfl | assumption) ?_
          exact hK.out _ _ ⟨true, true, true, true, true, true, true, true, true, true, true, by kernel_rfl, g49, g53, by kernel_rfl, hb, (hS), (hT), (hA), (hB), (fun _ h => not_tf h), (fun _ h => not_tf h)⟩
        refine bar_of [11, 12, 13, 14, 15, 16, 17, 18, 19, 20, 21] rfl (by kernel_rfl) ?_
        intro L ac Wn hI hds Kc hK
        obtain ⟨l11, l12, l13, l14, l15, l16, l17, l18, l19, l20, l21, rfl, hI⟩ := hI
        obtain ⟨rfl, rfl, rfl, rfl, rfl, rfl, rfl, rfl, rfl, rfl, rfl, -⟩ : l11 = true ∧ l12 = true ∧ l13 = true ∧ l14 = true ∧ l15 = true ∧ l16 = true ∧ l17 = true ∧ l18 = true ∧ l19 = true ∧ l20 = true ∧ l21 = true ∧ True := hds
        simp only [sel_t] at hI
        obtain ⟨g49, g53, rfl, hb, hS, hT, hA, hB, hW13, hW17⟩ := hI
        clear hW13
        clear hW17
        refine lin_yield (.bool false) rfl (by go_simp; first | done | with_reducible rfl | assumption) ?_
        refine hK.out _ _ (fun fu hf => ?_)
        clear hK Kc
        refine lin_seg 42 [23, 24, 25, 26, 27, 28, 29, 30, 31, 32, 33] 33 (fun L ac Wn => ∃ l23 l24 l25 l26 l27 l28 l29 l30 l31 l32 : Bool, L = #[true, true, true, true, true, true, true, true, true, true, true, true, true, true, true, true, true, true, true, true, true, true, true, l23, l24, l25, l26, l27, l28, l29, l30, l31, l32, false, false, false, false, false, false, false, false, false] ∧ ∃ g64 : Nat, ac = { tmps := #[.agg #[.bool m, .string s, .int .i64 d, .bool n, .string t, .int .i64 e], .agg #[.bool m2, .string s2, .int .i64 d2, .bool n2, .string t2, .int .i64 e2], Value.int IntKind.u8 i, Value.int IntKind.u8 j, .int .i64 p, .pointer (some ⟨w.heap.size, 0, none⟩), .pointer (some ⟨w.heap.size + 1, 0, none⟩), undef, undef, undef, .bool false, .pointer (some ⟨p11, 0, none⟩), .pointer (some ⟨p12, 0, none⟩), undef, undef, undef, undef, .agg #[.bool m, .string s, .int .i64 d, .bool n, .string t, .int .i64 e], .agg #[.bool m2, .string s2, .int .i64 d2, .bool n2, .string t2, .int .i64 e2], .slice (some ⟨w.heap.size + 1 + 1, 0, none⟩) 2 2, .bool false, .bool false, .int .i64 p, .bool false, .bool false, .bool false, .int .i64 p, .bool false, .bool false, undef, .agg #[.bool m, .string s, .int .i64 d, .bool n, .string t, .int .i64 e], Value.int IntKind.u8 i, .agg #[.bool za, .string oa, .int .i64 ea], .agg #[.bool m2, .string s2, .int .i64 d2, .bool n2, .string t2, .int .i64 e2], Value.int IntKind.u8 j, .agg #[.bool zb, .string ob, .int .i64 eb], .agg #[.bool m, .string s, .int .i64 d, .bool n, .string t, .int .i64 e], .agg #[.bool za, .string oa, .int .i64 ea], .bool true, .bool false, .bool false, .agg #[.bool m2, .string s2, .int .i64 d2, .bool n2, .string t2, .int .i64 e2], .agg #[.bool zb, .string ob, .int .i64 eb], .bool true, .bool false, .bool false, .bool false, .agg #[.bool m, .string s, .int .i64 d, .bool n, .string t, .int .i64 e], .agg #[.bool m2, .string s2, .int .i64 d2, .bool n2, .string t2, .int .i64 e2], .slice (some ⟨g49, 0, none⟩) 2 2, .agg #[.bool z3, .string o3, .int .i64 e3, .bool z4, .string o4, .int .i64 e4], .agg #[.bool za, .string oa, .int .i64 ea], .agg #[.bool zb, .string ob, .int .i64 eb], .slice (some ⟨g53, 0, none⟩) 2 2, .agg #[.bool z5, .string o5, .int .i64 e5], .bool true, .bool false, .bool false, .bool false, sel l23 (.agg #[.bool m, .string s, .int .i64 d, .bool n, .string t, .int .i64 e]) (undef), sel l24 (.agg #[.bool m2, .string s2, .int .i64 d2, .bool n2, .string t2, .int .i64 e2]) (undef), sel l25 (.agg #[.bool z6, .string o6, .int .i64 e6, .bool z7, .string o7, .int .i64 e7]) (undef), sel l26 (.agg #[.bool za, .string oa, .int .i64 ea]) (undef), sel l27 (.agg #[.bool zb, .string ob, .int .i64 eb]) (undef), sel l28 (.slice (some ⟨g64, 0, none⟩) 2 2) (undef), sel l29 (.agg #[.bool z8, .string o8, .int .i64 e8]) (undef), sel l30 (.bool true) (undef), sel l31 (.bool false) (undef), sel l32 (.bool false) (undef), undef, undef, undef, undef, undef, undef, undef, undef, undef, undef, undef, undef, undef, undef, undef, undef, undef, undef, undef, undef, undef, undef, undef, undef, undef, undef, undef, undef, undef, undef, undef, undef, undef, undef, undef, undef, undef, undef, undef, undef, undef], defers := [] } ∧ Below (w.heap.size) w Wn ∧ (Sk Wn (w.heap.size) 27 m s d n t e) ∧ (Sk Wn (w.heap.size + 1) 27 m2 s2 d2 n2 t2 e2) ∧ (Nk Wn p11 za oa ea) ∧ (Nk Wn p12 zb ob eb) ∧ (On l28 → Off l29 → NAt Wn (some ⟨g64, 0, none⟩) [(za, oa, ea), (zb, ob, eb)])) (by kernel_rfl) (by kernel_rfl) (by kernel_rfl) (by kernel_rfl) hf ?_ ?_ ?_ (by kernel_rfl) ?_ (by decide)
        · exact ⟨false, false, false, false, false, false, false, false, false, false, by kernel_rfl, 0, by kernel_rfl, hb, hS, hT, hA, hB, (fun h _ => not_ft h)⟩
        · rintro L ac Wn ⟨l23, l24, l25, l26, l27, l28, l29, l30, l31, l32, rfl, _⟩
          kernel_rfl
        · refine (seg_all (b := 33) [23, 24, 25, 26, 27, 28, 29, 30, 31, 32] ?_ : ∀ j ∈ [23, 24, 25, 26, 27, 28, 29, 30, 31, 32, 33], j ≠ 33 → _)
          refine lin_cons [] [25, 29, 30, 31, 32] rfl (by kernel_rfl) (by kernel_rfl) ?_ ?_
          · intro L ac Wn hI hi hds hus Kc hK
            obtain ⟨l23, l24, l25, l26, l27, l28, l29, l30, l31, l32, rfl, hI⟩ := hI
            obtain rfl : l23 = false := hi
            obtain ⟨rfl, rfl, rfl, rfl, rfl, -⟩ : l25 = false ∧ l29 = false ∧ l30 = false ∧ l31 = false ∧ l32 = false ∧ True := hus
            simp only [sel_f] at hI
            obtain ⟨g64, rfl, hb, hS, hT, hA, hB, hW28⟩ := hI
            obtain ⟨q0, q1, q2, q3, q4, q5, q6, q7, q8, q9, q10, q11⟩ := (hS).facts
            refine lin_yield (.agg #[.bool m, .string s, .int .i64 d, .bool n, .string t, .int .i64 e]) rfl (by go_simp; first | done | with_reducible rfl | assumption) ?_
            exact hK.out _ _ ⟨true, l24, false, l26, l27, l28, false, false, false, false, by kernel_rfl, g64, by kernel_rfl, hb, (hS), (hT), (hA), (hB), (fun z0 z1 => (hW28 z0 z1))⟩
          refine lin_cons [] [25, 29, 30, 31, 32] rfl (by kernel_rfl) (by kernel_rfl) ?_ ?_
          · intro L ac Wn hI hi hds hus Kc hK
            obtain ⟨l23, l24, l25, l26, l27, l28, l29, l30, l31, l32, rfl, hI⟩ := hI
            obtain rfl : l24 = false := hi
            obtain ⟨rfl, rfl, rfl, rfl, rfl, -⟩ : l25 = false ∧ l29 = false ∧ l30 = false ∧ l31 = false ∧ l32 = false ∧ True := hus
            simp only [sel_f] at hI
            obtain ⟨g64, rfl, hb, hS, hT, hA, hB, hW28⟩ := hI
            obtain ⟨q0, q1, q2, q3, q4, q5, q6, q7, q8, q9, q10, q11⟩ := (hT).facts
            refine lin_yield (.agg #[.bool m2, .string s2, .int .i64 d2, .bool n2, .string t2, .int .i64 e2]) rfl (by go_simp; first | done | with_reducible rfl | assumption) ?_
            exact hK.out _ _ ⟨l23, true, false, l26, l27, l28, false, false, false, false, by kernel_rfl, g64, by kernel_rfl, hb, (hS), (hT), (hA), (hB), (fun z0 z1 => (hW28 z0 z1))⟩
          refine lin_cons [23, 24] [29, 30, 31, 32] rfl (by kernel_rfl) (by kernel_rfl) ?_ ?_
          · intro L ac Wn hI hi hds hus Kc hK
            obtain ⟨l23, l24, l25, l26, l27, l28, l29, l30, l31, l32, rfl, hI⟩ := hI
            obtain rfl : l25 = false := hi
            obtain ⟨rfl, rfl, -⟩ : l23 = true ∧ l24 = true ∧ True := hds
            obtain ⟨rfl, rfl, rfl, rfl, -⟩ : l29 = false ∧ l30 = false ∧ l31 = false ∧ l32 = false ∧ True := hus
            simp only [sel_t, sel_f] at hI
            obtain ⟨g64, rfl, hb, hS, hT, hA, hB, hW28⟩ := hI
            go_simp
            go_fit (smul_any _ m s d n t e m2 s2 d2 n2 t2 e2 HO.out.1.ok3 HO.out.2.1.ok3 HO.out.2.2.1.ok3 HO.out.2.2.2.1.ok3 u1 w1 x1 u2 w2 x2 u3 w3 x3 u4 w4 x4 HQ.out.1 HQ.out.2.1 HQ.out.2.2.1 HQ.out.2.2.2 z6 o6 e6 HK.out.2.2.2.1 z7 o7 e7 HK.out.2.2.2.2.1)
            rintro e V ⟨rfl, hq⟩
            exact hK.out _ _ ⟨true, true, true, l26, l27, l28, false, false, false, false, by kernel_rfl, g64, by kernel_rfl, (below_next hb hq), (hS.below hq), (hT.below hq), (hA.below hq), (hB.below hq), (fun z0 z1 => (hW28 z0 z1).below hq)⟩
          refine lin_cons [] [28, 29, 30, 31, 32] rfl (by kernel_rfl) (by kernel_rfl) ?_ ?_
          · intro L ac Wn hI hi hds hus Kc hK
            obtain ⟨l23, l24, l25, l26, l27, l28, l29, l30, l31, l32, rfl, hI⟩ := hI
            obtain rfl : l26 = false := hi
            obtain ⟨rfl, rfl, rfl, rfl, rfl, -⟩ : l28 = false ∧ l29 = false ∧ l30 = false ∧ l31 = false ∧ l32 = false ∧ True := hus
            simp only [sel_f] at hI
            obtain ⟨g64, rfl, hb, hS, hT, hA, hB, hW28⟩ := hI
            obtain ⟨q0, q1, q2, q3, q4, q5⟩ := (hA).facts
            refine lin_yield (.agg #[.bool za, .string oa, .int .i64 ea]) rfl (by go_simp; first | done | with_reducible rfl | assumption) ?_
            exact hK.out _ _ ⟨l23, l24, l25, true, l27, false, false, false, false, false, by kernel_rfl, g64, by kernel_rfl, hb, (hS), (hT), (hA), (hB), (fun h _ => not_ft h)⟩
          refine lin_cons [] [28, 29, 30, 31, 32] rfl (by kernel_rfl) (by kernel_rfl) ?_ ?_
          · intro L ac Wn hI hi hds hus Kc hK
            obtain ⟨l23, l24, l25, l26, l27, l28, l29, l30, l31, l32, rfl, hI⟩ := hI
            obtain rfl : l27 = false := hi
            obtain ⟨rfl, rfl, rfl, rfl, rfl, -⟩ : l28 = false ∧ l29 = false ∧ l30 = false ∧ l31 = false ∧ l32 = false ∧ True := hus
            simp only [sel_f] at hI
            obtain ⟨g64, rfl, hb, hS, hT, hA, hB, hW28⟩ := hI
            obtain ⟨q0, q1, q2, q3, q4, q5⟩ := (hB).facts
            refine lin_yield (.agg #[.bool zb, .string ob, .int .i64 eb]) rfl (by go_simp; first | done | with_reducible rfl | assumption) ?_
            exact hK.out _ _ ⟨l23, l24, l25, l26, true, false, false, false, false, false, by kernel_rfl, g64, by kernel_rfl, hb, (hS), (hT), (hA), (hB), (fun h _ => not_ft h)⟩
          refine lin_cons [26, 27] [29, 30, 31, 32] rfl (by kernel_rfl) (by kernel_rfl) ?_ ?_
          · intro L ac Wn hI hi hds hus Kc hK
            obtain ⟨l23, l24, l25, l26, l27, l28, l29, l30, l31, l32, rfl, hI⟩ := hI
            obtain rfl : l28 = false := hi
            obtain ⟨rfl, rfl, -⟩ : l26 = true ∧ l27 = true ∧ True := hds
            obtain ⟨rfl, rfl, rfl, rfl, -⟩ : l29 = false ∧ l30 = false ∧ l31 = false ∧ l32 = false ∧ True := hus
            simp only [sel_t, sel_f] at hI
            obtain ⟨g64, rfl, hb, hS, hT, hA, hB, hW28⟩ := hI
            go_simp
            exact hK.out _ _ ⟨l23, l24, l25, true, true, true, false, false, false, false, by kernel_rfl, _, by kernel_rfl, (hb.alloc hb.size _), (hS.alloc _), (hT.alloc _), (hA.alloc _), (hB.alloc _), (fun _ _ => NAt.new _ _ _ _ rfl)⟩
          refine lin_cons [23, 24, 25, 26, 27, 28] [30, 31, 32] rfl (by kernel_rfl) (by kernel_rfl) ?_ ?_
          · intro L ac Wn hI hi hds hus Kc hK
            obtain ⟨l23, l24, l25, l26, l27, l28, l29, l30, l31, l32, rfl, hI⟩ := hI
            obtain rfl : l29 = false := hi
            obtain ⟨rfl, rfl, rfl, rfl, rfl, rfl, -⟩ : l23 = true ∧ l24 = true ∧ l25 = true ∧ l26 = true ∧ l27 = true ∧ l28 = true ∧ True := hds
            obtain ⟨rfl, rfl, rfl, -⟩ : l30 = false ∧ l31 = false ∧ l32 = false ∧ True := hus
            simp only [sel_t, sel_f] at hI
            obtain ⟨g64, rfl, hb, hS, hT, hA, hB, hW28⟩ := hI
            go_simp
            go_fit (use_ymul2 HO.out.2.2.2.2.1.ok3 HO.out.2.2.2.2.2.ok3 (hW28 rfl rfl) HK.out.2.2.2.2.2.1)
            rintro e V ⟨rfl, hq⟩
            exact hK.out _ _ ⟨true, true, true, true, true, true, true, false, false, false, by kernel_rfl, g64, by kernel_rfl, (below_next hb hq), (hS.below hq), (hT.below hq), (hA.below hq), (hB.below hq), (fun _ h => not_tf h)⟩
          refine lin_cons [23, 24, 25, 26, 27, 28, 29] [31, 32] rfl (by kernel_rfl) (by kernel_rfl) ?_ ?_
          · intro L ac Wn hI hi hds hus Kc hK
            obtain ⟨l23, l24, l25, l26, l27, l28, l29, l30, l31, l32, rfl, hI⟩ := hI
            obtain rfl : l30 = false := hi
            obtain ⟨rfl, rfl, rfl, rfl, rfl, rfl, rfl, -⟩ : l23 = true ∧ l24 = true ∧ l25 = true ∧ l26 = true ∧ l27 = true ∧ l28 = true ∧ l29 = true ∧ True := hds
            obtain ⟨rfl, rfl, -⟩ : l31 = false ∧ l32 = false ∧ True := hus
            simp only [sel_t, sel_f] at hI
            obtain ⟨g64, rfl, hb, hS, hT, hA, hB, hW28⟩ := hI
            go_simp
            go_fit (shas_any _ z6 o6 e6 z7 o7 e7 z8 o8 e8 HC.out.2.2.2.1 HC.out.2.2.2.2.1 HC.out.2.2.2.2.2.1 true HG.out.2.2.2.1)
            rintro e V ⟨rfl, hq⟩
            exact hK.out _ _ ⟨true, true, true, true, true, true, true, true, false, false, by kernel_rfl, g64, by kernel_rfl, (below_next hb hq), (hS.below hq), (hT.below hq), (hA.below hq), (hB.below hq), (fun _ h => not_tf h)⟩
          refine lin_cons [23, 24, 25, 26, 27, 28, 29, 30] [32] rfl (by kernel_rfl) (by kernel_rfl) ?_ ?_
          · intro L ac Wn hI hi hds hus Kc hK
            obtain ⟨l23, l24, l25, l26, l27, l28, l29, l30, l31, l32, rfl, hI⟩ := hI
            obtain rfl : l31 = false := hi
            obtain ⟨rfl, rfl, rfl, rfl, rfl, rfl, rfl, rfl, -⟩ : l23 = true ∧ l24 = true ∧ l25 = true ∧ l26 = true ∧ l27 = true ∧ l28 = true ∧ l29 = true ∧ l30 = true ∧ True := hds
            obtain ⟨rfl, -⟩ : l32 = false ∧ True := hus
            simp only [sel_t, sel_f] at hI
            obtain ⟨g64, rfl, hb, hS, hT, hA, hB, hW28⟩ := hI
            refine lin_yield (.bool false) rfl (by go_simp; first | done | with_reducible rfl | assumption) ?_
            exact hK.out _ _ ⟨true, true, true, true, true, true, true, true, true, false, by kernel_rfl, g64, by kernel_rfl, hb, (hS), (hT), (hA), (hB), (fun _ h => not_tf h)⟩
          refine lin_cons [23, 24, 25, 26, 27, 28, 29, 30, 31] [] rfl (by kernel_rfl) (by kernel_rfl) ?_ lin_nil
          intro L ac Wn hI hi hds hus Kc hK
          obtain ⟨l23, l24, l25, l26, l27, l28, l29, l30, l31, l32, rfl, hI⟩ := hI
          obtain rfl : l32 = false := hi
          obtain ⟨rfl, rfl, rfl, rfl, rfl, rfl, rfl, rfl, rfl, -⟩ : l23 = true ∧ l24 = true ∧ l25 = true ∧ l26 = true ∧ l27 = true ∧ l28 = true ∧ l29 = true ∧ l30 = true ∧ l31 = true ∧ True := hds
          simp only [sel_t, sel_f] at hI
          obtain ⟨g64, rfl, hb, hS, hT, hA, hB, hW28⟩ := hI
          refine lin_yield (.bool false) rfl (by go_simp; first | done | with_reducible rfl | assumption) ?_
          exact hK.out _ _ ⟨true, true, true, true, true, true, true, true, true, true, by kernel_rfl, g64, by kernel_rfl, hb, (hS), (hT), (hA), (hB), (fun _ h => not_tf h)⟩
        refine bar_of [23, 24, 25, 26, 27, 28, 29, 30, 31, 32] rfl (by kernel_rfl) ?_
        intro L ac Wn hI hds Kc hK
        obtain ⟨l23, l24, l25, l26, l27, l28, l29, l30, l31, l32, rfl, hI⟩ := hI
        obtain ⟨rfl, rfl, rfl, rfl, rfl, rfl, rfl, rfl, rfl, rfl, -⟩ : l23 = true ∧ l24 = true ∧ l25 = true ∧ l26 = true ∧ l27 = true ∧ l28 = true ∧ l29 = true ∧ l30 = true ∧ l31 = true ∧ l32 = true ∧ True := hds
        simp only [sel_t] at hI
        obtain ⟨g64, rfl, hb, hS, hT, hA, hB, hW28⟩ := hI
        clear hW28
        refine lin_yield (.bool false) rfl (by go_simp; first | done | with_reducible rfl | assumption) ?_
        refine hK.out _ _ (fun fu hf => ?_)
        clear hK Kc
        refine lin_seg 42 [34, 35, 36, 37, 38, 39, 40, 41] 41 (fun L ac Wn => ∃ l34 l35 l36 l37 l38 l39 l40 : Bool, L = #[true, true, true, true, true, true, true, true, true, true, true, true, true, true, true, true, true, true, true, true, true, true, true, true, true, true, true, true, true, true, true, true, true, true, l34, l35, l36, l37, l38, l39, l40, false] ∧ ∃ g72 : Nat, ac = { tmps := #[.agg #[.bool m, .string s, .int .i64 d, .bool n, .string t, .int .i64 e], .agg #[.bool m2, .string s2, .int .i64 d2, .bool n2, .string t2, .int .i64 e2], Value.int IntKind.u8 i, Value.int IntKind.u8 j, .int .i64 p, .pointer (some ⟨w.heap.size, 0, none⟩), .pointer (some ⟨w.heap.size + 1, 0, none⟩), undef, undef, undef, .bool false, .pointer (some ⟨p11, 0, none⟩), .pointer (some ⟨p12, 0, none⟩), undef, undef, undef, undef, .agg #[.bool m, .string s, .int .i64 d, .bool n, .string t, .int .i64 e], .agg #[.bool m2, .string s2, .int .i64 d2, .bool n2, .string t2, .int .i64 e2], .slice (some ⟨w.heap.size + 1 + 1, 0, none⟩) 2 2, .bool false, .bool false, .int .i64 p, .bool false, .bool false, .bool false, .int .i64 p, .bool false, .bool false, undef, .agg #[.bool m, .string s, .int .i64 d, .bool n, .string t, .int .i64 e], Value.int IntKind.u8 i, .agg #[.bool za, .string oa, .int .i64 ea], .agg #[.bool m2, .string s2, .int .i64 d2, .bool n2, .string t2, .int .i64 e2], Value.int IntKind.u8 j, .agg #[.bool zb, .string ob, .int .i64 eb], .agg #[.bool m, .string s, .int .i64 d, .bool n, .string t, .int .i64 e], .agg #[.bool za, .string oa, .int .i64 ea], .bool true, .bool false, .bool false, .agg #[.bool m2, .string s2, .int .i64 d2, .bool n2, .string t2, .int .i64 e2], .agg #[.bool zb, .string ob, .int .i64 eb], .bool true, .bool false, .bool false, .bool false, .agg #[.bool m, .string s, .int .i64 d, .bool n, .string t, .int .i64 e], .agg #[.bool m2, .string s2, .int .i64 d2, .bool n2, .string t2, .int .i64 e2], .slice (some ⟨g49, 0, none⟩) 2 2, .agg #[.bool z3, .string o3, .int .i64 e3, .bool z4, .string o4, .int .i64 e4], .agg #[.bool za, .string oa, .int .i64 ea], .agg #[.bool zb, .string ob, .int .i64 eb], .slice (some ⟨g53, 0, none⟩) 2 2, .agg #[.bool z5, .string o5, .int .i64 e5], .bool true, .bool false, .bool false, .bool false, .agg #[.bool m, .string s, .int .i64 d, .bool n, .string t, .int .i64 e], .agg #[.bool m2, .string s2, .int .i64 d2, .bool n2, .string t2, .int .i64 e2], .agg #[.bool z6, .string o6, .int .i64 e6, .bool z7, .string o7, .int .i64 e7], .agg #[.bool za, .string oa, .int .i64 ea], .agg #[.bool zb, .string ob, .int .i64 eb], .slice (some ⟨g64, 0, none⟩) 2 2, .agg #[.bool z8, .string o8, .int .i64 e8], .bool true, .bool false, .bool false, .bool false, sel l34 (.agg #[.bool m, .string s, .int .i64 d, .bool n, .string t, .int .i64 e]) (undef), sel l35 (.agg #[.bool m2, .string s2, .int .i64 d2, .bool n2, .string t2, .int .i64 e2]) (undef), sel l36 (.slice (some ⟨g72, 0, none⟩) 2 2) (undef), sel l37 (.agg #[.bool z9, .string o9, .int .i64 e9, .bool z0, .string o0, .int .i64 e0]) (undef), sel l38 (.agg #[.bool za, .string oa, .int .i64 ea]) (undef), sel l39 (.bool true) (undef), sel l40 (.bool false) (undef), undef, undef, undef, undef, undef, undef, undef, undef, undef, undef, undef, undef, undef, undef, undef, undef, undef, undef, undef, undef, undef, undef, undef, undef, undef, undef, undef, undef, undef, undef, undef, undef, undef], defers := [] } ∧ Below (w.heap.size) w Wn ∧ (Sk Wn (w.heap.size) 27 m s d n t e) ∧ (Sk Wn (w.heap.size + 1) 27 m2 s2 d2 n2 t2 e2) ∧ (Nk Wn p11 za oa ea) ∧ (Nk Wn p12 zb ob eb) ∧ (On l36 → Off l37 → SAt Wn (some ⟨g72, 0, none⟩) [((m, s, d), (n, t, e)), ((m2, s2, d2), (n2, t2, e2))])) (by kernel_rfl) (by kernel_rfl) (by kernel_rfl) (by kernel_rfl) hf ?_ ?_ ?_ (by kernel_rfl) ?_ (by decide)
        · exact ⟨false, false, false, false, false, false, false, by kernel_rfl, 0, by kernel_rfl, hb, hS, hT, hA, hB, (fun h _ => not_ft h)⟩
        · rintro L ac Wn ⟨l34, l35, l36, l37, l38, l39, l40, rfl, _⟩
          kernel_rfl
        · refine (seg_all (b := 41) [34, 35, 36, 37, 38, 39, 40] ?_ : ∀ j ∈ [34, 35, 36, 37, 38, 39, 40, 41], j ≠ 41 → _)
          refine lin_cons [] [36, 37, 39, 40] rfl (by kernel_rfl) (by kernel_rfl) ?_ ?_
          · intro L ac Wn hI hi hds hus Kc hK
            obtain ⟨l34, l35, l36, l37, l38, l39, l40, rfl, hI⟩ := hI
            obtain rfl : l34 = false := hi
            obtain ⟨rfl, rfl, rfl, rfl, -⟩ : l36 = false ∧ l37 = false ∧ l39 = false ∧ l40 = false ∧ True := hus
            simp only [sel_f] at hI
            obtain ⟨g72, rfl, hb, hS, hT, hA, hB, hW36⟩ := hI
            obtain ⟨q0, q1, q2, q3, q4, q5, q6, q7, q8, q9, q10, q11⟩ := (hS).facts
            refine lin_yield (.agg #[.bool m, .string s, .int .i64 d, .bool n, .string t, .int .i64 e]) rfl (by go_simp; first | done | with_reducible rfl | assumption) ?_
            exact hK.out _ _ ⟨true, l35, false, false, l38, false, false, by kernel_rfl, g72, by kernel_rfl, hb, (hS), (hT), (hA), (hB), (fun h _ => not_ft h)⟩
          refine lin_cons [] [36, 37, 39, 40] rfl (by kernel_rfl) (by kernel_rfl) ?_ ?_
          · intro L ac Wn hI hi hds hus Kc hK
            obtain ⟨l34, l35, l36, l37, l38, l39, l40, rfl, hI⟩ := hI
            obtain rfl : l35 = false := hi
            obtain ⟨rfl, rfl, rfl, rfl, -⟩ : l36 = false ∧ l37 = false ∧ l39 = false ∧ l40 = false ∧ True := hus
            simp only [sel_f] at hI
            obtain ⟨g72, rfl, hb, hS, hT, hA, hB, hW36⟩ := hI
            obtain ⟨q0, q1, q2, q3, q4, q5, q6, q7, q8, q9, q10, q11⟩ := (hT).facts
            refine lin_yield (.agg #[.bool m2, .string s2, .int .i64 d2, .bool n2, .string t2, .int .i64 e2]) rfl (by go_simp; first | done | with_reducible rfl | assumption) ?_
            exact hK.out _ _ ⟨l34, true, false, false, l38, false, false, by kernel_rfl, g72, by kernel_rfl, hb, (hS), (hT), (hA), (hB), (fun h _ => not_ft h)⟩
          refine lin_cons [34, 35] [37, 39, 40] rfl (by kernel_rfl) (by kernel_rfl) ?_ ?_
          · intro L ac Wn hI hi hds hus Kc hK
            obtain ⟨l34, l35, l36, l37, l38, l39, l40, rfl, hI⟩ := hI
            obtain rfl : l36 = false := hi
            obtain ⟨rfl, rfl, -⟩ : l34 = true ∧ l35 = true ∧ True := hds
            obtain ⟨rfl, rfl, rfl, -⟩ : l37 = false ∧ l39 = false ∧ l40 = false ∧ True := hus
            simp only [sel_t, sel_f] at hI
            obtain ⟨g72, rfl, hb, hS, hT, hA, hB, hW36⟩ := hI
            go_simp
            exact hK.out _ _ ⟨true, true, true, false, l38, false, false, by kernel_rfl, _, by kernel_rfl, (hb.alloc hb.size _), (hS.alloc _), (hT.alloc _), (hA.alloc _), (hB.alloc _), (fun _ _ => SAt.new _ _ _ _ rfl)⟩
          refine lin_cons [34, 35, 36] [39, 40] rfl (by kernel_rfl) (by kernel_rfl) ?_ ?_
          · intro L ac Wn hI hi hds hus Kc hK
            obtain ⟨l34, l35, l36, l37, l38, l39, l40, rfl, hI⟩ := hI
            obtain rfl : l37 = false := hi
            obtain ⟨rfl, rfl, rfl, -⟩ : l34 = true ∧ l35 = true ∧ l36 = true ∧ True := hds
            obtain ⟨rfl, rfl, -⟩ : l39 = false ∧ l40 = false ∧ True := hus
            simp only [sel_t, sel_f] at hI
            obtain ⟨g72, rfl, hb, hS, hT, hA, hB, hW36⟩ := hI
            go_simp
            go_fit (shull_any _ _ [((m, s, d), (n, t, e)), ((m2, s2, d2), (n2, t2, e2))] 2 2 rfl (by omega) (hW36 rfl rfl) HA.out z9 o9 e9 HK.out.2.2.2.2.2.2.1 z0 o0 e0 HK.out.2.2.2.2.2.2.2)
            rintro e V ⟨rfl, hq⟩
            exact hK.out _ _ ⟨true, true, true, true, l38, false, false, by kernel_rfl, g72, by kernel_rfl, (below_next hb hq), (hS.below hq), (hT.below hq), (hA.below hq), (hB.below hq), (fun _ h => not_tf h)⟩
          refine lin_cons [] [39, 40] rfl (by kernel_rfl) (by kernel_rfl) ?_ ?_
          · intro L ac Wn hI hi hds hus Kc hK
            obtain ⟨l34, l35, l36, l37, l38, l39, l40, rfl, hI⟩ := hI
            obtain rfl : l38 = false := hi
            obtain ⟨rfl, rfl, -⟩ : l39 = false ∧ l40 = false ∧ True := hus
            simp only [sel_f] at hI
            obtain ⟨g72, rfl, hb, hS, hT, hA, hB, hW36⟩ := hI
            obtain ⟨q0, q1, q2, q3, q4, q5⟩ := (hA).facts
            refine lin_yield (.agg #[.bool za, .string oa, .int .i64 ea]) rfl (by go_simp; first | done | with_reducible rfl | assumption) ?_
            exact hK.out _ _ ⟨l34, l35, l36, l37, true, false, false, by kernel_rfl, g72, by kernel_rfl, hb, (hS), (hT), (hA), (hB), (fun z0 z1 => (hW36 z0 z1))⟩
          refine lin_cons [34, 35, 36, 37, 38] [40] rfl (by kernel_rfl) (by kernel_rfl) ?_ ?_
          · intro L ac Wn hI hi hds hus Kc hK
            obtain ⟨l34, l35, l36, l37, l38, l39, l40, rfl, hI⟩ := hI
            obtain rfl : l39 = false := hi
            obtain ⟨rfl, rfl, rfl, rfl, rfl, -⟩ : l34 = true ∧ l35 = true ∧ l36 = true ∧ l37 = true ∧ l38 = true ∧ True := hds
            obtain ⟨rfl, -⟩ : l40 = false ∧ True := hus
            simp only [sel_t, sel_f] at hI
            obtain ⟨g72, rfl, hb, hS, hT, hA, hB, hW36⟩ := hI
            go_simp
            go_fit (shas_any _ z9 o9 e9 z0 o0 e0 za oa ea HC.out.2.2.2.2.2.2.1 HC.out.2.2.2.2.2.2.2 HO.out.2.2.2.2.1.ok3 true HG.out.2.2.2.2)
            rintro e V ⟨rfl, hq⟩
            exact hK.out _ _ ⟨true, true, true, true, true, true, false, by kernel_rfl, g72, by kernel_rfl, (below_next hb hq), (hS.below hq), (hT.below hq), (hA.below hq), (hB.below hq), (fun _ h => not_tf h)⟩
          refine lin_cons [34, 35, 36, 37, 38, 39] [] rfl (by kernel_rfl) (by kernel_rfl) ?_ lin_nil
          intro L ac Wn hI hi hds hus Kc hK
          obtain ⟨l34, l35, l36, l37, l38, l39, l40, rfl, hI⟩ := hI
          obtain rfl : l40 = false := hi
          obtain ⟨rfl, rfl, rfl, rfl, rfl, rfl, -⟩ : l34 = true ∧ l35 = true ∧ l36 = true ∧ l37 = true ∧ l38 = true ∧ l39 = true ∧ True := hds
          simp only [sel_t, sel_f] at hI
          obtain ⟨g72, rfl, hb, hS, hT, hA, hB, hW36⟩ := hI
          refine lin_yield (.bool false) rfl (by go_simp; first | done | with_reducible rfl | assumption) ?_
          exact hK.out _ _ ⟨true, true, true, true, true, true, true, by kernel_rfl, g72, by kernel_rfl, hb, (hS), (hT), (hA), (hB), (fun _ h => not_tf h)⟩
        refine bar_of [34, 35, 36, 37, 38, 39, 40] rfl (by kernel_rfl) ?_
        intro L ac Wn hI hds Kc hK
        obtain ⟨l34, l35, l36, l37, l38, l39, l40, rfl, hI⟩ := hI
        obtain ⟨rfl, rfl, rfl, rfl, rfl, rfl, rfl, -⟩ : l34 = true ∧ l35 = true ∧ l36 = true ∧ l37 = true ∧ l38 = true ∧ l39 = true ∧ l40 = true ∧ True := hds
        simp only [sel_t] at hI
        obtain ⟨g72, rfl, hb, hS, hT, hA, hB, hW36⟩ := hI
        clear hW36
        refine lin_yield (.bool false) rfl (by go_simp; first | done | with_reducible rfl | assumption) ?_
        refine hK.out _ _ (fun fu hf => wpAnyH_done (by kernel_rfl) ?_ _)
        clear hK Kc hf
        obtain ⟨hS0, hS1, hS2, hS3, hS4, hS5⟩ := hS.cells
        obtain ⟨hT0, hT1, hT2, hT3, hT4, hT5⟩ := hT.cells
        go_wp2_with fail
        clear hS0 hS1 hS2 hS3 hS4 hS5 hT0 hT1 hT2 hT3 hT4 hT5
        obtain ⟨rz, hz⟩ : ∃ r, hasD (dlo (nv m2 s2 d2) (nv n2 t2 e2)) (dhi (nv m2 s2 d2) (nv n2 t2 e2)) 0 = r := ⟨_, rfl⟩
        cases rz with
        | true =>
          have HZ := Lib.hid hz
          have n0 : nv false ⟨#[]⟩ 0 = 0 := by kernel_rfl
          have HZ0 := Lib.hid (show hasD (dlo (nv m2 s2 d2) (nv n2 t2 e2)) (dhi (nv m2 s2 d2) (nv n2 t2 e2)) (nv false ⟨#[]⟩ 0) = true by rw [n0]; exact hz)
          clear hz n0
          refine (div_none _ m s d n t e m2 s2 d2 n2 t2 e2 p HO.out.2.2.1.ok3 HO.out.2.2.2.1.ok3 HZ.out).mono ?_
          rintro e' V5 ⟨rfl, hq⟩
          replace hb := below_next hb hq
          replace hT := hT.below hq
          clear hq hS hA hB
          replace hT := hT.alloc (Obj.cells #[Value.bool false, Value.string { data := #[] }, Value.int IntKind.i64 0, Value.bool false, Value.string { data := #[] }, Value.int IntKind.i64 0] 27)
          replace hb := hb.alloc hb.size (Obj.cells #[Value.bool false, Value.string { data := #[] }, Value.int IntKind.i64 0, Value.bool false, Value.string { data := #[] }, Value.int IntKind.i64 0] 27)
          obtain ⟨hT0, hT1, hT2, hT3, hT4, hT5⟩ := hT.cells
          go_wp2_with fail
          refine (shas_any _ m2 s2 d2 n2 t2 e2 false ⟨#[]⟩ 0 HO.out.2.2.1.ok3 HO.out.2.2.2.1.ok3 (by unfold Ok3; decide) true HZ0.out).mono ?_
          rintro e' V6 ⟨rfl, hq⟩
          replace hb := below_next hb hq
          clear hq hT hT0 hT1 hT2 hT3 hT4 hT5
          go_wp2_with fail
          refine (sawake_any _).mono ?_
          rintro e' V9 ⟨rfl, hq⟩
          replace hb := below_next hb hq
          go_wp2
          go_ret
          exact ⟨rfl, hb⟩
        | false =>
          have HZ := Lib.hid hz
          have la := HL.out.1
          have lb := HL.out.2
          have ln : ∀ {x : Dyadic}, x = nv m2 s2 d2 ∨ x = nv n2 t2 e2 → x.toRat ≠ 0 := by
            intro x hx
            have y1 := dlo_spec (nv m2 s2 d2) (nv n2 t2 e2)
            have y2 := dhi_spec (nv m2 s2 d2) (nv n2 t2 e2)
            rcases hx with rfl | rfl
            · exact in_nonzero hz ⟨y1.1, y2.1⟩
            · exact in_nonzero hz ⟨y1.2.1, y2.2.1⟩
          have nz1 : wv m2 s2 ≠ 0 := not_zero (ln (.inl rfl))
          have nz2 : wv n2 t2 ≠ 0 := not_zero (ln (.inr rfl))
          have nzb : wv zb ob ≠ 0 := not_zero (in_nonzero hz lb)
          clear ln
          have hpp : -500 ≤ p ∧ p ≤ 500 := by omega
          obtain ⟨kS, kT, kS2, kT2, oka, okb⟩ := HO.out
          obtain ⟨f1, g1, h1, r1⟩ := df_some (qlo (nv m s d) (nv m2 s2 d2) p)
          obtain ⟨ff1, gg1, hh1, rr1⟩ := df_some (qhi (nv m s d) (nv m2 s2 d2) p)
          have ok1 := quo_ok hpp kS kS2 nz1 r1 rr1
          obtain ⟨f2, g2, h2, r2⟩ := df_some (qlo (nv m s d) (nv n2 t2 e2) p)
          obtain ⟨ff2, gg2, hh2, rr2⟩ := df_some (qhi (nv m s d) (nv n2 t2 e2) p)
          have ok2 := quo_ok hpp kS kT2 nz2 r2 rr2
          obtain ⟨f3, g3, h3, r3⟩ := df_some (qlo (nv n t e) (nv m2 s2 d2) p)
          obtain ⟨ff3, gg3, hh3, rr3⟩ := df_some (qhi (nv n t e) (nv m2 s2 d2) p)
          have ok3 := quo_ok hpp kT kS2 nz1 r3 rr3
          obtain ⟨f4, g4, h4, r4⟩ := df_some (qlo (nv n t e) (nv n2 t2 e2) p)
          obtain ⟨ff4, gg4, hh4, rr4⟩ := df_some (qhi (nv n t e) (nv n2 t2 e2) p)
          have ok4 := quo_ok hpp kT kT2 nz2 r4 rr4
          obtain ⟨zl, ol, el, kl⟩ := df_some (farD (-1) ([((f1, g1, h1), (ff1, gg1, hh1)), ((f2, g2, h2), (ff2, gg2, hh2)), ((f3, g3, h3), (ff3, gg3, hh3)), ((f4, g4, h4), (ff4, gg4, hh4))].map lowS) 4)
          obtain ⟨zh, oh, eh, kh⟩ := df_some (farD 1 ([((f1, g1, h1), (ff1, gg1, hh1)), ((f2, g2, h2), (ff2, gg2, hh2)), ((f3, g3, h3), (ff3, gg3, hh3)), ((f4, g4, h4), (ff4, gg4, hh4))].map highS) 4)
          have fl := far4_low (lowS ((f1, g1, h1), (ff1, gg1, hh1))) (lowS ((f2, g2, h2), (ff2, gg2, hh2))) (lowS ((f3, g3, h3), (ff3, gg3, hh3))) (lowS ((f4, g4, h4), (ff4, gg4, hh4)))
          have fh := far4_high (highS ((f1, g1, h1), (ff1, gg1, hh1))) (highS ((f2, g2, h2), (ff2, gg2, hh2))) (highS ((f3, g3, h3), (ff3, gg3, hh3))) (highS ((f4, g4, h4), (ff4, gg4, hh4)))
          have okl : Ok3 ol el := by
            rcases fl.2.2.2.2 with h | h | h | h
            · exact low_same (x := (f1, g1, h1)) (y := (ff1, gg1, hh1)) r1 rr1 ok1.1 ok1.2 (by rw [← h]; exact kl)
            · exact low_same (x := (f2, g2, h2)) (y := (ff2, gg2, hh2)) r2 rr2 ok2.1 ok2.2 (by rw [← h]; exact kl)
            · exact low_same (x := (f3, g3, h3)) (y := (ff3, gg3, hh3)) r3 rr3 ok3.1 ok3.2 (by rw [← h]; exact kl)
            · exact low_same (x := (f4, g4, h4)) (y := (ff4, gg4, hh4)) r4 rr4 ok4.1 ok4.2 (by rw [← h]; exact kl)
          have okh : Ok3 oh eh := by
            rcases fh.2.2.2.2 with h | h | h | h
            · exact high_same (x := (f1, g1, h1)) (y := (ff1, gg1, hh1)) r1 rr1 ok1.1 ok1.2 (by rw [← h]; exact kh)
            · exact high_same (x := (f2, g2, h2)) (y := (ff2, gg2, hh2)) r2 rr2 ok2.1 ok2.2 (by rw [← h]; exact kh)
            · exact high_same (x := (f3, g3, h3)) (y := (ff3, gg3, hh3)) r3 rr3 ok3.1 ok3.2 (by rw [← h]; exact kh)
            · exact high_same (x := (f4, g4, h4)) (y := (ff4, gg4, hh4)) r4 rr4 ok4.1 ok4.2 (by rw [← h]; exact kh)
          have ll1 : (nvl (lowS ((f1, g1, h1), (ff1, gg1, hh1)))).toRat ≤ (nv f1 g1 h1).toRat := by
            rw [show nvl (lowS ((f1, g1, h1), (ff1, gg1, hh1))) = dlo (nv f1 g1 h1) (nv ff1 gg1 hh1) from lowN_val _ _]
            exact (dlo_spec _ _).1
          have lh1 : (nv ff1 gg1 hh1).toRat ≤ (nvl (highS ((f1, g1, h1), (ff1, gg1, hh1)))).toRat := by
            rw [show nvl (highS ((f1, g1, h1), (ff1, gg1, hh1))) = dhi (nv f1 g1 h1) (nv ff1 gg1 hh1) from highN_val _ _]
            exact (dhi_spec _ _).2.1
          rw [form_nv r1] at ll1
          rw [form_nv rr1] at lh1
          have ll2 : (nvl (lowS ((f2, g2, h2), (ff2, gg2, hh2)))).toRat ≤ (nv f2 g2 h2).toRat := by
            rw [show nvl (lowS ((f2, g2, h2), (ff2, gg2, hh2))) = dlo (nv f2 g2 h2) (nv ff2 gg2 hh2) from lowN_val _ _]
            exact (dlo_spec _ _).1
          have lh2 : (nv ff2 gg2 hh2).toRat ≤ (nvl (highS ((f2, g2, h2), (ff2, gg2, hh2)))).toRat := by
            rw [show nvl (highS ((f2, g2, h2), (ff2, gg2, hh2))) = dhi (nv f2 g2 h2) (nv ff2 gg2 hh2) from highN_val _ _]
            exact (dhi_spec _ _).2.1
          rw [form_nv r2] at ll2
          rw [form_nv rr2] at lh2
          have ll3 : (nvl (lowS ((f3, g3, h3), (ff3, gg3, hh3)))).toRat ≤ (nv f3 g3 h3).toRat := by
            rw [show nvl (lowS ((f3, g3, h3), (ff3, gg3, hh3))) = dlo (nv f3 g3 h3) (nv ff3 gg3 hh3) from lowN_val _ _]
            exact (dlo_spec _ _).1
          have lh3 : (nv ff3 gg3 hh3).toRat ≤ (nvl (highS ((f3, g3, h3), (ff3, gg3, hh3)))).toRat := by
            rw [show nvl (highS ((f3, g3, h3), (ff3, gg3, hh3))) = dhi (nv f3 g3 h3) (nv ff3 gg3 hh3) from highN_val _ _]
            exact (dhi_spec _ _).2.1
          rw [form_nv r3] at ll3
          rw [form_nv rr3] at lh3
          have ll4 : (nvl (lowS ((f4, g4, h4), (ff4, gg4, hh4)))).toRat ≤ (nv f4 g4 h4).toRat := by
            rw [show nvl (lowS ((f4, g4, h4), (ff4, gg4, hh4))) = dlo (nv f4 g4 h4) (nv ff4 gg4 hh4) from lowN_val _ _]
            exact (dlo_spec _ _).1
          have lh4 : (nv ff4 gg4 hh4).toRat ≤ (nvl (highS ((f4, g4, h4), (ff4, gg4, hh4)))).toRat := by
            rw [show nvl (highS ((f4, g4, h4), (ff4, gg4, hh4))) = dhi (nv f4 g4 h4) (nv ff4 gg4 hh4) from highN_val _ _]
            exact (dhi_spec _ _).2.1
          rw [form_nv r4] at ll4
          rw [form_nv rr4] at lh4
          have vl := form_nv kl
          have vh := form_nv kh
          have hin := in_quo (p := p) (lo := nv zl ol el) (hi := nv zh oh eh) hz (by rw [vl]; exact Rat.le_trans fl.1 ll1) (by rw [vl]; exact Rat.le_trans fl.2.1 ll2) (by rw [vl]; exact Rat.le_trans fl.2.2.1 ll3) (by rw [vl]; exact Rat.le_trans fl.2.2.2.1 ll4)
            (by rw [vh]; exact Rat.le_trans lh1 fh.1) (by rw [vh]; exact Rat.le_trans lh2 fh.2.1) (by rw [vh]; exact Rat.le_trans lh3 fh.2.2.1) (by rw [vh]; exact Rat.le_trans lh4 fh.2.2.2.1) la lb
          obtain ⟨xl, yl, tl, jl⟩ := df_some (qlo (nv za oa ea) (nv zb ob eb) p)
          obtain ⟨xh, yh, th, jh⟩ := df_some (qhi (nv za oa ea) (nv zb ob eb) p)
          have okq := quo_ok hpp oka okb nzb jl jh
          have hwi : (hasD (dlo (nv zl ol el) (nv zh oh eh)) (dhi (nv zl ol el) (nv zh oh eh)) (nv xl yl tl) && hasD (dlo (nv zl ol el) (nv zh oh eh)) (dhi (nv zl ol el) (nv zh oh eh)) (nv xh yh th)) = true := by
            rw [form_nv jl, form_nv jh, has_of hin.1 (Rat.le_trans hin.2.1 hin.2.2), has_of (Rat.le_trans hin.1 hin.2.1) hin.2.2]
            rfl
          have HM := Lib.hid (And.intro okl (And.intro okh (And.intro okq hwi)))
          have HN := Lib.hid (And.intro nzb (And.intro jl jh))
          clear kS kT kS2 kT2 oka okb nz1 nz2 nzb hz la lb vl vh fl fh hin okl okh okq hwi ll1 ll2 ll3 ll4 lh1 lh2 lh3 lh4 ok1 ok2 ok3 ok4 jl jh
          have HO2 := Lib.hid (And.intro kl kh)
          clear kl kh
          refine (div_some _ m s d n t e m2 s2 d2 n2 t2 e2 p hpp HO.out.1 HO.out.2.1 HO.out.2.2.1 HO.out.2.2.2.1 HZ.out f1 g1 h1 ff1 gg1 hh1 f2 g2 h2 ff2 gg2 hh2 f3 g3 h3 ff3 gg3 hh3 f4 g4 h4 ff4 gg4 hh4 r1 rr1 r2 rr2 r3 rr3 r4 rr4 zl ol el HO2.out.1 zh oh eh HO2.out.2).mono ?_
          clear r1 rr1 r2 rr2 r3 rr3 r4 rr4
          rintro e' V5 ⟨rfl, hq⟩
          replace hb := below_next hb hq
          replace hA := hA.below hq
          replace hB := hB.below hq
          clear hq hS hT
          have hD := Sk.new V5 27 zl ol el zh oh eh
          replace hA := hA.alloc (Obj.cells #[Value.bool zl, Value.string ol, Value.int IntKind.i64 el, Value.bool zh, Value.string oh, Value.int IntKind.i64 eh] 27)
          replace hB := hB.alloc (Obj.cells #[Value.bool zl, Value.string ol, Value.int IntKind.i64 el, Value.bool zh, Value.string oh, Value.int IntKind.i64 eh] 27)
          replace hb := hb.alloc hb.size (Obj.cells #[Value.bool zl, Value.string ol, Value.int IntKind.i64 el, Value.bool zh, Value.string oh, Value.int IntKind.i64 eh] 27)
          obtain ⟨hA0, hA1, hA2⟩ := hA.cells
          obtain ⟨hB0, hB1, hB2⟩ := hB.cells
          go_wp2_with fail
          generalize (V5.alloc (Obj.cells #[Value.bool zl, Value.string ol, Value.int IntKind.i64 el, Value.bool zh, Value.string oh, Value.int IntKind.i64 eh] 27)) = V6 at *
          generalize V5.heap.size = PD at *
          refine (squo_any _ za oa ea zb ob eb p (by omega) HO.out.2.2.2.2.1 HO.out.2.2.2.2.2 HN.out.1 xl yl tl HN.out.2.1 xh yh th HN.out.2.2).mono ?_
          rintro e' V7 ⟨rfl, hq⟩
          replace hb := below_next hb hq
          replace hD := hD.below hq
          clear hq hA hB hA0 hA1 hA2 hB0 hB1 hB2
          have hQ := Sk.new V7 27 xl yl tl xh yh th
          replace hD := hD.alloc (Obj.cells #[Value.bool xl, Value.string yl, Value.int IntKind.i64 tl, Value.bool xh, Value.string yh, Value.int IntKind.i64 th] 27)
          replace hb := hb.alloc hb.size (Obj.cells #[Value.bool xl, Value.string yl, Value.int IntKind.i64 tl, Value.bool xh, Value.string yh, Value.int IntKind.i64 th] 27)
          obtain ⟨hD0, hD1, hD2, hD3, hD4, hD5⟩ := hD.cells
          obtain ⟨hQ0, hQ1, hQ2, hQ3, hQ4, hQ5⟩ := hQ.cells
          go_wp2_with fail
          refine (swithin_any _ xl yl tl xh yh th zl ol el zh oh eh HM.out.2.2.1.1 HM.out.2.2.1.2 HM.out.1 HM.out.2.1 true HM.out.2.2.2).mono ?_
          rintro e' V8 ⟨rfl, hq⟩
          replace hb := below_next hb hq
          clear hq hD hQ hD0 hD1 hD2 hD3 hD4 hD5 hQ0 hQ1 hQ2 hQ3 hQ4 hQ5
          go_wp2_with fail
          refine (sawake_any _).mono ?_
          rintro e' V9 ⟨rfl, hq⟩
          replace hb := below_next hb hq
          go_wp2
          go_ret
          exact ⟨rfl, hb⟩
end Go.Proofs.YthggjlkeadjhcaaGreatDoor
