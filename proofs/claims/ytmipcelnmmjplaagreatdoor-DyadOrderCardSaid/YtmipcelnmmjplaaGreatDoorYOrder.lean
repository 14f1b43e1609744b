/- DyadOrder: for every input it answers true. -/
import Derived.Test.YtmipcelnmmjplaaGreatDoorY17
import Derived.Test.YtmipcelnmmjplaaGreatDoorYBnd
import Derived.Test.YtmipcelnmmjplaaGreatDoorYAwake
import Derived.Test.YtmipcelnmmjplaaGreatDoorYFormsL
import Derived.Test.YtmipcelnmmjplaaGreatDoorHL
import Derived.Test.YtmipcelnmmjplaaGreatDoorYRat
namespace Go.Proofs.YtmipcelnmmjplaaGreatDoor
open Go.RowKit Go.Shelf

/-- The order of dyadic numbers, by signs of differences. -/
theorem dsg_neg (x : Dyadic) : dsg (-x) = -dsg x := by
  obtain ⟨m, s, e, h⟩ := df_some x
  rw [← form_nv h, nv_neg, sgn_nv, sgn_nv]
  have hw : wv (!m) s = -wv m s := by cases m <;> simp [wv]
  rw [hw]
  rcases sg_cases (wv m s) with ⟨h1, h2⟩ | ⟨h1, h2⟩ | ⟨h1, h2⟩ <;> rcases sg_cases (-wv m s) with ⟨h3, h4⟩ | ⟨h3, h4⟩ | ⟨h3, h4⟩ <;> omega
theorem dsg_mul (x y : Dyadic) : dsg (x * y) = dsg x * dsg y := by
  obtain ⟨m, s, d, h⟩ := df_some x
  obtain ⟨n, t, e, k⟩ := df_some y
  rw [← form_nv h, ← form_nv k]
  obtain ⟨z, o, ez, vz, _⟩ := times_nmw m n s t (k := s.size) (l := t.size) (Nat.le_refl _) (Nat.le_refl _)
  rw [← nv_times d e ez, sgn_nv, sgn_nv, sgn_nv, vz, sg_mul]
theorem dsg_swap (x y : Dyadic) : dsg (y - x) = -dsg (x - y) := by
  rw [← dsg_neg]
  congr 1
  rw [← Dyadic.toRat_inj, Dyadic.toRat_neg, Dyadic.toRat_sub, Dyadic.toRat_sub]
  grind
theorem dsg_add (x y z : Dyadic) : dsg (x + z - (y + z)) = dsg (x - y) := by
  congr 1
  rw [← Dyadic.toRat_inj, Dyadic.toRat_sub, Dyadic.toRat_sub, Dyadic.toRat_add, Dyadic.toRat_add]
  grind
theorem dsg_times (x y z : Dyadic) : dsg (x * z - y * z) = dsg (x - y) * dsg z := by
  rw [← dsg_mul]
  congr 1
  rw [← Dyadic.toRat_inj, Dyadic.toRat_sub, Dyadic.toRat_mul, Dyadic.toRat_mul, Dyadic.toRat_mul, Dyadic.toRat_sub]
  grind

theorem half_left {x y : Dyadic} {z : Bool} {o : ByteArray} {e : Int} (h : nv z o e = x + y) : dsg (x - nv z o (e + -1)) = dsg (x - y) := by
  have h1 : x - y = (x - nv z o (e + -1)) * nv false ⟨#[1]⟩ 1 := by
    rw [← Dyadic.toRat_inj] at h ⊢
    rw [nv_toRat, Dyadic.toRat_add] at h
    rw [Dyadic.toRat_mul, Dyadic.toRat_sub, Dyadic.toRat_sub, nv_toRat, nv_toRat, Rat.zpow_add (by decide)]
    rw [show (wv false ⟨#[1]⟩ : Int) = 1 by kernel_rfl]
    grind
  rw [h1, dsg_mul, sgn_nv, show sg (wv false ⟨#[1]⟩) = 1 by kernel_rfl, Int.mul_one]
theorem half_right {x y : Dyadic} {z : Bool} {o : ByteArray} {e : Int} (h : nv z o e = x + y) : dsg (nv z o (e + -1) - y) = dsg (x - y) := by
  have h1 : x - y = (nv z o (e + -1) - y) * nv false ⟨#[1]⟩ 1 := by
    rw [← Dyadic.toRat_inj] at h ⊢
    rw [nv_toRat, Dyadic.toRat_add] at h
    rw [Dyadic.toRat_mul, Dyadic.toRat_sub, Dyadic.toRat_sub, nv_toRat, nv_toRat, Rat.zpow_add (by decide)]
    rw [show (wv false ⟨#[1]⟩ : Int) = 1 by kernel_rfl]
    grind
  rw [h1, dsg_mul, sgn_nv, show sg (wv false ⟨#[1]⟩) = 1 by kernel_rfl, Int.mul_one]
theorem half_bnd {x : Dyadic} {z : Bool} {o : ByteArray} {e : Int} (h : Bnd x 276 500) (hd : df x = nu z o e) : Bnd (nv z o (e + -1)) 620 501 := by
  obtain ⟨h1, h2, h3⟩ := h.form hd
  exact (Bnd.of (B := 276) (K := 342) 501 h1 (by omega) (by omega)).mono (by omega)

theorem index3_0 (W : World) (a b c : Bool) (o p q : ByteArray) (d e f : Int) : Sem.run Tryz.prog (Instr.index 33 (.agg #[.bool a, .string o, .int .i64 d, .bool b, .string p, .int .i64 e, .bool c, .string q, .int .i64 f]) (.int .i64 0)) W = .ok (.agg #[.bool a, .string o, .int .i64 d]) W := by kernel_rfl
theorem index3_1 (W : World) (a b c : Bool) (o p q : ByteArray) (d e f : Int) : Sem.run Tryz.prog (Instr.index 33 (.agg #[.bool a, .string o, .int .i64 d, .bool b, .string p, .int .i64 e, .bool c, .string q, .int .i64 f]) (.int .i64 1)) W = .ok (.agg #[.bool b, .string p, .int .i64 e]) W := by kernel_rfl
theorem index3_2 (W : World) (a b c : Bool) (o p q : ByteArray) (d e f : Int) : Sem.run Tryz.prog (Instr.index 33 (.agg #[.bool a, .string o, .int .i64 d, .bool b, .string p, .int .i64 e, .bool c, .string q, .int .i64 f]) (.int .i64 2)) W = .ok (.agg #[.bool c, .string q, .int .i64 f]) W := by kernel_rfl
theorem not_take {l : List NV} {x : NV} {k : Nat} (hk : k < l.length) (h : x ∉ l.take k) (hne : ¬l[k] = x) : x ∉ l.take (k + 1) := by
  rw [List.take_succ_eq_append_getElem hk, List.mem_append]
  rintro (h1 | h1)
  · exact h h1
  · exact hne (List.mem_singleton.1 h1).symm
theorem same_text {o q : ByteArray} (h : o.toList = q.toList) : o = q := by
  rw [Lib.toList_data, Lib.toList_data] at h
  obtain ⟨⟨a⟩⟩ := o
  obtain ⟨⟨b⟩⟩ := q
  simp only at h
  rw [h]
theorem first_diff {a b : Bool} {o q : ByteArray} {i j : Int} (h : ¬(a, o, i) = (b, q, j)) : ¬a = b ∨ (a = b ∧ ¬o.toList = q.toList) ∨ (a = b ∧ o = q ∧ ¬i = j) := by
  by_cases h1 : a = b
  · by_cases h2 : o.toList = q.toList
    · exact .inr (.inr ⟨h1, same_text h2, fun h3 => h (by rw [h1, same_text h2, h3])⟩)
    · exact .inr (.inl ⟨h1, h2⟩)
  · exact .inl h1
/-- What has been seen, as bits. -/
def seenI (b1 b2 : Bool) : Int := (if b1 then 1 else 0) + (if b2 then 2 else 0)
theorem or_one (b1 b2 : Bool) : bits BinOp.or IntKind.i64 (seenI b1 b2) 1 = seenI true b2 := by cases b1 <;> cases b2 <;> kernel_rfl
theorem or_two (b1 b2 : Bool) : bits BinOp.or IntKind.i64 (seenI b1 b2) 2 = seenI b1 true := by cases b1 <;> cases b2 <;> kernel_rfl
set_option maxRecDepth 100000 in
set_option maxHeartbeats 64000000 in
theorem order_law (w : World) (m : Bool) (s : ByteArray) (d : Int) (_h0 : s.size ≤ maxLen) (_g0 : (Lit.int .i64 d).wf = true) (n : Bool) (t : ByteArray) (e : Int) (_h1 : t.size ≤ maxLen) (_g1 : (Lit.int .i64 e).wf = true) (p : Bool) (u : ByteArray) (f : Int) (_h2 : u.size ≤ maxLen) (_g2 : (Lit.int .i64 f).wf = true) :
    Calls Tryz.prog 3 #[nu m s d, nu n t e, nu p u f] w (Ret (.bool true) w) := by
  clear _h0 _h1 _h2 _g0 _g1 _g2
  obtain ⟨r, hr⟩ : ∃ r, longD 150 500 [(m, s, d), (n, t, e), (p, u, f)] = r := ⟨_, rfl⟩
  have HR := Lib.hid hr
  cases r with
  | true =>
    clear hr
    unfold nu
    go_enter Tryz.func3, Tryz.ntmps3
    go_wp2_with fail
    obtain ⟨hA, hB, hC, hb⟩ := nblk3 w m n p s t u d e f
    have hrow := NAt.new (((w.alloc (Obj.cells #[Value.bool m, Value.string s, Value.int IntKind.i64 d] 25)).alloc (Obj.cells #[Value.bool n, Value.string t, Value.int IntKind.i64 e] 25)).alloc (Obj.cells #[Value.bool p, Value.string u, Value.int IntKind.i64 f] 25)) 25 [(m, s, d), (n, t, e), (p, u, f)] #[.bool m, .string s, .int .i64 d, .bool n, .string t, .int .i64 e, .bool p, .string u, .int .i64 f] rfl
    rw [World.size_alloc, World.size_alloc, World.size_alloc] at hrow
    replace hA := hA.alloc (Obj.cells #[Value.bool m, Value.string s, Value.int IntKind.i64 d, Value.bool n, Value.string t, Value.int IntKind.i64 e, Value.bool p, Value.string u, Value.int IntKind.i64 f] 25)
    replace hB := hB.alloc (Obj.cells #[Value.bool m, Value.string s, Value.int IntKind.i64 d, Value.bool n, Value.string t, Value.int IntKind.i64 e, Value.bool p, Value.string u, Value.int IntKind.i64 f] 25)
    replace hC := hC.alloc (Obj.cells #[Value.bool m, Value.string s, Value.int IntKind.i64 d, Value.bool n, Value.string t, Value.int IntKind.i64 e, Value.bool p, Value.string u, Value.int IntKind.i64 f] 25)
    replace hb := hb.alloc hb.size (Obj.cells #[Value.bool m, Value.string s, Value.int IntKind.i64 d, Value.bool n, Value.string t, Value.int IntKind.i64 e, Value.bool p, Value.string u, Value.int IntKind.i64 f] 25)
    generalize ((((w.alloc (Obj.cells #[Value.bool m, Value.string s, Value.int IntKind.i64 d] 25)).alloc (Obj.cells #[Value.bool n, Value.string t, Value.int IntKind.i64 e] 25)).alloc (Obj.cells #[Value.bool p, Value.string u, Value.int IntKind.i64 f] 25)).alloc (Obj.cells #[Value.bool m, Value.string s, Value.int IntKind.i64 d, Value.bool n, Value.string t, Value.int IntKind.i64 e, Value.bool p, Value.string u, Value.int IntKind.i64 f] 25)) = W0 at *
    refine (longd_any _ 150 500 (by omega) _ [(m, s, d), (n, t, e), (p, u, f)] 3 3 rfl (by omega) hrow).mono ?_
    rintro e1 W ⟨rfl, hq⟩
    replace hb := below_next hb hq
    replace hA := hA.below hq
    replace hB := hB.below hq
    replace hC := hC.below hq
    clear hq hrow
    rw [HR.out]
    clear hA hB hC
    go_wp2_with fail
    refine (yawake_any _).mono ?_
    rintro e1 V ⟨rfl, hq⟩
    replace hb := below_next hb hq
    clear hq
    go_wp2
    go_ret
    exact ⟨rfl, hb⟩
  | false =>
    have hbA := longd_false hr (m, s, d) (by simp)
    have hbB := longd_false hr (n, t, e) (by simp)
    have hbC := longd_false hr (p, u, f) (by simp)
    simp only at hbA hbB hbC
    clear hr
    have hA' : Bnd (nv m s d) 275 500 := Bnd.of (B := 150) (K := 125) 500 hbA.1 (by omega) (by omega)
    have hB' : Bnd (nv n t e) 275 500 := Bnd.of (B := 150) (K := 125) 500 hbB.1 (by omega) (by omega)
    have hC' : Bnd (nv p u f) 275 500 := Bnd.of (B := 150) (K := 125) 500 hbC.1 (by omega) (by omega)
    have okA : Ok3 s d := by unfold Ok3; omega
    have okB : Ok3 t e := by unfold Ok3; omega
    have okC : Ok3 u f := by unfold Ok3; omega
    obtain ⟨z1, o1, e1, k1⟩ := df_some (nv m s d + nv n t e)
    obtain ⟨z2, o2, e2, k2⟩ := df_some (nv z1 o1 (e1 + -1))
    obtain ⟨z3, o3, e3, k3⟩ := df_some (farD (-1) [(m, s, d), (n, t, e), (p, u, f)] 3)
    obtain ⟨z4, o4, e4, k4⟩ := df_some (farD 1 [(m, s, d), (n, t, e), (p, u, f)] 3)
    obtain ⟨z5, o5, e5, k5⟩ := df_some (nv m s d + nv p u f)
    obtain ⟨z6, o6, e6, k6⟩ := df_some (nv n t e + nv p u f)
    obtain ⟨z7, o7, e7, k7⟩ := df_some (nv m s d * nv p u f)
    obtain ⟨z8, o8, e8, k8⟩ := df_some (nv n t e * nv p u f)
    obtain ⟨z9, o9, e9, k9⟩ := df_some (nv m s d)
    obtain ⟨z10, o10, e10, k10⟩ := df_some (nv n t e)
    obtain ⟨z11, o11, e11, k11⟩ := df_some (nv p u f)
    have v1 := form_nv k1
    have v2 := form_nv k2
    have v3 := form_nv k3
    have v4 := form_nv k4
    have v5 := form_nv k5
    have v6 := form_nv k6
    have v7 := form_nv k7
    have v8 := form_nv k8
    have ok1 : Ok3 o1 e1 := (hA'.add hB').ok (by omega) (by omega) k1
    have h2' : Bnd (nv z1 o1 (e1 + -1)) 620 501 := half_bnd (hA'.add hB') k1
    have ok2 : Ok3 o2 e2 := h2'.ok (by omega) (by omega) k2
    have ok5 : Ok3 o5 e5 := (hA'.add hC').ok (by omega) (by omega) k5
    have ok6 : Ok3 o6 e6 := (hB'.add hC').ok (by omega) (by omega) k6
    have ok7 : Ok3 o7 e7 := (hA'.mul hC').ok (by omega) (by omega) k7
    have ok8 : Ok3 o8 e8 := (hB'.mul hC').ok (by omega) (by omega) k8
    have ok9 : Ok3 o9 e9 := hA'.ok (by omega) (by omega) k9
    have ok10 : Ok3 o10 e10 := hB'.ok (by omega) (by omega) k10
    have ok11 : Ok3 o11 e11 := hC'.ok (by omega) (by omega) k11
    obtain ⟨cc, hcc⟩ : ∃ cc, dsg (nv m s d - nv n t e) = cc := ⟨_, rfl⟩
    obtain ⟨cs, hcs⟩ : ∃ cs, sg (wv p u) = cs := ⟨_, rfl⟩
    have hc3 : -1 ≤ cc ∧ cc ≤ 1 := by rw [← hcc]; exact sg_three _
    have hs3 : -1 ≤ cs ∧ cs ≤ 1 := by rw [← hcs]; exact sg_three _
    have hwn : IntKind.i64.wrap (-cc) = -cc := by rw [IntKind.wrap_i64]; omega
    have hwm := sg_sg hc3 hs3
    have q1 : dsg (nv n t e - nv m s d) = -cc := by rw [dsg_swap, hcc]
    have q2 : dsg (nv z5 o5 e5 - nv z6 o6 e6) = cc := by rw [v5, v6, dsg_add, hcc]
    have q3 : dsg (nv z7 o7 e7 - nv z8 o8 e8) = cc * cs := by rw [v7, v8, dsg_times, hcc, sgn_nv, hcs]
    have q4 : dsg (nv m s d - nv z2 o2 e2) = cc := by rw [v2, half_left v1, hcc]
    have q5 : dsg (nv z2 o2 e2 - nv n t e) = cc := by rw [v2, half_right v1, hcc]
    have HK := Lib.hid (And.intro k1 (And.intro k2 (And.intro k3 (And.intro k4 (And.intro k5 (And.intro k6 (And.intro k7 (And.intro k8 (And.intro k9 (And.intro k10 k11))))))))))
    have HO := Lib.hid (And.intro okA (And.intro okB (And.intro okC (And.intro ok1 (And.intro ok2 (And.intro ok5 (And.intro ok6 (And.intro ok7 ok8))))))))
    have HQ := Lib.hid (And.intro hcc (And.intro q1 (And.intro q2 (And.intro q3 (And.intro q4 (And.intro q5 hcs))))))
    have hbnd := And.intro hbA (And.intro hbB hbC)
    clear v1 v2 v3 v4 v5 v6 v7 v8 k1 k2 k3 k4 k5 k6 k7 k8 k9 k10 k11 okA okB okC ok1 ok2 ok5 ok6 ok7 ok8 ok9 ok10 ok11 hcc hcs q1 q2 q3 q4 q5 hA' hB' hC' h2'
    unfold nu
    go_enter Tryz.func3, Tryz.ntmps3
    go_wp2_with fail
    obtain ⟨hA, hB, hC, hb⟩ := nblk3 w m n p s t u d e f
    have hrow := NAt.new (((w.alloc (Obj.cells #[Value.bool m, Value.string s, Value.int IntKind.i64 d] 25)).alloc (Obj.cells #[Value.bool n, Value.string t, Value.int IntKind.i64 e] 25)).alloc (Obj.cells #[Value.bool p, Value.string u, Value.int IntKind.i64 f] 25)) 25 [(m, s, d), (n, t, e), (p, u, f)] #[.bool m, .string s, .int .i64 d, .bool n, .string t, .int .i64 e, .bool p, .string u, .int .i64 f] rfl
    rw [World.size_alloc, World.size_alloc, World.size_alloc] at hrow
    replace hA := hA.alloc (Obj.cells #[Value.bool m, Value.string s, Value.int IntKind.i64 d, Value.bool n, Value.string t, Value.int IntKind.i64 e, Value.bool p, Value.string u, Value.int IntKind.i64 f] 25)
    replace hB := hB.alloc (Obj.cells #[Value.bool m, Value.string s, Value.int IntKind.i64 d, Value.bool n, Value.string t, Value.int IntKind.i64 e, Value.bool p, Value.string u, Value.int IntKind.i64 f] 25)
    replace hC := hC.alloc (Obj.cells #[Value.bool m, Value.string s, Value.int IntKind.i64 d, Value.bool n, Value.string t, Value.int IntKind.i64 e, Value.bool p, Value.string u, Value.int IntKind.i64 f] 25)
    replace hb := hb.alloc hb.size (Obj.cells #[Value.bool m, Value.string s, Value.int IntKind.i64 d, Value.bool n, Value.string t, Value.int IntKind.i64 e, Value.bool p, Value.string u, Value.int IntKind.i64 f] 25)
    generalize ((((w.alloc (Obj.cells #[Value.bool m, Value.string s, Value.int IntKind.i64 d] 25)).alloc (Obj.cells #[Value.bool n, Value.string t, Value.int IntKind.i64 e] 25)).alloc (Obj.cells #[Value.bool p, Value.string u, Value.int IntKind.i64 f] 25)).alloc (Obj.cells #[Value.bool m, Value.string s, Value.int IntKind.i64 d, Value.bool n, Value.string t, Value.int IntKind.i64 e, Value.bool p, Value.string u, Value.int IntKind.i64 f] 25)) = W0 at *
    refine (longd_any _ 150 500 (by omega) _ [(m, s, d), (n, t, e), (p, u, f)] 3 3 rfl (by omega) hrow).mono ?_
    rintro e1 W ⟨rfl, hq⟩
    replace hb := below_next hb hq
    replace hA := hA.below hq
    replace hB := hB.below hq
    replace hC := hC.below hq
    clear hq hrow
    rw [HR.out]
    obtain ⟨hA0, hA1, hA2⟩ := hA.cells
    obtain ⟨hB0, hB1, hB2⟩ := hB.cells
    obtain ⟨hC0, hC1, hC2⟩ := hC.cells
    go_wp2_with fail
    refine (use_ycmp HO.out.1 HO.out.2.1 cc HQ.out.1).mono ?_
    rintro e' W2 ⟨rfl, hq⟩
    replace hb := below_next hb hq
    replace hA := hA.below hq
    replace hB := hB.below hq
    replace hC := hC.below hq
    clear hq hA0 hA1 hA2 hB0 hB1 hB2 hC0 hC1 hC2
    obtain ⟨hA0, hA1, hA2⟩ := hA.cells
    obtain ⟨hB0, hB1, hB2⟩ := hB.cells
    obtain ⟨hC0, hC1, hC2⟩ := hC.cells
    go_wp2_with fail
    have hrow2 := NAt.new W2 25 [(m, s, d), (n, t, e)] #[.bool m, .string s, .int .i64 d, .bool n, .string t, .int .i64 e] rfl
    replace hA := hA.alloc (Obj.cells #[Value.bool m, Value.string s, Value.int IntKind.i64 d, Value.bool n, Value.string t, Value.int IntKind.i64 e] 25)
    replace hB := hB.alloc (Obj.cells #[Value.bool m, Value.string s, Value.int IntKind.i64 d, Value.bool n, Value.string t, Value.int IntKind.i64 e] 25)
    replace hC := hC.alloc (Obj.cells #[Value.bool m, Value.string s, Value.int IntKind.i64 d, Value.bool n, Value.string t, Value.int IntKind.i64 e] 25)
    replace hb := hb.alloc hb.size (Obj.cells #[Value.bool m, Value.string s, Value.int IntKind.i64 d, Value.bool n, Value.string t, Value.int IntKind.i64 e] 25)
    generalize (W2.alloc (Obj.cells #[Value.bool m, Value.string s, Value.int IntKind.i64 d, Value.bool n, Value.string t, Value.int IntKind.i64 e] 25)) = W3 at *
    refine (use_yadd2 HO.out.1 HO.out.2.1 hrow2 HK.out.1).mono ?_
    rintro e' W4 ⟨rfl, hq⟩
    replace hb := below_next hb hq
    replace hA := hA.below hq
    replace hB := hB.below hq
    replace hC := hC.below hq
    clear hq hrow2 hA0 hA1 hA2 hB0 hB1 hB2 hC0 hC1 hC2
    go_wp2_with fail
    refine (yshift_any _ z1 o1 e1 (-1) (by have := HO.out.2.2.2.1; unfold Ok3 at this; omega) (by have := HO.out.2.2.2.1; unfold Ok3 at this; omega) (by omega) z2 o2 e2 HK.out.2.1).mono ?_
    rintro e' W5 ⟨rfl, hq⟩
    replace hb := below_next hb hq
    replace hA := hA.below hq
    replace hB := hB.below hq
    replace hC := hC.below hq
    clear hq
    have hM := Nk.new W5 z2 o2 e2
    replace hA := hA.alloc (Obj.cells #[Value.bool z2, Value.string o2, Value.int IntKind.i64 e2] 25)
    replace hB := hB.alloc (Obj.cells #[Value.bool z2, Value.string o2, Value.int IntKind.i64 e2] 25)
    replace hC := hC.alloc (Obj.cells #[Value.bool z2, Value.string o2, Value.int IntKind.i64 e2] 25)
    replace hb := hb.alloc hb.size (Obj.cells #[Value.bool z2, Value.string o2, Value.int IntKind.i64 e2] 25)
    have hCM := hC.lt
    go_wp2_with fail
    generalize (W5.alloc (Obj.cells #[Value.bool z2, Value.string o2, Value.int IntKind.i64 e2] 25)) = W6 at *
    generalize W5.heap.size = QM at *
    refine region_segs (n := 14) #[false, false, false, false, false, false, false, false, false, false, false, false, false, false] (by kernel_rfl) (by kernel_rfl) (by kernel_rfl) ?_
    intro fu hf
    refine lin_seg 14 [0, 1, 2, 3, 4, 5, 6, 7, 8, 9, 10, 11, 12, 13] 13 (fun L ac Wn => ∃ l0 l1 l2 l3 l4 l5 l6 l7 l8 l9 l10 l11 l12 : Bool, L = #[l0, l1, l2, l3, l4, l5, l6, l7, l8, l9, l10, l11, l12, false] ∧ ∃ p9 p10 g32 g37 : Nat, ac = { tmps := #[.agg #[.bool m, .string s, .int .i64 d], .agg #[.bool n, .string t, .int .i64 e], .agg #[.bool p, .string u, .int .i64 f], .pointer (some ⟨w.heap.size, 0, none⟩), .pointer (some ⟨w.heap.size + 1, 0, none⟩), .pointer (some ⟨w.heap.size + 1 + 1, 0, none⟩), .bool false, .int .i64 cc, .pointer (some ⟨QM, 0, none⟩), sel l10 (.pointer (some ⟨p9, 0, none⟩)) (undef), sel l11 (.pointer (some ⟨p10, 0, none⟩)) (undef), undef, undef, undef, undef, .agg #[.bool m, .string s, .int .i64 d], .agg #[.bool n, .string t, .int .i64 e], .agg #[.bool p, .string u, .int .i64 f], .slice (some ⟨w.heap.size + 1 + 1 + 1, 0, none⟩) 3 3, .bool false, undef, .agg #[.bool m, .string s, .int .i64 d], .agg #[.bool n, .string t, .int .i64 e], .int .i64 cc, .agg #[.bool m, .string s, .int .i64 d], .agg #[.bool n, .string t, .int .i64 e], .slice (some ⟨W2.heap.size, 0, none⟩) 2 2, .agg #[.bool z1, .string o1, .int .i64 e1], .agg #[.bool z2, .string o2, .int .i64 e2], sel l0 (.agg #[.bool m, .string s, .int .i64 d]) (undef), sel l1 (.agg #[.bool n, .string t, .int .i64 e]) (undef), sel l2 (.agg #[.bool p, .string u, .int .i64 f]) (undef), sel l3 (.slice (some ⟨g32, 0, none⟩) 3 3) (undef), sel l4 (.agg #[.bool z3, .string o3, .int .i64 e3]) (undef), sel l5 (.agg #[.bool m, .string s, .int .i64 d]) (undef), sel l6 (.agg #[.bool n, .string t, .int .i64 e]) (undef), sel l7 (.agg #[.bool p, .string u, .int .i64 f]) (undef), sel l8 (.slice (some ⟨g37, 0, none⟩) 3 3) (undef), sel l9 (.agg #[.bool z4, .string o4, .int .i64 e4]) (undef), undef, undef, undef, undef, undef, undef, undef, undef, undef, undef, undef, undef, undef, undef, undef, undef, undef, undef, undef, undef, undef, undef, undef, undef, undef, undef, undef, undef, undef, undef, undef, undef, undef, undef, undef, undef, undef, undef, undef, undef, undef, undef, undef, undef, undef, undef, undef, undef, undef, undef, undef, undef, undef, undef, undef, undef, undef, undef, undef, undef, undef, undef, undef, undef, undef, undef, undef, undef, undef, undef, undef, undef, undef, undef, undef, undef, undef, undef, undef, undef, undef, undef, undef, undef, undef, undef, undef, undef, undef, undef, undef, undef], defers := [] } ∧ Below (w.heap.size) w Wn ∧ (Nk Wn (w.heap.size) m s d) ∧ (Nk Wn (w.heap.size + 1) n t e) ∧ (Nk Wn (w.heap.size + 1 + 1) p u f) ∧ (Nk Wn QM z2 o2 e2) ∧ (On l10 → Off l12 → Nk Wn p9 false ⟨#[]⟩ 0) ∧ (On l12 → Nk Wn p9 z3 o3 e3) ∧ (On l11 → Nk Wn p10 false ⟨#[]⟩ 0) ∧ (On l3 → Off l4 → NAt Wn (some ⟨g32, 0, none⟩) [(m, s, d), (n, t, e), (p, u, f)]) ∧ (On l8 → Off l9 → NAt Wn (some ⟨g37, 0, none⟩) [(m, s, d), (n, t, e), (p, u, f)]) ∧ (On l10 → w.heap.size ≤ p9) ∧ (On l11 → w.heap.size ≤ p10) ∧ (On l10 → w.heap.size ≠ p9) ∧ (On l10 → w.heap.size + 1 ≠ p9) ∧ (On l10 → w.heap.size + 1 + 1 ≠ p9) ∧ (On l10 → QM ≠ p9) ∧ (On l10 → On l11 → p10 ≠ p9) ∧ (On l11 → w.heap.size ≠ p10) ∧ (On l11 → w.heap.size + 1 ≠ p10) ∧ (On l11 → w.heap.size + 1 + 1 ≠ p10) ∧ (On l11 → QM ≠ p10)) (by kernel_rfl) (by kernel_rfl) (by kernel_rfl) (by kernel_rfl) hf ?_ ?_ ?_ (by kernel_rfl) ?_ (by decide)
    · exact ⟨false, false, false, false, false, false, false, false, false, false, false, false, false, by kernel_rfl, 0, 0, 0, 0, by kernel_rfl, hb.drew, hA.drew, hB.drew, hC.drew, hM.drew, (fun h _ => not_ft h), (fun h => not_ft h), (fun h => not_ft h), (fun h _ => not_ft h), (fun h _ => not_ft h), (fun h => not_ft h), (fun h => not_ft h), (fun h => not_ft h), (fun h => not_ft h), (fun h => not_ft h), (fun h => not_ft h), (fun h _ => not_ft h), (fun h => not_ft h), (fun h => not_ft h), (fun h => not_ft h), (fun h => not_ft h)⟩
    · rintro L ac Wn ⟨l0, l1, l2, l3, l4, l5, l6, l7, l8, l9, l10, l11, l12, rfl, _⟩
      kernel_rfl
    · refine (seg_all (b := 13) [0, 1, 2, 3, 4, 5, 6, 7, 8, 9, 10, 11, 12] ?_ : ∀ j ∈ [0, 1, 2, 3, 4, 5, 6, 7, 8, 9, 10, 11, 12, 13], j ≠ 13 → _)
      refine lin_cons [] [3, 4, 9, 12] rfl (by kernel_rfl) (by kernel_rfl) ?_ ?_
      · intro L ac Wn hI hi hds hus Kc hK
        obtain ⟨l0, l1, l2, l3, l4, l5, l6, l7, l8, l9, l10, l11, l12, rfl, hI⟩ := hI
        obtain rfl : l0 = false := hi
        obtain ⟨rfl, rfl, rfl, rfl, -⟩ : l3 = false ∧ l4 = false ∧ l9 = false ∧ l12 = false ∧ True := hus
        simp only [sel_f] at hI
        obtain ⟨p9, p10, g32, g37, rfl, hb, hA, hB, hC, hM, hL, hL', hH, hW3, hW8, dL, dH, nLA, nLB, nLC, nLM, nLH, nHA, nHB, nHC, nHM⟩ := hI
        obtain ⟨q0, q1, q2, q3, q4, q5⟩ := (hA).facts
        refine lin_yield (.agg #[.bool m, .string s, .int .i64 d]) rfl (by go_simp; first | done | with_reducible rfl | assumption) ?_
        exact hK.out _ _ ⟨true, l1, l2, false, false, l5, l6, l7, l8, false, l10, l11, false, by kernel_rfl, p9, p10, g32, g37, by kernel_rfl, hb, (hA), (hB), (hC), (hM), (fun z0 z1 => (hL z0 z1)), (fun h => not_ft h), (fun z0 => (hH z0)), (fun h _ => not_ft h), (fun z0 z1 => (hW8 z0 z1)), (fun z0 => (dL z0)), (fun z0 => (dH z0)), (fun z0 => (nLA z0)), (fun z0 => (nLB z0)), (fun z0 => (nLC z0)), (fun z0 => (nLM z0)), (fun z0 z1 => (nLH z0 z1)), (fun z0 => (nHA z0)), (fun z0 => (nHB z0)), (fun z0 => (nHC z0)), (fun z0 => (nHM z0))⟩
      refine lin_cons [] [3, 4, 9, 12] rfl (by kernel_rfl) (by kernel_rfl) ?_ ?_
      · intro L ac Wn hI hi hds hus Kc hK
        obtain ⟨l0, l1, l2, l3, l4, l5, l6, l7, l8, l9, l10, l11, l12, rfl, hI⟩ := hI
        obtain rfl : l1 = false := hi
        obtain ⟨rfl, rfl, rfl, rfl, -⟩ : l3 = false ∧ l4 = false ∧ l9 = false ∧ l12 = false ∧ True := hus
        simp only [sel_f] at hI
        obtain ⟨p9, p10, g32, g37, rfl, hb, hA, hB, hC, hM, hL, hL', hH, hW3, hW8, dL, dH, nLA, nLB, nLC, nLM, nLH, nHA, nHB, nHC, nHM⟩ := hI
        obtain ⟨q0, q1, q2, q3, q4, q5⟩ := (hB).facts
        refine lin_yield (.agg #[.bool n, .string t, .int .i64 e]) rfl (by go_simp; first | done | with_reducible rfl | assumption) ?_
        exact hK.out _ _ ⟨l0, true, l2, false, false, l5, l6, l7, l8, false, l10, l11, false, by kernel_rfl, p9, p10, g32, g37, by kernel_rfl, hb, (hA), (hB), (hC), (hM), (fun z0 z1 => (hL z0 z1)), (fun h => not_ft h), (fun z0 => (hH z0)), (fun h _ => not_ft h), (fun z0 z1 => (hW8 z0 z1)), (fun z0 => (dL z0)), (fun z0 => (dH z0)), (fun z0 => (nLA z0)), (fun z0 => (nLB z0)), (fun z0 => (nLC z0)), (fun z0 => (nLM z0)), (fun z0 z1 => (nLH z0 z1)), (fun z0 => (nHA z0)), (fun z0 => (nHB z0)), (fun z0 => (nHC z0)), (fun z0 => (nHM z0))⟩
      refine lin_cons [] [3, 4, 9, 12] rfl (by kernel_rfl) (by kernel_rfl) ?_ ?_
      · intro L ac Wn hI hi hds hus Kc hK
        obtain ⟨l0, l1, l2, l3, l4, l5, l6, l7, l8, l9, l10, l11, l12, rfl, hI⟩ := hI
        obtain rfl : l2 = false := hi
        obtain ⟨rfl, rfl, rfl, rfl, -⟩ : l3 = false ∧ l4 = false ∧ l9 = false ∧ l12 = false ∧ True := hus
        simp only [sel_f] at hI
        obtain ⟨p9, p10, g32, g37, rfl, hb, hA, hB, hC, hM, hL, hL', hH, hW3, hW8, dL, dH, nLA, nLB, nLC, nLM, nLH, nHA, nHB, nHC, nHM⟩ := hI
        obtain ⟨q0, q1, q2, q3, q4, q5⟩ := (hC).facts
        refine lin_yield (.agg #[.bool p, .string u, .int .i64 f]) rfl (by go_simp; first | done | with_reducible rfl | assumption) ?_
        exact hK.out _ _ ⟨l0, l1, true, false, false, l5, l6, l7, l8, false, l10, l11, false, by kernel_rfl, p9, p10, g32, g37, by kernel_rfl, hb, (hA), (hB), (hC), (hM), (fun z0 z1 => (hL z0 z1)), (fun h => not_ft h), (fun z0 => (hH z0)), (fun h _ => not_ft h), (fun z0 z1 => (hW8 z0 z1)), (fun z0 => (dL z0)), (fun z0 => (dH z0)), (fun z0 => (nLA z0)), (fun z0 => (nLB z0)), (fun z0 => (nLC z0)), (fun z0 => (nLM z0)), (fun z0 z1 => (nLH z0 z1)), (fun z0 => (nHA z0)), (fun z0 => (nHB z0)), (fun z0 => (nHC z0)), (fun z0 => (nHM z0))⟩
      refine lin_cons [0, 1, 2] [4, 9, 12] rfl (by kernel_rfl) (by kernel_rfl) ?_ ?_
      · intro L ac Wn hI hi hds hus Kc hK
        obtain ⟨l0, l1, l2, l3, l4, l5, l6, l7, l8, l9, l10, l11, l12, rfl, hI⟩ := hI
        obtain rfl : l3 = false := hi
        obtain ⟨rfl, rfl, rfl, -⟩ : l0 = true ∧ l1 = true ∧ l2 = true ∧ True := hds
        obtain ⟨rfl, rfl, rfl, -⟩ : l4 = false ∧ l9 = false ∧ l12 = false ∧ True := hus
        simp only [sel_t, sel_f] at hI
        obtain ⟨p9, p10, g32, g37, rfl, hb, hA, hB, hC, hM, hL, hL', hH, hW3, hW8, dL, dH, nLA, nLB, nLC, nLM, nLH, nHA, nHB, nHC, nHM⟩ := hI
        go_simp
        exact hK.out _ _ ⟨true, true, true, true, false, l5, l6, l7, l8, false, l10, l11, false, by kernel_rfl, p9, p10, _, g37, by kernel_rfl, (hb.alloc hb.size _), (hA.alloc _), (hB.alloc _), (hC.alloc _), (hM.alloc _), (fun z0 z1 => (hL z0 z1).alloc _), (fun h => not_ft h), (fun z0 => (hH z0).alloc _), (fun _ _ => NAt.new _ _ _ _ rfl), (fun z0 z1 => (hW8 z0 z1).alloc _), (fun z0 => (dL z0)), (fun z0 => (dH z0)), (fun z0 => (nLA z0)), (fun z0 => (nLB z0)), (fun z0 => (nLC z0)), (fun z0 => (nLM z0)), (fun z0 z1 => (nLH z0 z1)), (fun z0 => (nHA z0)), (fun z0 => (nHB z0)), (fun z0 => (nHC z0)), (fun z0 => (nHM z0))⟩
      refine lin_cons [0, 1, 2, 3] [9, 12] rfl (by kernel_rfl) (by kernel_rfl) ?_ ?_
      · intro L ac Wn hI hi hds hus Kc hK
        obtain ⟨l0, l1, l2, l3, l4, l5, l6, l7, l8, l9, l10, l11, l12, rfl, hI⟩ := hI
        obtain rfl : l4 = false := hi
        obtain ⟨rfl, rfl, rfl, rfl, -⟩ : l0 = true ∧ l1 = true ∧ l2 = true ∧ l3 = true ∧ True := hds
        obtain ⟨rfl, rfl, -⟩ : l9 = false ∧ l12 = false ∧ True := hus
        simp only [sel_t, sel_f] at hI
        obtain ⟨p9, p10, g32, g37, rfl, hb, hA, hB, hC, hM, hL, hL', hH, hW3, hW8, dL, dH, nLA, nLB, nLC, nLM, nLH, nHA, nHB, nHC, nHM⟩ := hI
        go_simp
        go_fit (ymin_any _ _ [(m, s, d), (n, t, e), (p, u, f)] 3 3 rfl (by omega) (hW3 rfl rfl) (by intro x h; simp at h; rcases h with rfl | rfl | rfl <;> simp only <;> omega) z3 o3 e3 HK.out.2.2.1)
        rintro e V ⟨rfl, hq⟩
        exact hK.out _ _ ⟨true, true, true, true, true, l5, l6, l7, l8, false, l10, l11, false, by kernel_rfl, p9, p10, g32, g37, by kernel_rfl, (below_next hb hq), (hA.below hq), (hB.below hq), (hC.below hq), (hM.below hq), (fun z0 z1 => (hL z0 z1).below hq), (fun h => not_ft h), (fun z0 => (hH z0).below hq), (fun _ h => not_tf h), (fun z0 z1 => (hW8 z0 z1).below hq), (fun z0 => (dL z0)), (fun z0 => (dH z0)), (fun z0 => (nLA z0)), (fun z0 => (nLB z0)), (fun z0 => (nLC z0)), (fun z0 => (nLM z0)), (fun z0 z1 => (nLH z0 z1)), (fun z0 => (nHA z0)), (fun z0 => (nHB z0)), (fun z0 => (nHC z0)), (fun z0 => (nHM z0))⟩
      refine lin_cons [] [8, 9, 12] rfl (by kernel_rfl) (by kernel_rfl) ?_ ?_
      · intro L ac Wn hI hi hds hus Kc hK
        obtain ⟨l0, l1, l2, l3, l4, l5, l6, l7, l8, l9, l10, l11, l12, rfl, hI⟩ := hI
        obtain rfl : l5 = false := hi
        obtain ⟨rfl, rfl, rfl, -⟩ : l8 = false ∧ l9 = false ∧ l12 = false ∧ True := hus
        simp only [sel_f] at hI
        obtain ⟨p9, p10, g32, g37, rfl, hb, hA, hB, hC, hM, hL, hL', hH, hW3, hW8, dL, dH, nLA, nLB, nLC, nLM, nLH, nHA, nHB, nHC, nHM⟩ := hI
        obtain ⟨q0, q1, q2, q3, q4, q5⟩ := (hA).facts
        refine lin_yield (.agg #[.bool m, .string s, .int .i64 d]) rfl (by go_simp; first | done | with_reducible rfl | assumption) ?_
        exact hK.out _ _ ⟨l0, l1, l2, l3, l4, true, l6, l7, false, false, l10, l11, false, by kernel_rfl, p9, p10, g32, g37, by kernel_rfl, hb, (hA), (hB), (hC), (hM), (fun z0 z1 => (hL z0 z1)), (fun h => not_ft h), (fun z0 => (hH z0)), (fun z0 z1 => (hW3 z0 z1)), (fun h _ => not_ft h), (fun z0 => (dL z0)), (fun z0 => (dH z0)), (fun z0 => (nLA z0)), (fun z0 => (nLB z0)), (fun z0 => (nLC z0)), (fun z0 => (nLM z0)), (fun z0 z1 => (nLH z0 z1)), (fun z0 => (nHA z0)), (fun z0 => (nHB z0)), (fun z0 => (nHC z0)), (fun z0 => (nHM z0))⟩
      refine lin_cons [] [8, 9, 12] rfl (by kernel_rfl) (by kernel_rfl) ?_ ?_
      · intro L ac Wn hI hi hds hus Kc hK
        obtain ⟨l0, l1, l2, l3, l4, l5, l6, l7, l8, l9, l10, l11, l12, rfl, hI⟩ := hI
        obtain rfl : l6 = false := hi
        obtain ⟨rfl, rfl, rfl, -⟩ : l8 = false ∧ l9 = false ∧ l12 = false ∧ True := hus
        simp only [sel_f] at hI
        obtain ⟨p9, p10, g32, g37, rfl, hb, hA, hB, hC, hM, hL, hL', hH, hW3, hW8, dL, dH, nLA, nLB, nLC, nLM, nLH, nHA, nHB, nHC, nHM⟩ := hI
        obtain ⟨q0, q1, q2, q3, q4, q5⟩ := (hB).facts
        refine lin_yield (.agg #[.bool n, .string t, .int .i64 e]) rfl (by go_simp; first | done | with_reducible rfl | assumption) ?_
        exact hK.out _ _ ⟨l0, l1, l2, l3, l4, l5, true, l7, false, false, l10, l11, false, by kernel_rfl, p9, p10, g32, g37, by kernel_rfl, hb, (hA), (hB), (hC), (hM), (fun z0 z1 => (hL z0 z1)), (fun h => not_ft h), (fun z0 => (hH z0)), (fun z0 z1 => (hW3 z0 z1)), (fun h _ => not_ft h), (fun z0 => (dL z0)), (fun z0 => (dH z0)), (fun z0 => (nLA z0)), (fun z0 => (nLB z0)), (fun z0 => (nLC z0)), (fun z0 => (nLM z0)), (fun z0 z1 => (nLH z0 z1)), (fun z0 => (nHA z0)), (fun z0 => (nHB z0)), (fun z0 => (nHC z0)), (fun z0 => (nHM z0))⟩
      refine lin_cons [] [8, 9, 12] rfl (by kernel_rfl) (by kernel_rfl) ?_ ?_
      · intro L ac Wn hI hi hds hus Kc hK
        obtain ⟨l0, l1, l2, l3, l4, l5, l6, l7, l8, l9, l10, l11, l12, rfl, hI⟩ := hI
        obtain rfl : l7 = false := hi
        obtain ⟨rfl, rfl, rfl, -⟩ : l8 = false ∧ l9 = false ∧ l12 = false ∧ True := hus
        simp only [sel_f] at hI
        obtain ⟨p9, p10, g32, g37, rfl, hb, hA, hB, hC, hM, hL, hL', hH, hW3, hW8, dL, dH, nLA, nLB, nLC, nLM, nLH, nHA, nHB, nHC, nHM⟩ := hI
        obtain ⟨q0, q1, q2, q3, q4, q5⟩ := (hC).facts
        refine lin_yield (.agg #[.bool p, .string u, .int .i64 f]) rfl (by go_simp; first | done | with_reducible rfl | assumption) ?_
        exact hK.out _ _ ⟨l0, l1, l2, l3, l4, l5, l6, true, false, false, l10, l11, false, by kernel_rfl, p9, p10, g32, g37, by kernel_rfl, hb, (hA), (hB), (hC), (hM), (fun z0 z1 => (hL z0 z1)), (fun h => not_ft h), (fun z0 => (hH z0)), (fun z0 z1 => (hW3 z0 z1)), (fun h _ => not_ft h), (fun z0 => (dL z0)), (fun z0 => (dH z0)), (fun z0 => (nLA z0)), (fun z0 => (nLB z0)), (fun z0 => (nLC z0)), (fun z0 => (nLM z0)), (fun z0 z1 => (nLH z0 z1)), (fun z0 => (nHA z0)), (fun z0 => (nHB z0)), (fun z0 => (nHC z0)), (fun z0 => (nHM z0))⟩
      refine lin_cons [5, 6, 7] [9, 12] rfl (by kernel_rfl) (by kernel_rfl) ?_ ?_
      · intro L ac Wn hI hi hds hus Kc hK
        obtain ⟨l0, l1, l2, l3, l4, l5, l6, l7, l8, l9, l10, l11, l12, rfl, hI⟩ := hI
        obtain rfl : l8 = false := hi
        obtain ⟨rfl, rfl, rfl, -⟩ : l5 = true ∧ l6 = true ∧ l7 = true ∧ True := hds
        obtain ⟨rfl, rfl, -⟩ : l9 = false ∧ l12 = false ∧ True := hus
        simp only [sel_t, sel_f] at hI
        obtain ⟨p9, p10, g32, g37, rfl, hb, hA, hB, hC, hM, hL, hL', hH, hW3, hW8, dL, dH, nLA, nLB, nLC, nLM, nLH, nHA, nHB, nHC, nHM⟩ := hI
        go_simp
        exact hK.out _ _ ⟨l0, l1, l2, l3, l4, true, true, true, true, false, l10, l11, false, by kernel_rfl, p9, p10, g32, _, by kernel_rfl, (hb.alloc hb.size _), (hA.alloc _), (hB.alloc _), (hC.alloc _), (hM.alloc _), (fun z0 z1 => (hL z0 z1).alloc _), (fun h => not_ft h), (fun z0 => (hH z0).alloc _), (fun z0 z1 => (hW3 z0 z1).alloc _), (fun _ _ => NAt.new _ _ _ _ rfl), (fun z0 => (dL z0)), (fun z0 => (dH z0)), (fun z0 => (nLA z0)), (fun z0 => (nLB z0)), (fun z0 => (nLC z0)), (fun z0 => (nLM z0)), (fun z0 z1 => (nLH z0 z1)), (fun z0 => (nHA z0)), (fun z0 => (nHB z0)), (fun z0 => (nHC z0)), (fun z0 => (nHM z0))⟩
      refine lin_cons [0, 1, 2, 3, 4, 5, 6, 7, 8] [12] rfl (by kernel_rfl) (by kernel_rfl) ?_ ?_
      · intro L ac Wn hI hi hds hus Kc hK
        obtain ⟨l0, l1, l2, l3, l4, l5, l6, l7, l8, l9, l10, l11, l12, rfl, hI⟩ := hI
        obtain rfl : l9 = false := hi
        obtain ⟨rfl, rfl, rfl, rfl, rfl, rfl, rfl, rfl, rfl, -⟩ : l0 = true ∧ l1 = true ∧ l2 = true ∧ l3 = true ∧ l4 = true ∧ l5 = true ∧ l6 = true ∧ l7 = true ∧ l8 = true ∧ True := hds
        obtain ⟨rfl, -⟩ : l12 = false ∧ True := hus
        simp only [sel_t, sel_f] at hI
        obtain ⟨p9, p10, g32, g37, rfl, hb, hA, hB, hC, hM, hL, hL', hH, hW3, hW8, dL, dH, nLA, nLB, nLC, nLM, nLH, nHA, nHB, nHC, nHM⟩ := hI
        go_simp
        go_fit (ymax_any _ _ [(m, s, d), (n, t, e), (p, u, f)] 3 3 rfl (by omega) (hW8 rfl rfl) (by intro x h; simp at h; rcases h with rfl | rfl | rfl <;> simp only <;> omega) z4 o4 e4 HK.out.2.2.2.1)
        rintro e V ⟨rfl, hq⟩
        exact hK.out _ _ ⟨true, true, true, true, true, true, true, true, true, true, l10, l11, false, by kernel_rfl, p9, p10, g32, g37, by kernel_rfl, (below_next hb hq), (hA.below hq), (hB.below hq), (hC.below hq), (hM.below hq), (fun z0 z1 => (hL z0 z1).below hq), (fun h => not_ft h), (fun z0 => (hH z0).below hq), (fun _ h => not_tf h), (fun _ h => not_tf h), (fun z0 => (dL z0)), (fun z0 => (dH z0)), (fun z0 => (nLA z0)), (fun z0 => (nLB z0)), (fun z0 => (nLC z0)), (fun z0 => (nLM z0)), (fun z0 z1 => (nLH z0 z1)), (fun z0 => (nHA z0)), (fun z0 => (nHB z0)), (fun z0 => (nHC z0)), (fun z0 => (nHM z0))⟩
      refine lin_cons [] [12] rfl (by kernel_rfl) (by kernel_rfl) ?_ ?_
      · intro L ac Wn hI hi hds hus Kc hK
        obtain ⟨l0, l1, l2, l3, l4, l5, l6, l7, l8, l9, l10, l11, l12, rfl, hI⟩ := hI
        obtain rfl : l10 = false := hi
        obtain ⟨rfl, -⟩ : l12 = false ∧ True := hus
        simp only [sel_f] at hI
        obtain ⟨p9, p10, g32, g37, rfl, hb, hA, hB, hC, hM, hL, hL', hH, hW3, hW8, dL, dH, nLA, nLB, nLC, nLM, nLH, nHA, nHB, nHC, nHM⟩ := hI
        go_simp
        exact hK.out _ _ ⟨l0, l1, l2, l3, l4, l5, l6, l7, l8, l9, true, l11, false, by kernel_rfl, _, p10, g32, g37, by kernel_rfl, (hb.alloc hb.size _), (hA.alloc _), (hB.alloc _), (hC.alloc _), (hM.alloc _), (fun z0 z1 => Nk.new _ _ _ _), (fun h => not_ft h), (fun z0 => (hH z0).alloc _), (fun z0 z1 => (hW3 z0 z1).alloc _), (fun z0 z1 => (hW8 z0 z1).alloc _), (fun z0 => hb.size), (fun z0 => (dH z0)), (fun z0 => Nat.ne_of_lt ((hA).lt)), (fun z0 => Nat.ne_of_lt ((hB).lt)), (fun z0 => Nat.ne_of_lt ((hC).lt)), (fun z0 => Nat.ne_of_lt ((hM).lt)), (fun z0 z1 => Nat.ne_of_lt ((hH z1).lt)), (fun z0 => (nHA z0)), (fun z0 => (nHB z0)), (fun z0 => (nHC z0)), (fun z0 => (nHM z0))⟩
      refine lin_cons [] [12] rfl (by kernel_rfl) (by kernel_rfl) ?_ ?_
      · intro L ac Wn hI hi hds hus Kc hK
        obtain ⟨l0, l1, l2, l3, l4, l5, l6, l7, l8, l9, l10, l11, l12, rfl, hI⟩ := hI
        obtain rfl : l11 = false := hi
        obtain ⟨rfl, -⟩ : l12 = false ∧ True := hus
        simp only [sel_f] at hI
        obtain ⟨p9, p10, g32, g37, rfl, hb, hA, hB, hC, hM, hL, hL', hH, hW3, hW8, dL, dH, nLA, nLB, nLC, nLM, nLH, nHA, nHB, nHC, nHM⟩ := hI
        go_simp
        exact hK.out _ _ ⟨l0, l1, l2, l3, l4, l5, l6, l7, l8, l9, l10, true, false, by kernel_rfl, p9, _, g32, g37, by kernel_rfl, (hb.alloc hb.size _), (hA.alloc _), (hB.alloc _), (hC.alloc _), (hM.alloc _), (fun z0 z1 => (hL z0 z1).alloc _), (fun h => not_ft h), (fun z0 => Nk.new _ _ _ _), (fun z0 z1 => (hW3 z0 z1).alloc _), (fun z0 z1 => (hW8 z0 z1).alloc _), (fun z0 => (dL z0)), (fun z0 => hb.size), (fun z0 => (nLA z0)), (fun z0 => (nLB z0)), (fun z0 => (nLC z0)), (fun z0 => (nLM z0)), (fun z0 z1 => Nat.ne_of_gt ((hL z0 rfl).lt)), (fun z0 => Nat.ne_of_lt ((hA).lt)), (fun z0 => Nat.ne_of_lt ((hB).lt)), (fun z0 => Nat.ne_of_lt ((hC).lt)), (fun z0 => Nat.ne_of_lt ((hM).lt))⟩
      refine lin_cons [0, 1, 2, 3, 4, 5, 6, 7, 8, 9, 10, 11] [] rfl (by kernel_rfl) (by kernel_rfl) ?_ lin_nil
      intro L ac Wn hI hi hds hus Kc hK
      obtain ⟨l0, l1, l2, l3, l4, l5, l6, l7, l8, l9, l10, l11, l12, rfl, hI⟩ := hI
      obtain rfl : l12 = false := hi
      obtain ⟨rfl, rfl, rfl, rfl, rfl, rfl, rfl, rfl, rfl, rfl, rfl, rfl, -⟩ : l0 = true ∧ l1 = true ∧ l2 = true ∧ l3 = true ∧ l4 = true ∧ l5 = true ∧ l6 = true ∧ l7 = true ∧ l8 = true ∧ l9 = true ∧ l10 = true ∧ l11 = true ∧ True := hds
      simp only [sel_t] at hI
      obtain ⟨p9, p10, g32, g37, rfl, hb, hA, hB, hC, hM, hL, hL', hH, hW3, hW8, dL, dH, nLA, nLB, nLC, nLM, nLH, nHA, nHB, nHC, nHM⟩ := hI
      obtain ⟨q0, q1, q2, q3, q4, q5⟩ := (hL rfl rfl).facts
      have edL := dL rfl
      have edH := dH rfl
      have enLA := nLA rfl
      have enLB := nLB rfl
      have enLC := nLC rfl
      have enLM := nLM rfl
      have enLH := nLH rfl rfl
      have enHA := nHA rfl
      have enHB := nHB rfl
      have enHC := nHC rfl
      have enHM := nHM rfl
      go_simp
      exact hK.out _ _ ⟨true, true, true, true, true, true, true, true, true, true, true, true, true, by kernel_rfl, p9, p10, g32, g37, by kernel_rfl, (((hb.setCell (p := ⟨p9, 0, none⟩) (by show w.heap.size ≤ p9; omega) (.bool z3)).setCell (p := ⟨p9, 1, none⟩) (by show w.heap.size ≤ p9; omega) (.string o3)).setCell (p := ⟨p9, 2, none⟩) (by show w.heap.size ≤ p9; omega) (.int .i64 e3)), ((((hA).far (p := ⟨p9, 0, none⟩) (by show w.heap.size ≠ p9; omega) (.bool z3)).far (p := ⟨p9, 1, none⟩) (by show w.heap.size ≠ p9; omega) (.string o3)).far (p := ⟨p9, 2, none⟩) (by show w.heap.size ≠ p9; omega) (.int .i64 e3)), ((((hB).far (p := ⟨p9, 0, none⟩) (by show w.heap.size + 1 ≠ p9; omega) (.bool z3)).far (p := ⟨p9, 1, none⟩) (by show w.heap.size + 1 ≠ p9; omega) (.string o3)).far (p := ⟨p9, 2, none⟩) (by show w.heap.size + 1 ≠ p9; omega) (.int .i64 e3)), ((((hC).far (p := ⟨p9, 0, none⟩) (by show w.heap.size + 1 + 1 ≠ p9; omega) (.bool z3)).far (p := ⟨p9, 1, none⟩) (by show w.heap.size + 1 + 1 ≠ p9; omega) (.string o3)).far (p := ⟨p9, 2, none⟩) (by show w.heap.size + 1 + 1 ≠ p9; omega) (.int .i64 e3)), ((((hM).far (p := ⟨p9, 0, none⟩) (by show QM ≠ p9; omega) (.bool z3)).far (p := ⟨p9, 1, none⟩) (by show QM ≠ p9; omega) (.string o3)).far (p := ⟨p9, 2, none⟩) (by show QM ≠ p9; omega) (.int .i64 e3)), (fun _ h => not_tf h), (fun _ => (hL rfl rfl).set3 (z3) (o3) (e3)), (fun z0 => ((((hH z0)).far (p := ⟨p9, 0, none⟩) (by show p10 ≠ p9; omega) (.bool z3)).far (p := ⟨p9, 1, none⟩) (by show p10 ≠ p9; omega) (.string o3)).far (p := ⟨p9, 2, none⟩) (by show p10 ≠ p9; omega) (.int .i64 e3)), (fun _ h => not_tf h), (fun _ h => not_tf h), (fun z0 => (dL z0)), (fun z0 => (dH z0)), (fun z0 => (nLA z0)), (fun z0 => (nLB z0)), (fun z0 => (nLC z0)), (fun z0 => (nLM z0)), (fun z0 z1 => (nLH z0 z1)), (fun z0 => (nHA z0)), (fun z0 => (nHB z0)), (fun z0 => (nHC z0)), (fun z0 => (nHM z0))⟩
    refine bar_of [0, 1, 2, 3, 4, 5, 6, 7, 8, 9, 10, 11, 12] rfl (by kernel_rfl) ?_
    intro L ac Wn hI hds Kc hK
    obtain ⟨l0, l1, l2, l3, l4, l5, l6, l7, l8, l9, l10, l11, l12, rfl, hI⟩ := hI
    obtain ⟨rfl, rfl, rfl, rfl, rfl, rfl, rfl, rfl, rfl, rfl, rfl, rfl, rfl, -⟩ : l0 = true ∧ l1 = true ∧ l2 = true ∧ l3 = true ∧ l4 = true ∧ l5 = true ∧ l6 = true ∧ l7 = true ∧ l8 = true ∧ l9 = true ∧ l10 = true ∧ l11 = true ∧ l12 = true ∧ True := hds
    simp only [sel_t] at hI
    obtain ⟨p9, p10, g32, g37, rfl, hb, hA, hB, hC, hM, hL, hL', hH, hW3, hW8, dL, dH, nLA, nLB, nLC, nLM, nLH, nHA, nHB, nHC, nHM⟩ := hI
    clear hL
    replace hL' := hL' rfl
    replace hH := hH rfl
    clear hW3
    clear hW8
    replace dL := dL rfl
    replace dH := dH rfl
    replace nLA := nLA rfl
    replace nLB := nLB rfl
    replace nLC := nLC rfl
    replace nLM := nLM rfl
    replace nLH := nLH rfl rfl
    replace nHA := nHA rfl
    replace nHB := nHB rfl
    replace nHC := nHC rfl
    replace nHM := nHM rfl
    have hL := hL'
    clear hL'
    obtain ⟨q0, q1, q2, q3, q4, q5⟩ := (hH).facts
    go_simp
    replace hA := (((hA).far (p := ⟨p10, 0, none⟩) (by show w.heap.size ≠ p10; omega) (.bool z4)).far (p := ⟨p10, 1, none⟩) (by show w.heap.size ≠ p10; omega) (.string o4)).far (p := ⟨p10, 2, none⟩) (by show w.heap.size ≠ p10; omega) (.int .i64 e4)
    replace hB := (((hB).far (p := ⟨p10, 0, none⟩) (by show w.heap.size + 1 ≠ p10; omega) (.bool z4)).far (p := ⟨p10, 1, none⟩) (by show w.heap.size + 1 ≠ p10; omega) (.string o4)).far (p := ⟨p10, 2, none⟩) (by show w.heap.size + 1 ≠ p10; omega) (.int .i64 e4)
    replace hC := (((hC).far (p := ⟨p10, 0, none⟩) (by show w.heap.size + 1 + 1 ≠ p10; omega) (.bool z4)).far (p := ⟨p10, 1, none⟩) (by show w.heap.size + 1 + 1 ≠ p10; omega) (.string o4)).far (p := ⟨p10, 2, none⟩) (by show w.heap.size + 1 + 1 ≠ p10; omega) (.int .i64 e4)
    replace hM := (((hM).far (p := ⟨p10, 0, none⟩) (by show QM ≠ p10; omega) (.bool z4)).far (p := ⟨p10, 1, none⟩) (by show QM ≠ p10; omega) (.string o4)).far (p := ⟨p10, 2, none⟩) (by show QM ≠ p10; omega) (.int .i64 e4)
    replace hL := (((hL).far (p := ⟨p10, 0, none⟩) (by show p9 ≠ p10; omega) (.bool z4)).far (p := ⟨p10, 1, none⟩) (by show p9 ≠ p10; omega) (.string o4)).far (p := ⟨p10, 2, none⟩) (by show p9 ≠ p10; omega) (.int .i64 e4)
    replace hH := (hH).set3 (z4) (o4) (e4)
    replace hb := (((hb.setCell (p := ⟨p10, 0, none⟩) (by show w.heap.size ≤ p10; omega) (.bool z4)).setCell (p := ⟨p10, 1, none⟩) (by show w.heap.size ≤ p10; omega) (.string o4)).setCell (p := ⟨p10, 2, none⟩) (by show w.heap.size ≤ p10; omega) (.int .i64 e4))
    refine hK.out _ _ (fun fu hf => wpAnyH_done (by kernel_rfl) ?_ _)
    clear hK Kc hf
    generalize (((Wn.setCell ⟨p10, 0, none⟩ (.bool z4)).setCell ⟨p10, 1, none⟩ (.string o4)).setCell ⟨p10, 2, none⟩ (.int .i64 e4)) = W7 at *
    clear q0 q1 q2 q3 q4 q5
    go_wp2_with fail
    refine region_segs (n := 49) #[false, false, false, false, false, false, false, false, false, false, false, false, false, false, false, false, false, false, false, false, false, false, false, false, false, false, false, false, false, false, false, false, false, false, false, false, false, false, false, false, false, false, false, false, false, false, false, false, false] (by kernel_rfl) (by kernel_rfl) (by kernel_rfl) ?_
    intro fu hf
    refine lin_seg 49 [0, 1, 2, 3, 4, 5, 6] 6 (fun L ac Wn => ∃ l0 l1 l2 l3 l4 l5 : Bool, L = #[l0, l1, l2, l3, l4, l5, false, false, false, false, false, false, false, false, false, false, false, false, false, false, false, false, false, false, false, false, false, false, false, false, false, false, false, false, false, false, false, false, false, false, false, false, false, false, false, false, false, false, false] ∧ ac = { tmps := #[.agg #[.bool m, .string s, .int .i64 d], .agg #[.bool n, .string t, .int .i64 e], .agg #[.bool p, .string u, .int .i64 f], .pointer (some ⟨w.heap.size, 0, none⟩), .pointer (some ⟨w.heap.size + 1, 0, none⟩), .pointer (some ⟨w.heap.size + 1 + 1, 0, none⟩), .bool false, .int .i64 cc, .pointer (some ⟨QM, 0, none⟩), .pointer (some ⟨p9, 0, none⟩), .pointer (some ⟨p10, 0, none⟩), undef, undef, undef, undef, .agg #[.bool m, .string s, .int .i64 d], .agg #[.bool n, .string t, .int .i64 e], .agg #[.bool p, .string u, .int .i64 f], .slice (some ⟨w.heap.size + 1 + 1 + 1, 0, none⟩) 3 3, .bool false, undef, .agg #[.bool m, .string s, .int .i64 d], .agg #[.bool n, .string t, .int .i64 e], .int .i64 cc, .agg #[.bool m, .string s, .int .i64 d], .agg #[.bool n, .string t, .int .i64 e], .slice (some ⟨W2.heap.size, 0, none⟩) 2 2, .agg #[.bool z1, .string o1, .int .i64 e1], .agg #[.bool z2, .string o2, .int .i64 e2], .agg #[.bool m, .string s, .int .i64 d], .agg #[.bool n, .string t, .int .i64 e], .agg #[.bool p, .string u, .int .i64 f], .slice (some ⟨g32, 0, none⟩) 3 3, .agg #[.bool z3, .string o3, .int .i64 e3], .agg #[.bool m, .string s, .int .i64 d], .agg #[.bool n, .string t, .int .i64 e], .agg #[.bool p, .string u, .int .i64 f], .slice (some ⟨g37, 0, none⟩) 3 3, .agg #[.bool z4, .string o4, .int .i64 e4], sel l0 (.agg #[.bool n, .string t, .int .i64 e]) (undef), sel l1 (.agg #[.bool m, .string s, .int .i64 d]) (undef), sel l2 (.int .i64 (-cc)) (undef), sel l3 (.int .i64 cc) (undef), sel l4 (.int .i64 (-cc)) (undef), sel l5 (.bool false) (undef), undef, undef, undef, undef, undef, undef, undef, undef, undef, undef, undef, undef, undef, undef, undef, undef, undef, undef, undef, undef, undef, undef, undef, undef, undef, undef, undef, undef, undef, undef, undef, undef, undef, undef, undef, undef, undef, undef, undef, undef, undef, undef, undef, undef, undef, undef, undef, undef, undef, undef, undef, undef, undef, undef, undef, undef, undef, undef, undef, undef, undef, undef, undef, undef, undef, undef, undef, undef, undef, undef, undef, undef, undef, undef, undef, undef, undef, undef, undef, undef, undef, undef, undef, undef, undef, undef], defers := [] } ∧ Below (w.heap.size) w Wn ∧ (Nk Wn (w.heap.size) m s d) ∧ (Nk Wn (w.heap.size + 1) n t e) ∧ (Nk Wn (w.heap.size + 1 + 1) p u f) ∧ (Nk Wn QM z2 o2 e2) ∧ (Nk Wn p9 z3 o3 e3) ∧ (Nk Wn p10 z4 o4 e4)) (by kernel_rfl) (by kernel_rfl) (by kernel_rfl) (by kernel_rfl) hf ?_ ?_ ?_ (by kernel_rfl) ?_ (by decide)
    · exact ⟨false, false, false, false, false, false, by kernel_rfl, by kernel_rfl, hb.drew, hA.drew, hB.drew, hC.drew, hM.drew, hL.drew, hH.drew⟩
    · rintro L ac Wn ⟨l0, l1, l2, l3, l4, l5, rfl, _⟩
      kernel_rfl
    · refine (seg_all (b := 6) [0, 1, 2, 3, 4, 5] ?_ : ∀ j ∈ [0, 1, 2, 3, 4, 5, 6], j ≠ 6 → _)
      refine lin_cons [] [2, 5] rfl (by kernel_rfl) (by kernel_rfl) ?_ ?_
      · intro L ac Wn hI hi hds hus Kc hK
        obtain ⟨l0, l1, l2, l3, l4, l5, rfl, hI⟩ := hI
        obtain rfl : l0 = false := hi
        obtain ⟨rfl, rfl, -⟩ : l2 = false ∧ l5 = false ∧ True := hus
        simp only [sel_f] at hI
        obtain ⟨rfl, hb, hA, hB, hC, hM, hL, hH⟩ := hI
        obtain ⟨q0, q1, q2, q3, q4, q5⟩ := (hB).facts
        refine lin_yield (.agg #[.bool n, .string t, .int .i64 e]) rfl (by go_simp; first | done | with_reducible rfl | assumption) ?_
        exact hK.out _ _ ⟨true, l1, false, l3, l4, false, by kernel_rfl, by kernel_rfl, hb, (hA), (hB), (hC), (hM), (hL), (hH)⟩
      refine lin_cons [] [2, 5] rfl (by kernel_rfl) (by kernel_rfl) ?_ ?_
      · intro L ac Wn hI hi hds hus Kc hK
        obtain ⟨l0, l1, l2, l3, l4, l5, rfl, hI⟩ := hI
        obtain rfl : l1 = false := hi
        obtain ⟨rfl, rfl, -⟩ : l2 = false ∧ l5 = false ∧ True := hus
        simp only [sel_f] at hI
        obtain ⟨rfl, hb, hA, hB, hC, hM, hL, hH⟩ := hI
        obtain ⟨q0, q1, q2, q3, q4, q5⟩ := (hA).facts
        refine lin_yield (.agg #[.bool m, .string s, .int .i64 d]) rfl (by go_simp; first | done | with_reducible rfl | assumption) ?_
        exact hK.out _ _ ⟨l0, true, false, l3, l4, false, by kernel_rfl, by kernel_rfl, hb, (hA), (hB), (hC), (hM), (hL), (hH)⟩
      refine lin_cons [0, 1] [5] rfl (by kernel_rfl) (by kernel_rfl) ?_ ?_
      · intro L ac Wn hI hi hds hus Kc hK
        obtain ⟨l0, l1, l2, l3, l4, l5, rfl, hI⟩ := hI
        obtain rfl : l2 = false := hi
        obtain ⟨rfl, rfl, -⟩ : l0 = true ∧ l1 = true ∧ True := hds
        obtain ⟨rfl, -⟩ : l5 = false ∧ True := hus
        simp only [sel_t, sel_f] at hI
        obtain ⟨rfl, hb, hA, hB, hC, hM, hL, hH⟩ := hI
        go_simp
        go_fit (use_ycmp HO.out.2.1 HO.out.1 (-cc) HQ.out.2.1)
        rintro e V ⟨rfl, hq⟩
        exact hK.out _ _ ⟨true, true, true, l3, l4, false, by kernel_rfl, by kernel_rfl, (below_next hb hq), (hA.below hq), (hB.below hq), (hC.below hq), (hM.below hq), (hL.below hq), (hH.below hq)⟩
      refine lin_cons [] [4, 5] rfl (by kernel_rfl) (by kernel_rfl) ?_ ?_
      · intro L ac Wn hI hi hds hus Kc hK
        obtain ⟨l0, l1, l2, l3, l4, l5, rfl, hI⟩ := hI
        obtain rfl : l3 = false := hi
        obtain ⟨rfl, rfl, -⟩ : l4 = false ∧ l5 = false ∧ True := hus
        simp only [sel_f] at hI
        obtain ⟨rfl, hb, hA, hB, hC, hM, hL, hH⟩ := hI
        refine lin_yield (.int .i64 cc) rfl (by go_simp; first | done | with_reducible rfl | assumption) ?_
        exact hK.out _ _ ⟨l0, l1, l2, true, false, false, by kernel_rfl, by kernel_rfl, hb, (hA), (hB), (hC), (hM), (hL), (hH)⟩
      refine lin_cons [3] [5] rfl (by kernel_rfl) (by kernel_rfl) ?_ ?_
      · intro L ac Wn hI hi hds hus Kc hK
        obtain ⟨l0, l1, l2, l3, l4, l5, rfl, hI⟩ := hI
        obtain rfl : l4 = false := hi
        obtain ⟨rfl, -⟩ : l3 = true ∧ True := hds
        obtain ⟨rfl, -⟩ : l5 = false ∧ True := hus
        simp only [sel_t, sel_f] at hI
        obtain ⟨rfl, hb, hA, hB, hC, hM, hL, hH⟩ := hI
        refine lin_yield (.int .i64 (-cc)) rfl (by go_simp; first | done | with_reducible rfl | assumption) ?_
        exact hK.out _ _ ⟨l0, l1, l2, true, true, false, by kernel_rfl, by kernel_rfl, hb, (hA), (hB), (hC), (hM), (hL), (hH)⟩
      refine lin_cons [0, 1, 2, 3, 4] [] rfl (by kernel_rfl) (by kernel_rfl) ?_ lin_nil
      intro L ac Wn hI hi hds hus Kc hK
      obtain ⟨l0, l1, l2, l3, l4, l5, rfl, hI⟩ := hI
      obtain rfl : l5 = false := hi
      obtain ⟨rfl, rfl, rfl, rfl, rfl, -⟩ : l0 = true ∧ l1 = true ∧ l2 = true ∧ l3 = true ∧ l4 = true ∧ True := hds
      simp only [sel_t, sel_f] at hI
      obtain ⟨rfl, hb, hA, hB, hC, hM, hL, hH⟩ := hI
      refine lin_yield (.bool false) rfl (by go_simp; first | done | with_reducible rfl | assumption) ?_
      exact hK.out _ _ ⟨true, true, true, true, true, true, by kernel_rfl, by kernel_rfl, hb, (hA), (hB), (hC), (hM), (hL), (hH)⟩
    refine bar_of [0, 1, 2, 3, 4, 5] rfl (by kernel_rfl) ?_
    intro L ac Wn hI hds Kc hK
    obtain ⟨l0, l1, l2, l3, l4, l5, rfl, hI⟩ := hI
    obtain ⟨rfl, rfl, rfl, rfl, rfl, rfl, -⟩ : l0 = true ∧ l1 = true ∧ l2 = true ∧ l3 = true ∧ l4 = true ∧ l5 = true ∧ True := hds
    simp only [sel_t] at hI
    obtain ⟨rfl, hb, hA, hB, hC, hM, hL, hH⟩ := hI
    refine lin_yield (.bool false) rfl (by go_simp; first | done | with_reducible rfl | assumption) ?_
    refine hK.out _ _ (fun fu hf => ?_)
    clear hK Kc
    refine lin_seg 49 [7, 8, 9, 10, 11, 12, 13, 14, 15, 16, 17, 18, 19] 19 (fun L ac Wn => ∃ l7 l8 l9 l10 l11 l12 l13 l14 l15 l16 l17 l18 : Bool, L = #[true, true, true, true, true, true, true, l7, l8, l9, l10, l11, l12, l13, l14, l15, l16, l17, l18, false, false, false, false, false, false, false, false, false, false, false, false, false, false, false, false, false, false, false, false, false, false, false, false, false, false, false, false, false, false] ∧ ∃ g48 g52 : Nat, ac = { tmps := #[.agg #[.bool m, .string s, .int .i64 d], .agg #[.bool n, .string t, .int .i64 e], .agg #[.bool p, .string u, .int .i64 f], .pointer (some ⟨w.heap.size, 0, none⟩), .pointer (some ⟨w.heap.size + 1, 0, none⟩), .pointer (some ⟨w.heap.size + 1 + 1, 0, none⟩), .bool false, .int .i64 cc, .pointer (some ⟨QM, 0, none⟩), .pointer (some ⟨p9, 0, none⟩), .pointer (some ⟨p10, 0, none⟩), undef, undef, undef, undef, .agg #[.bool m, .string s, .int .i64 d], .agg #[.bool n, .string t, .int .i64 e], .agg #[.bool p, .string u, .int .i64 f], .slice (some ⟨w.heap.size + 1 + 1 + 1, 0, none⟩) 3 3, .bool false, undef, .agg #[.bool m, .string s, .int .i64 d], .agg #[.bool n, .string t, .int .i64 e], .int .i64 cc, .agg #[.bool m, .string s, .int .i64 d], .agg #[.bool n, .string t, .int .i64 e], .slice (some ⟨W2.heap.size, 0, none⟩) 2 2, .agg #[.bool z1, .string o1, .int .i64 e1], .agg #[.bool z2, .string o2, .int .i64 e2], .agg #[.bool m, .string s, .int .i64 d], .agg #[.bool n, .string t, .int .i64 e], .agg #[.bool p, .string u, .int .i64 f], .slice (some ⟨g32, 0, none⟩) 3 3, .agg #[.bool z3, .string o3, .int .i64 e3], .agg #[.bool m, .string s, .int .i64 d], .agg #[.bool n, .string t, .int .i64 e], .agg #[.bool p, .string u, .int .i64 f], .slice (some ⟨g37, 0, none⟩) 3 3, .agg #[.bool z4, .string o4, .int .i64 e4], .agg #[.bool n, .string t, .int .i64 e], .agg #[.bool m, .string s, .int .i64 d], .int .i64 (-cc), .int .i64 cc, .int .i64 (-cc), .bool false, .bool false, sel l7 (.agg #[.bool m, .string s, .int .i64 d]) (undef), sel l8 (.agg #[.bool p, .string u, .int .i64 f]) (undef), sel l9 (.slice (some ⟨g48, 0, none⟩) 2 2) (undef), sel l10 (.agg #[.bool z5, .string o5, .int .i64 e5]) (undef), sel l11 (.agg #[.bool n, .string t, .int .i64 e]) (undef), sel l12 (.agg #[.bool p, .string u, .int .i64 f]) (undef), sel l13 (.slice (some ⟨g52, 0, none⟩) 2 2) (undef), sel l14 (.agg #[.bool z6, .string o6, .int .i64 e6]) (undef), sel l15 (.int .i64 cc) (undef), sel l16 (.int .i64 cc) (undef), sel l17 (.bool false) (undef), sel l18 (.bool false) (undef), undef, undef, undef, undef, undef, undef, undef, undef, undef, undef, undef, undef, undef, undef, undef, undef, undef, undef, undef, undef, undef, undef, undef, undef, undef, undef, undef, undef, undef, undef, undef, undef, undef, undef, undef, undef, undef, undef, undef, undef, undef, undef, undef, undef, undef, undef, undef, undef, undef, undef, undef, undef, undef, undef, undef, undef, undef, undef, undef, undef, undef, undef, undef, undef, undef, undef, undef, undef, undef, undef, undef, undef, undef], defers := [] } ∧ Below (w.heap.size) w Wn ∧ (Nk Wn (w.heap.size) m s d) ∧ (Nk Wn (w.heap.size + 1) n t e) ∧ (Nk Wn (w.heap.size + 1 + 1) p u f) ∧ (Nk Wn QM z2 o2 e2) ∧ (Nk Wn p9 z3 o3 e3) ∧ (Nk Wn p10 z4 o4 e4) ∧ (On l9 → Off l10 → NAt Wn (some ⟨g48, 0, none⟩) [(m, s, d), (p, u, f)]) ∧ (On l13 → Off l14 → NAt Wn (some ⟨g52, 0, none⟩) [(n, t, e), (p, u, f)])) (by kernel_rfl) (by kernel_rfl) (by kernel_rfl) (by kernel_rfl) hf ?_ ?_ ?_ (by kernel_rfl) ?_ (by decide)
    · exact ⟨false, false, false, false, false, false, false, false, false, false, false, false, by kernel_rfl, 0, 0, by kernel_rfl, hb, hA, hB, hC, hM, hL, hH, (fun h _ => not_ft h), (fun h _ => not_ft h)⟩
    · rintro L ac Wn ⟨l7, l8, l9, l10, l11, l12, l13, l14, l15, l16, l17, l18, rfl, _⟩
      kernel_rfl
    · refine (seg_all (b := 19) [7, 8, 9, 10, 11, 12, 13, 14, 15, 16, 17, 18] ?_ : ∀ j ∈ [7, 8, 9, 10, 11, 12, 13, 14, 15, 16, 17, 18, 19], j ≠ 19 → _)
      refine lin_cons [] [9, 10, 14, 15, 17, 18] rfl (by kernel_rfl) (by kernel_rfl) ?_ ?_
      · intro L ac Wn hI hi hds hus Kc hK
        obtain ⟨l7, l8, l9, l10, l11, l12, l13, l14, l15, l16, l17, l18, rfl, hI⟩ := hI
        obtain rfl : l7 = false := hi
        obtain ⟨rfl, rfl, rfl, rfl, rfl, rfl, -⟩ : l9 = false ∧ l10 = false ∧ l14 = false ∧ l15 = false ∧ l17 = false ∧ l18 = false ∧ True := hus
        simp only [sel_f] at hI
        obtain ⟨g48, g52, rfl, hb, hA, hB, hC, hM, hL, hH, hW9, hW13⟩ := hI
        obtain ⟨q0, q1, q2, q3, q4, q5⟩ := (hA).facts
        refine lin_yield (.agg #[.bool m, .string s, .int .i64 d]) rfl (by go_simp; first | done | with_reducible rfl | assumption) ?_
        exact hK.out _ _ ⟨true, l8, false, false, l11, l12, l13, false, false, l16, false, false, by kernel_rfl, g48, g52, by kernel_rfl, hb, (hA), (hB), (hC), (hM), (hL), (hH), (fun h _ => not_ft h), (fun z0 z1 => (hW13 z0 z1))⟩
      refine lin_cons [] [9, 10, 14, 15, 17, 18] rfl (by kernel_rfl) (by kernel_rfl) ?_ ?_
      · intro L ac Wn hI hi hds hus Kc hK
        obtain ⟨l7, l8, l9, l10, l11, l12, l13, l14, l15, l16, l17, l18, rfl, hI⟩ := hI
        obtain rfl : l8 = false := hi
        obtain ⟨rfl, rfl, rfl, rfl, rfl, rfl, -⟩ : l9 = false ∧ l10 = false ∧ l14 = false ∧ l15 = false ∧ l17 = false ∧ l18 = false ∧ True := hus
        simp only [sel_f] at hI
        obtain ⟨g48, g52, rfl, hb, hA, hB, hC, hM, hL, hH, hW9, hW13⟩ := hI
        obtain ⟨q0, q1, q2, q3, q4, q5⟩ := (hC).facts
        refine lin_yield (.agg #[.bool p, .string u, .int .i64 f]) rfl (by go_simp; first | done | with_reducible rfl | assumption) ?_
        exact hK.out _ _ ⟨l7, true, false, false, l11, l12, l13, false, false, l16, false, false, by kernel_rfl, g48, g52, by kernel_rfl, hb, (hA), (hB), (hC), (hM), (hL), (hH), (fun h _ => not_ft h), (fun z0 z1 => (hW13 z0 z1))⟩
      refine lin_cons [7, 8] [10, 14, 15, 17, 18] rfl (by kernel_rfl) (by kernel_rfl) ?_ ?_
      · intro L ac Wn hI hi hds hus Kc hK
        obtain ⟨l7, l8, l9, l10, l11, l12, l13, l14, l15, l16, l17, l18, rfl, hI⟩ := hI
        obtain rfl : l9 = false := hi
        obtain ⟨rfl, rfl, -⟩ : l7 = true ∧ l8 = true ∧ True := hds
        obtain ⟨rfl, rfl, rfl, rfl, rfl, -⟩ : l10 = false ∧ l14 = false ∧ l15 = false ∧ l17 = false ∧ l18 = false ∧ True := hus
        simp only [sel_t, sel_f] at hI
        obtain ⟨g48, g52, rfl, hb, hA, hB, hC, hM, hL, hH, hW9, hW13⟩ := hI
        go_simp
        exact hK.out _ _ ⟨true, true, true, false, l11, l12, l13, false, false, l16, false, false, by kernel_rfl, _, g52, by kernel_rfl, (hb.alloc hb.size _), (hA.alloc _), (hB.alloc _), (hC.alloc _), (hM.alloc _), (hL.alloc _), (hH.alloc _), (fun _ _ => NAt.new _ _ _ _ rfl), (fun z0 z1 => (hW13 z0 z1).alloc _)⟩
      refine lin_cons [7, 8, 9] [14, 15, 17, 18] rfl (by kernel_rfl) (by kernel_rfl) ?_ ?_
      · intro L ac Wn hI hi hds hus Kc hK
        obtain ⟨l7, l8, l9, l10, l11, l12, l13, l14, l15, l16, l17, l18, rfl, hI⟩ := hI
        obtain rfl : l10 = false := hi
        obtain ⟨rfl, rfl, rfl, -⟩ : l7 = true ∧ l8 = true ∧ l9 = true ∧ True := hds
        obtain ⟨rfl, rfl, rfl, rfl, -⟩ : l14 = false ∧ l15 = false ∧ l17 = false ∧ l18 = false ∧ True := hus
        simp only [sel_t, sel_f] at hI
        obtain ⟨g48, g52, rfl, hb, hA, hB, hC, hM, hL, hH, hW9, hW13⟩ := hI
        go_simp
        go_fit (use_yadd2 HO.out.1 HO.out.2.2.1 (hW9 rfl rfl) HK.out.2.2.2.2.1)
        rintro e V ⟨rfl, hq⟩
        exact hK.out _ _ ⟨true, true, true, true, l11, l12, l13, false, false, l16, false, false, by kernel_rfl, g48, g52, by kernel_rfl, (below_next hb hq), (hA.below hq), (hB.below hq), (hC.below hq), (hM.below hq), (hL.below hq), (hH.below hq), (fun _ h => not_tf h), (fun z0 z1 => (hW13 z0 z1).below hq)⟩
      refine lin_cons [] [13, 14, 15, 17, 18] rfl (by kernel_rfl) (by kernel_rfl) ?_ ?_
      · intro L ac Wn hI hi hds hus Kc hK
        obtain ⟨l7, l8, l9, l10, l11, l12, l13, l14, l15, l16, l17, l18, rfl, hI⟩ := hI
        obtain rfl : l11 = false := hi
        obtain ⟨rfl, rfl, rfl, rfl, rfl, -⟩ : l13 = false ∧ l14 = false ∧ l15 = false ∧ l17 = false ∧ l18 = false ∧ True := hus
        simp only [sel_f] at hI
        obtain ⟨g48, g52, rfl, hb, hA, hB, hC, hM, hL, hH, hW9, hW13⟩ := hI
        obtain ⟨q0, q1, q2, q3, q4, q5⟩ := (hB).facts
        refine lin_yield (.agg #[.bool n, .string t, .int .i64 e]) rfl (by go_simp; first | done | with_reducible rfl | assumption) ?_
        exact hK.out _ _ ⟨l7, l8, l9, l10, true, l12, false, false, false, l16, false, false, by kernel_rfl, g48, g52, by kernel_rfl, hb, (hA), (hB), (hC), (hM), (hL), (hH), (fun z0 z1 => (hW9 z0 z1)), (fun h _ => not_ft h)⟩
      refine lin_cons [] [13, 14, 15, 17, 18] rfl (by kernel_rfl) (by kernel_rfl) ?_ ?_
      · intro L ac Wn hI hi hds hus Kc hK
        obtain ⟨l7, l8, l9, l10, l11, l12, l13, l14, l15, l16, l17, l18, rfl, hI⟩ := hI
        obtain rfl : l12 = false := hi
        obtain ⟨rfl, rfl, rfl, rfl, rfl, -⟩ : l13 = false ∧ l14 = false ∧ l15 = false ∧ l17 = false ∧ l18 = false ∧ True := hus
        simp only [sel_f] at hI
        obtain ⟨g48, g52, rfl, hb, hA, hB, hC, hM, hL, hH, hW9, hW13⟩ := hI
        obtain ⟨q0, q1, q2, q3, q4, q5⟩ := (hC).facts
        refine lin_yield (.agg #[.bool p, .string u, .int .i64 f]) rfl (by go_simp; first | done | with_reducible rfl | assumption) ?_
        exact hK.out _ _ ⟨l7, l8, l9, l10, l11, true, false, false, false, l16, false, false, by kernel_rfl, g48, g52, by kernel_rfl, hb, (hA), (hB), (hC), (hM), (hL), (hH), (fun z0 z1 => (hW9 z0 z1)), (fun h _ => not_ft h)⟩
      refine lin_cons [11, 12] [14, 15, 17, 18] rfl (by kernel_rfl) (by kernel_rfl) ?_ ?_
      · intro L ac Wn hI hi hds hus Kc hK
        obtain ⟨l7, l8, l9, l10, l11, l12, l13, l14, l15, l16, l17, l18, rfl, hI⟩ := hI
        obtain rfl : l13 = false := hi
        obtain ⟨rfl, rfl, -⟩ : l11 = true ∧ l12 = true ∧ True := hds
        obtain ⟨rfl, rfl, rfl, rfl, -⟩ : l14 = false ∧ l15 = false ∧ l17 = false ∧ l18 = false ∧ True := hus
        simp only [sel_t, sel_f] at hI
        obtain ⟨g48, g52, rfl, hb, hA, hB, hC, hM, hL, hH, hW9, hW13⟩ := hI
        go_simp
        exact hK.out _ _ ⟨l7, l8, l9, l10, true, true, true, false, false, l16, false, false, by kernel_rfl, g48, _, by kernel_rfl, (hb.alloc hb.size _), (hA.alloc _), (hB.alloc _), (hC.alloc _), (hM.alloc _), (hL.alloc _), (hH.alloc _), (fun z0 z1 => (hW9 z0 z1).alloc _), (fun _ _ => NAt.new _ _ _ _ rfl)⟩
      refine lin_cons [7, 8, 9, 10, 11, 12, 13] [15, 17, 18] rfl (by kernel_rfl) (by kernel_rfl) ?_ ?_
      · intro L ac Wn hI hi hds hus Kc hK
        obtain ⟨l7, l8, l9, l10, l11, l12, l13, l14, l15, l16, l17, l18, rfl, hI⟩ := hI
        obtain rfl : l14 = false := hi
        obtain ⟨rfl, rfl, rfl, rfl, rfl, rfl, rfl, -⟩ : l7 = true ∧ l8 = true ∧ l9 = true ∧ l10 = true ∧ l11 = true ∧ l12 = true ∧ l13 = true ∧ True := hds
        obtain ⟨rfl, rfl, rfl, -⟩ : l15 = false ∧ l17 = false ∧ l18 = false ∧ True := hus
        simp only [sel_t, sel_f] at hI
        obtain ⟨g48, g52, rfl, hb, hA, hB, hC, hM, hL, hH, hW9, hW13⟩ := hI
        go_simp
        go_fit (use_yadd2 HO.out.2.1 HO.out.2.2.1 (hW13 rfl rfl) HK.out.2.2.2.2.2.1)
        rintro e V ⟨rfl, hq⟩
        exact hK.out _ _ ⟨true, true, true, true, true, true, true, true, false, l16, false, false, by kernel_rfl, g48, g52, by kernel_rfl, (below_next hb hq), (hA.below hq), (hB.below hq), (hC.below hq), (hM.below hq), (hL.below hq), (hH.below hq), (fun _ h => not_tf h), (fun _ h => not_tf h)⟩
      refine lin_cons [7, 8, 9, 10, 11, 12, 13, 14] [17, 18] rfl (by kernel_rfl) (by kernel_rfl) ?_ ?_
      · intro L ac Wn hI hi hds hus Kc hK
        obtain ⟨l7, l8, l9, l10, l11, l12, l13, l14, l15, l16, l17, l18, rfl, hI⟩ := hI
        obtain rfl : l15 = false := hi
        obtain ⟨rfl, rfl, rfl, rfl, rfl, rfl, rfl, rfl, -⟩ : l7 = true ∧ l8 = true ∧ l9 = true ∧ l10 = true ∧ l11 = true ∧ l12 = true ∧ l13 = true ∧ l14 = true ∧ True := hds
        obtain ⟨rfl, rfl, -⟩ : l17 = false ∧ l18 = false ∧ True := hus
        simp only [sel_t, sel_f] at hI
        obtain ⟨g48, g52, rfl, hb, hA, hB, hC, hM, hL, hH, hW9, hW13⟩ := hI
        go_simp
        go_fit (use_ycmp HO.out.2.2.2.2.2.1 HO.out.2.2.2.2.2.2.1 cc HQ.out.2.2.1)
        rintro e V ⟨rfl, hq⟩
        exact hK.out _ _ ⟨true, true, true, true, true, true, true, true, true, l16, false, false, by kernel_rfl, g48, g52, by kernel_rfl, (below_next hb hq), (hA.below hq), (hB.below hq), (hC.below hq), (hM.below hq), (hL.below hq), (hH.below hq), (fun _ h => not_tf h), (fun _ h => not_tf h)⟩
      refine lin_cons [] [17, 18] rfl (by kernel_rfl) (by kernel_rfl) ?_ ?_
      · intro L ac Wn hI hi hds hus Kc hK
        obtain ⟨l7, l8, l9, l10, l11, l12, l13, l14, l15, l16, l17, l18, rfl, hI⟩ := hI
        obtain rfl : l16 = false := hi
        obtain ⟨rfl, rfl, -⟩ : l17 = false ∧ l18 = false ∧ True := hus
        simp only [sel_f] at hI
        obtain ⟨g48, g52, rfl, hb, hA, hB, hC, hM, hL, hH, hW9, hW13⟩ := hI
        refine lin_yield (.int .i64 cc) rfl (by go_simp; first | done | with_reducible rfl | assumption) ?_
        exact hK.out _ _ ⟨l7, l8, l9, l10, l11, l12, l13, l14, l15, true, false, false, by kernel_rfl, g48, g52, by kernel_rfl, hb, (hA), (hB), (hC), (hM), (hL), (hH), (fun z0 z1 => (hW9 z0 z1)), (fun z0 z1 => (hW13 z0 z1))⟩
      refine lin_cons [7, 8, 9, 10, 11, 12, 13, 14, 15, 16] [18] rfl (by kernel_rfl) (by kernel_rfl) ?_ ?_
      · intro L ac Wn hI hi hds hus Kc hK
        obtain ⟨l7, l8, l9, l10, l11, l12, l13, l14, l15, l16, l17, l18, rfl, hI⟩ := hI
        obtain rfl : l17 = false := hi
        obtain ⟨rfl, rfl, rfl, rfl, rfl, rfl, rfl, rfl, rfl, rfl, -⟩ : l7 = true ∧ l8 = true ∧ l9 = true ∧ l10 = true ∧ l11 = true ∧ l12 = true ∧ l13 = true ∧ l14 = true ∧ l15 = true ∧ l16 = true ∧ True := hds
        obtain ⟨rfl, -⟩ : l18 = false ∧ True := hus
        simp only [sel_t, sel_f] at hI
        obtain ⟨g48, g52, rfl, hb, hA, hB, hC, hM, hL, hH, hW9, hW13⟩ := hI
        refine lin_yield (.bool false) rfl (by go_simp; first | done | with_reducible rfl | assumption) ?_
        exact hK.out _ _ ⟨true, true, true, true, true, true, true, true, true, true, true, false, by kernel_rfl, g48, g52, by kernel_rfl, hb, (hA), (hB), (hC), (hM), (hL), (hH), (fun _ h => not_tf h), (fun _ h => not_tf h)⟩
      refine lin_cons [7, 8, 9, 10, 11, 12, 13, 14, 15, 16, 17] [] rfl (by kernel_rfl) (by kernel_rfl) ?_ lin_nil
      intro L ac Wn hI hi hds hus Kc hK
      obtain ⟨l7, l8, l9, l10, l11, l12, l13, l14, l15, l16, l17, l18, rfl, hI⟩ := hI
      obtain rfl : l18 = false := hi
      obtain ⟨rfl, rfl, rfl, rfl, rfl, rfl, rfl, rfl, rfl, rfl, rfl, -⟩ : l7 = true ∧ l8 = true ∧ l9 = true ∧ l10 = true ∧ l11 = true ∧ l12 = true ∧ l13 = true ∧ l14 = true ∧ l15 = true ∧ l16 = true ∧ l17 = true ∧ True := hds
      simp only [sel_t, sel_f] at hI
      obtain ⟨g48, g52, rfl, hb, hA, hB, hC, hM, hL, hH, hW9, hW13⟩ := hI
      refine lin_yield (.bool false) rfl (by go_simp; first | done | with_reducible rfl | assumption) ?_
      exact hK.out _ _ ⟨true, true, true, true, true, true, true, true, true, true, true, true, by kernel_rfl, g48, g52, by kernel_rfl, hb, (hA), (hB), (hC), (hM), (hL), (hH), (fun _ h => not_tf h), (fun _ h => not_tf h)⟩
    refine bar_of [7, 8, 9, 10, 11, 12, 13, 14, 15, 16, 17, 18] rfl (by kernel_rfl) ?_
    intro L ac Wn hI hds Kc hK
    obtain ⟨l7, l8, l9, l10, l11, l12, l13, l14, l15, l16, l17, l18, rfl, hI⟩ := hI
    obtain ⟨rfl, rfl, rfl, rfl, rfl, rfl, rfl, rfl, rfl, rfl, rfl, rfl, -⟩ : l7 = true ∧ l8 = true ∧ l9 = true ∧ l10 = true ∧ l11 = true ∧ l12 = true ∧ l13 = true ∧ l14 = true ∧ l15 = true ∧ l16 = true ∧ l17 = true ∧ l18 = true ∧ True := hds
    simp only [sel_t] at hI
    obtain ⟨g48, g52, rfl, hb, hA, hB, hC, hM, hL, hH, hW9, hW13⟩ := hI
    clear hW9
    clear hW13
    refine lin_yield (.bool false) rfl (by go_simp; first | done | with_reducible rfl | assumption) ?_
    refine hK.out _ _ (fun fu hf => ?_)
    clear hK Kc
    refine lin_seg 49 [20, 21, 22, 23, 24, 25, 26, 27, 28, 29, 30, 31, 32, 33, 34, 35] 35 (fun L ac Wn => ∃ l20 l21 l22 l23 l24 l25 l26 l27 l28 l29 l30 l31 l32 l33 l34 : Bool, L = #[true, true, true, true, true, true, true, true, true, true, true, true, true, true, true, true, true, true, true, true, l20, l21, l22, l23, l24, l25, l26, l27, l28, l29, l30, l31, l32, l33, l34, false, false, false, false, false, false, false, false, false, false, false, false, false, false] ∧ ∃ g61 g65 : Nat, ac = { tmps := #[.agg #[.bool m, .string s, .int .i64 d], .agg #[.bool n, .string t, .int .i64 e], .agg #[.bool p, .string u, .int .i64 f], .pointer (some ⟨w.heap.size, 0, none⟩), .pointer (some ⟨w.heap.size + 1, 0, none⟩), .pointer (some ⟨w.heap.size + 1 + 1, 0, none⟩), .bool false, .int .i64 cc, .pointer (some ⟨QM, 0, none⟩), .pointer (some ⟨p9, 0, none⟩), .pointer (some ⟨p10, 0, none⟩), undef, undef, undef, undef, .agg #[.bool m, .string s, .int .i64 d], .agg #[.bool n, .string t, .int .i64 e], .agg #[.bool p, .string u, .int .i64 f], .slice (some ⟨w.heap.size + 1 + 1 + 1, 0, none⟩) 3 3, .bool false, undef, .agg #[.bool m, .string s, .int .i64 d], .agg #[.bool n, .string t, .int .i64 e], .int .i64 cc, .agg #[.bool m, .string s, .int .i64 d], .agg #[.bool n, .string t, .int .i64 e], .slice (some ⟨W2.heap.size, 0, none⟩) 2 2, .agg #[.bool z1, .string o1, .int .i64 e1], .agg #[.bool z2, .string o2, .int .i64 e2], .agg #[.bool m, .string s, .int .i64 d], .agg #[.bool n, .string t, .int .i64 e], .agg #[.bool p, .string u, .int .i64 f], .slice (some ⟨g32, 0, none⟩) 3 3, .agg #[.bool z3, .string o3, .int .i64 e3], .agg #[.bool m, .string s, .int .i64 d], .agg #[.bool n, .string t, .int .i64 e], .agg #[.bool p, .string u, .int .i64 f], .slice (some ⟨g37, 0, none⟩) 3 3, .agg #[.bool z4, .string o4, .int .i64 e4], .agg #[.bool n, .string t, .int .i64 e], .agg #[.bool m, .string s, .int .i64 d], .int .i64 (-cc), .int .i64 cc, .int .i64 (-cc), .bool false, .bool false, .agg #[.bool m, .string s, .int .i64 d], .agg #[.bool p, .string u, .int .i64 f], .slice (some ⟨g48, 0, none⟩) 2 2, .agg #[.bool z5, .string o5, .int .i64 e5], .agg #[.bool n, .string t, .int .i64 e], .agg #[.bool p, .string u, .int .i64 f], .slice (some ⟨g52, 0, none⟩) 2 2, .agg #[.bool z6, .string o6, .int .i64 e6], .int .i64 cc, .int .i64 cc, .bool false, .bool false, .bool false, sel l20 (.agg #[.bool m, .string s, .int .i64 d]) (undef), sel l21 (.agg #[.bool p, .string u, .int .i64 f]) (undef), sel l22 (.slice (some ⟨g61, 0, none⟩) 2 2) (undef), sel l23 (.agg #[.bool z7, .string o7, .int .i64 e7]) (undef), sel l24 (.agg #[.bool n, .string t, .int .i64 e]) (undef), sel l25 (.agg #[.bool p, .string u, .int .i64 f]) (undef), sel l26 (.slice (some ⟨g65, 0, none⟩) 2 2) (undef), sel l27 (.agg #[.bool z8, .string o8, .int .i64 e8]) (undef), sel l28 (.int .i64 (cc * cs)) (undef), sel l29 (.int .i64 cc) (undef), sel l30 (.agg #[.bool p, .string u, .int .i64 f]) (undef), sel l31 (.int .i64 cs) (undef), sel l32 (.int .i64 (cc * cs)) (undef), sel l33 (.bool false) (undef), sel l34 (.bool false) (undef), undef, undef, undef, undef, undef, undef, undef, undef, undef, undef, undef, undef, undef, undef, undef, undef, undef, undef, undef, undef, undef, undef, undef, undef, undef, undef, undef, undef, undef, undef, undef, undef, undef, undef, undef, undef, undef, undef, undef, undef, undef, undef, undef, undef, undef, undef, undef, undef, undef, undef, undef, undef, undef, undef, undef, undef, undef], defers := [] } ∧ Below (w.heap.size) w Wn ∧ (Nk Wn (w.heap.size) m s d) ∧ (Nk Wn (w.heap.size + 1) n t e) ∧ (Nk Wn (w.heap.size + 1 + 1) p u f) ∧ (Nk Wn QM z2 o2 e2) ∧ (Nk Wn p9 z3 o3 e3) ∧ (Nk Wn p10 z4 o4 e4) ∧ (On l22 → Off l23 → NAt Wn (some ⟨g61, 0, none⟩) [(m, s, d), (p, u, f)]) ∧ (On l26 → Off l27 → NAt Wn (some ⟨g65, 0, none⟩) [(n, t, e), (p, u, f)])) (by kernel_rfl) (by kernel_rfl) (by kernel_rfl) (by kernel_rfl) hf ?_ ?_ ?_ (by kernel_rfl) ?_ (by decide)
    · exact ⟨false, false, false, false, false, false, false, false, false, false, false, false, false, false, false, by kernel_rfl, 0, 0, by kernel_rfl, hb, hA, hB, hC, hM, hL, hH, (fun h _ => not_ft h), (fun h _ => not_ft h)⟩
    · rintro L ac Wn ⟨l20, l21, l22, l23, l24, l25, l26, l27, l28, l29, l30, l31, l32, l33, l34, rfl, _⟩
      kernel_rfl
    · refine (seg_all (b := 35) [20, 21, 22, 23, 24, 25, 26, 27, 28, 29, 30, 31, 32, 33, 34] ?_ : ∀ j ∈ [20, 21, 22, 23, 24, 25, 26, 27, 28, 29, 30, 31, 32, 33, 34, 35], j ≠ 35 → _)
      refine lin_cons [] [22, 23, 27, 28, 31, 32, 33, 34] rfl (by kernel_rfl) (by kernel_rfl) ?_ ?_
      · intro L ac Wn hI hi hds hus Kc hK
        obtain ⟨l20, l21, l22, l23, l24, l25, l26, l27, l28, l29, l30, l31, l32, l33, l34, rfl, hI⟩ := hI
        obtain rfl : l20 = false := hi
        obtain ⟨rfl, rfl, rfl, rfl, rfl, rfl, rfl, rfl, -⟩ : l22 = false ∧ l23 = false ∧ l27 = false ∧ l28 = false ∧ l31 = false ∧ l32 = false ∧ l33 = false ∧ l34 = false ∧ True := hus
        simp only [sel_f] at hI
        obtain ⟨g61, g65, rfl, hb, hA, hB, hC, hM, hL, hH, hW22, hW26⟩ := hI
        obtain ⟨q0, q1, q2, q3, q4, q5⟩ := (hA).facts
        refine lin_yield (.agg #[.bool m, .string s, .int .i64 d]) rfl (by go_simp; first | done | with_reducible rfl | assumption) ?_
        exact hK.out _ _ ⟨true, l21, false, false, l24, l25, l26, false, false, l29, l30, false, false, false, false, by kernel_rfl, g61, g65, by kernel_rfl, hb, (hA), (hB), (hC), (hM), (hL), (hH), (fun h _ => not_ft h), (fun z0 z1 => (hW26 z0 z1))⟩
      refine lin_cons [] [22, 23, 27, 28, 31, 32, 33, 34] rfl (by kernel_rfl) (by kernel_rfl) ?_ ?_
      · intro L ac Wn hI hi hds hus Kc hK
        obtain ⟨l20, l21, l22, l23, l24, l25, l26, l27, l28, l29, l30, l31, l32, l33, l34, rfl, hI⟩ := hI
        obtain rfl : l21 = false := hi
        obtain ⟨rfl, rfl, rfl, rfl, rfl, rfl, rfl, rfl, -⟩ : l22 = false ∧ l23 = false ∧ l27 = false ∧ l28 = false ∧ l31 = false ∧ l32 = false ∧ l33 = false ∧ l34 = false ∧ True := hus
        simp only [sel_f] at hI
        obtain ⟨g61, g65, rfl, hb, hA, hB, hC, hM, hL, hH, hW22, hW26⟩ := hI
        obtain ⟨q0, q1, q2, q3, q4, q5⟩ := (hC).facts
        refine lin_yield (.agg #[.bool p, .string u, .int .i64 f]) rfl (by go_simp; first | done | with_reducible rfl | assumption) ?_
        exact hK.out _ _ ⟨l20, true, false, false, l24, l25, l26, false, false, l29, l30, false, false, false, false, by kernel_rfl, g61, g65, by kernel_rfl, hb, (hA), (hB), (hC), (hM), (hL), (hH), (fun h _ => not_ft h), (fun z0 z1 => (hW26 z0 z1))⟩
      refine lin_cons [20, 21] [23, 27, 28, 31, 32, 33, 34] rfl (by kernel_rfl) (by kernel_rfl) ?_ ?_
      · intro L ac Wn hI hi hds hus Kc hK
        obtain ⟨l20, l21, l22, l23, l24, l25, l26, l27, l28, l29, l30, l31, l32, l33, l34, rfl, hI⟩ := hI
        obtain rfl : l22 = false := hi
        obtain ⟨rfl, rfl, -⟩ : l20 = true ∧ l21 = true ∧ True := hds
        obtain ⟨rfl, rfl, rfl, rfl, rfl, rfl, rfl, -⟩ : l23 = false ∧ l27 = false ∧ l28 = false ∧ l31 = false ∧ l32 = false ∧ l33 = false ∧ l34 = false ∧ True := hus
        simp only [sel_t, sel_f] at hI
        obtain ⟨g61, g65, rfl, hb, hA, hB, hC, hM, hL, hH, hW22, hW26⟩ := hI
        go_simp
        exact hK.out _ _ ⟨true, true, true, false, l24, l25, l26, false, false, l29, l30, false, false, false, false, by kernel_rfl, _, g65, by kernel_rfl, (hb.alloc hb.size _), (hA.alloc _), (hB.alloc _), (hC.alloc _), (hM.alloc _), (hL.alloc _), (hH.alloc _), (fun _ _ => NAt.new _ _ _ _ rfl), (fun z0 z1 => (hW26 z0 z1).alloc _)⟩
      refine lin_cons [20, 21, 22] [27, 28, 31, 32, 33, 34] rfl (by kernel_rfl) (by kernel_rfl) ?_ ?_
      · intro L ac Wn hI hi hds hus Kc hK
        obtain ⟨l20, l21, l22, l23, l24, l25, l26, l27, l28, l29, l30, l31, l32, l33, l34, rfl, hI⟩ := hI
        obtain rfl : l23 = false := hi
        obtain ⟨rfl, rfl, rfl, -⟩ : l20 = true ∧ l21 = true ∧ l22 = true ∧ True := hds
        obtain ⟨rfl, rfl, rfl, rfl, rfl, rfl, -⟩ : l27 = false ∧ l28 = false ∧ l31 = false ∧ l32 = false ∧ l33 = false ∧ l34 = false ∧ True := hus
        simp only [sel_t, sel_f] at hI
        obtain ⟨g61, g65, rfl, hb, hA, hB, hC, hM, hL, hH, hW22, hW26⟩ := hI
        go_simp
        go_fit (use_ymul2 HO.out.1 HO.out.2.2.1 (hW22 rfl rfl) HK.out.2.2.2.2.2.2.1)
        rintro e V ⟨rfl, hq⟩
        exact hK.out _ _ ⟨true, true, true, true, l24, l25, l26, false, false, l29, l30, false, false, false, false, by kernel_rfl, g61, g65, by kernel_rfl, (below_next hb hq), (hA.below hq), (hB.below hq), (hC.below hq), (hM.below hq), (hL.below hq), (hH.below hq), (fun _ h => not_tf h), (fun z0 z1 => (hW26 z0 z1).below hq)⟩
      refine lin_cons [] [26, 27, 28, 31, 32, 33, 34] rfl (by kernel_rfl) (by kernel_rfl) ?_ ?_
      · intro L ac Wn hI hi hds hus Kc hK
        obtain ⟨l20, l21, l22, l23, l24, l25, l26, l27, l28, l29, l30, l31, l32, l33, l34, rfl, hI⟩ := hI
        obtain rfl : l24 = false := hi
        obtain ⟨rfl, rfl, rfl, rfl, rfl, rfl, rfl, -⟩ : l26 = false ∧ l27 = false ∧ l28 = false ∧ l31 = false ∧ l32 = false ∧ l33 = false ∧ l34 = false ∧ True := hus
        simp only [sel_f] at hI
        obtain ⟨g61, g65, rfl, hb, hA, hB, hC, hM, hL, hH, hW22, hW26⟩ := hI
        obtain ⟨q0, q1, q2, q3, q4, q5⟩ := (hB).facts
        refine lin_yield (.agg #[.bool n, .string t, .int .i64 e]) rfl (by go_simp; first | done | with_reducible rfl | assumption) ?_
        exact hK.out _ _ ⟨l20, l21, l22, l23, true, l25, false, false, false, l29, l30, false, false, false, false, by kernel_rfl, g61, g65, by kernel_rfl, hb, (hA), (hB), (hC), (hM), (hL), (hH), (fun z0 z1 => (hW22 z0 z1)), (fun h _ => not_ft h)⟩
      refine lin_cons [] [26, 27, 28, 31, 32, 33, 34] rfl (by kernel_rfl) (by kernel_rfl) ?_ ?_
      · intro L ac Wn hI hi hds hus Kc hK
        obtain ⟨l20, l21, l22, l23, l24, l25, l26, l27, l28, l29, l30, l31, l32, l33, l34, rfl, hI⟩ := hI
        obtain rfl : l25 = false := hi
        obtain ⟨rfl, rfl, rfl, rfl, rfl, rfl, rfl, -⟩ : l26 = false ∧ l27 = false ∧ l28 = false ∧ l31 = false ∧ l32 = false ∧ l33 = false ∧ l34 = false ∧ True := hus
        simp only [sel_f] at hI
        obtain ⟨g61, g65, rfl, hb, hA, hB, hC, hM, hL, hH, hW22, hW26⟩ := hI
        obtain ⟨q0, q1, q2, q3, q4, q5⟩ := (hC).facts
        refine lin_yield (.agg #[.bool p, .string u, .int .i64 f]) rfl (by go_simp; first | done | with_reducible rfl | assumption) ?_
        exact hK.out _ _ ⟨l20, l21, l22, l23, l24, true, false, false, false, l29, l30, false, false, false, false, by kernel_rfl, g61, g65, by kernel_rfl, hb, (hA), (hB), (hC), (hM), (hL), (hH), (fun z0 z1 => (hW22 z0 z1)), (fun h _ => not_ft h)⟩
      refine lin_cons [24, 25] [27, 28, 31, 32, 33, 34] rfl (by kernel_rfl) (by kernel_rfl) ?_ ?_
      · intro L ac Wn hI hi hds hus Kc hK
        obtain ⟨l20, l21, l22, l23, l24, l25, l26, l27, l28, l29, l30, l31, l32, l33, l34, rfl, hI⟩ := hI
        obtain rfl : l26 = false := hi
        obtain ⟨rfl, rfl, -⟩ : l24 = true ∧ l25 = true ∧ True := hds
        obtain ⟨rfl, rfl, rfl, rfl, rfl, rfl, -⟩ : l27 = false ∧ l28 = false ∧ l31 = false ∧ l32 = false ∧ l33 = false ∧ l34 = false ∧ True := hus
        simp only [sel_t, sel_f] at hI
        obtain ⟨g61, g65, rfl, hb, hA, hB, hC, hM, hL, hH, hW22, hW26⟩ := hI
        go_simp
        exact hK.out _ _ ⟨l20, l21, l22, l23, true, true, true, false, false, l29, l30, false, false, false, false, by kernel_rfl, g61, _, by kernel_rfl, (hb.alloc hb.size _), (hA.alloc _), (hB.alloc _), (hC.alloc _), (hM.alloc _), (hL.alloc _), (hH.alloc _), (fun z0 z1 => (hW22 z0 z1).alloc _), (fun _ _ => NAt.new _ _ _ _ rfl)⟩
      refine lin_cons [20, 21, 22, 23, 24, 25, 26] [28, 31, 32, 33, 34] rfl (by kernel_rfl) (by kernel_rfl) ?_ ?_
      · intro L ac Wn hI hi hds hus Kc hK
        obtain ⟨l20, l21, l22, l23, l24, l25, l26, l27, l28, l29, l30, l31, l32, l33, l34, rfl, hI⟩ := hI
        obtain rfl : l27 = false := hi
        obtain ⟨rfl, rfl, rfl, rfl, rfl, rfl, rfl, -⟩ : l20 = true ∧ l21 = true ∧ l22 = true ∧ l23 = true ∧ l24 = true ∧ l25 = true ∧ l26 = true ∧ True := hds
        obtain ⟨rfl, rfl, rfl, rfl, rfl, -⟩ : l28 = false ∧ l31 = false ∧ l32 = false ∧ l33 = false ∧ l34 = false ∧ True := hus
        simp only [sel_t, sel_f] at hI
        obtain ⟨g61, g65, rfl, hb, hA, hB, hC, hM, hL, hH, hW22, hW26⟩ := hI
        go_simp
        go_fit (use_ymul2 HO.out.2.1 HO.out.2.2.1 (hW26 rfl rfl) HK.out.2.2.2.2.2.2.2.1)
        rintro e V ⟨rfl, hq⟩
        exact hK.out _ _ ⟨true, true, true, true, true, true, true, true, false, l29, l30, false, false, false, false, by kernel_rfl, g61, g65, by kernel_rfl, (below_next hb hq), (hA.below hq), (hB.below hq), (hC.below hq), (hM.below hq), (hL.below hq), (hH.below hq), (fun _ h => not_tf h), (fun _ h => not_tf h)⟩
      refine lin_cons [20, 21, 22, 23, 24, 25, 26, 27] [31, 32, 33, 34] rfl (by kernel_rfl) (by kernel_rfl) ?_ ?_
      · intro L ac Wn hI hi hds hus Kc hK
        obtain ⟨l20, l21, l22, l23, l24, l25, l26, l27, l28, l29, l30, l31, l32, l33, l34, rfl, hI⟩ := hI
        obtain rfl : l28 = false := hi
        obtain ⟨rfl, rfl, rfl, rfl, rfl, rfl, rfl, rfl, -⟩ : l20 = true ∧ l21 = true ∧ l22 = true ∧ l23 = true ∧ l24 = true ∧ l25 = true ∧ l26 = true ∧ l27 = true ∧ True := hds
        obtain ⟨rfl, rfl, rfl, rfl, -⟩ : l31 = false ∧ l32 = false ∧ l33 = false ∧ l34 = false ∧ True := hus
        simp only [sel_t, sel_f] at hI
        obtain ⟨g61, g65, rfl, hb, hA, hB, hC, hM, hL, hH, hW22, hW26⟩ := hI
        go_simp
        go_fit (use_ycmp HO.out.2.2.2.2.2.2.2.1 HO.out.2.2.2.2.2.2.2.2 (cc * cs) HQ.out.2.2.2.1)
        rintro e V ⟨rfl, hq⟩
        exact hK.out _ _ ⟨true, true, true, true, true, true, true, true, true, l29, l30, false, false, false, false, by kernel_rfl, g61, g65, by kernel_rfl, (below_next hb hq), (hA.below hq), (hB.below hq), (hC.below hq), (hM.below hq), (hL.below hq), (hH.below hq), (fun _ h => not_tf h), (fun _ h => not_tf h)⟩
      refine lin_cons [] [32, 33, 34] rfl (by kernel_rfl) (by kernel_rfl) ?_ ?_
      · intro L ac Wn hI hi hds hus Kc hK
        obtain ⟨l20, l21, l22, l23, l24, l25, l26, l27, l28, l29, l30, l31, l32, l33, l34, rfl, hI⟩ := hI
        obtain rfl : l29 = false := hi
        obtain ⟨rfl, rfl, rfl, -⟩ : l32 = false ∧ l33 = false ∧ l34 = false ∧ True := hus
        simp only [sel_f] at hI
        obtain ⟨g61, g65, rfl, hb, hA, hB, hC, hM, hL, hH, hW22, hW26⟩ := hI
        refine lin_yield (.int .i64 cc) rfl (by go_simp; first | done | with_reducible rfl | assumption) ?_
        exact hK.out _ _ ⟨l20, l21, l22, l23, l24, l25, l26, l27, l28, true, l30, l31, false, false, false, by kernel_rfl, g61, g65, by kernel_rfl, hb, (hA), (hB), (hC), (hM), (hL), (hH), (fun z0 z1 => (hW22 z0 z1)), (fun z0 z1 => (hW26 z0 z1))⟩
      refine lin_cons [] [31, 32, 33, 34] rfl (by kernel_rfl) (by kernel_rfl) ?_ ?_
      · intro L ac Wn hI hi hds hus Kc hK
        obtain ⟨l20, l21, l22, l23, l24, l25, l26, l27, l28, l29, l30, l31, l32, l33, l34, rfl, hI⟩ := hI
        obtain rfl : l30 = false := hi
        obtain ⟨rfl, rfl, rfl, rfl, -⟩ : l31 = false ∧ l32 = false ∧ l33 = false ∧ l34 = false ∧ True := hus
        simp only [sel_f] at hI
        obtain ⟨g61, g65, rfl, hb, hA, hB, hC, hM, hL, hH, hW22, hW26⟩ := hI
        obtain ⟨q0, q1, q2, q3, q4, q5⟩ := (hC).facts
        refine lin_yield (.agg #[.bool p, .string u, .int .i64 f]) rfl (by go_simp; first | done | with_reducible rfl | assumption) ?_
        exact hK.out _ _ ⟨l20, l21, l22, l23, l24, l25, l26, l27, l28, l29, true, false, false, false, false, by kernel_rfl, g61, g65, by kernel_rfl, hb, (hA), (hB), (hC), (hM), (hL), (hH), (fun z0 z1 => (hW22 z0 z1)), (fun z0 z1 => (hW26 z0 z1))⟩
      refine lin_cons [20, 21, 22, 23, 24, 25, 26, 27, 28, 30] [32, 33, 34] rfl (by kernel_rfl) (by kernel_rfl) ?_ ?_
      · intro L ac Wn hI hi hds hus Kc hK
        obtain ⟨l20, l21, l22, l23, l24, l25, l26, l27, l28, l29, l30, l31, l32, l33, l34, rfl, hI⟩ := hI
        obtain rfl : l31 = false := hi
        obtain ⟨rfl, rfl, rfl, rfl, rfl, rfl, rfl, rfl, rfl, rfl, -⟩ : l20 = true ∧ l21 = true ∧ l22 = true ∧ l23 = true ∧ l24 = true ∧ l25 = true ∧ l26 = true ∧ l27 = true ∧ l28 = true ∧ l30 = true ∧ True := hds
        obtain ⟨rfl, rfl, rfl, -⟩ : l32 = false ∧ l33 = false ∧ l34 = false ∧ True := hus
        simp only [sel_t, sel_f] at hI
        obtain ⟨g61, g65, rfl, hb, hA, hB, hC, hM, hL, hH, hW22, hW26⟩ := hI
        go_simp
        go_fit (ysign_any _ p u f (by omega) cs HQ.out.2.2.2.2.2.2)
        rintro e V ⟨rfl, hq⟩
        exact hK.out _ _ ⟨true, true, true, true, true, true, true, true, true, l29, true, true, false, false, false, by kernel_rfl, g61, g65, by kernel_rfl, (below_next hb hq), (hA.below hq), (hB.below hq), (hC.below hq), (hM.below hq), (hL.below hq), (hH.below hq), (fun _ h => not_tf h), (fun _ h => not_tf h)⟩
      refine lin_cons [20, 21, 22, 23, 24, 25, 26, 27, 28, 29, 30, 31] [33, 34] rfl (by kernel_rfl) (by kernel_rfl) ?_ ?_
      · intro L ac Wn hI hi hds hus Kc hK
        obtain ⟨l20, l21, l22, l23, l24, l25, l26, l27, l28, l29, l30, l31, l32, l33, l34, rfl, hI⟩ := hI
        obtain rfl : l32 = false := hi
        obtain ⟨rfl, rfl, rfl, rfl, rfl, rfl, rfl, rfl, rfl, rfl, rfl, rfl, -⟩ : l20 = true ∧ l21 = true ∧ l22 = true ∧ l23 = true ∧ l24 = true ∧ l25 = true ∧ l26 = true ∧ l27 = true ∧ l28 = true ∧ l29 = true ∧ l30 = true ∧ l31 = true ∧ True := hds
        obtain ⟨rfl, rfl, -⟩ : l33 = false ∧ l34 = false ∧ True := hus
        simp only [sel_t, sel_f] at hI
        obtain ⟨g61, g65, rfl, hb, hA, hB, hC, hM, hL, hH, hW22, hW26⟩ := hI
        refine lin_yield (.int .i64 (cc * cs)) rfl (by go_simp; first | done | with_reducible rfl | assumption) ?_
        exact hK.out _ _ ⟨true, true, true, true, true, true, true, true, true, true, true, true, true, false, false, by kernel_rfl, g61, g65, by kernel_rfl, hb, (hA), (hB), (hC), (hM), (hL), (hH), (fun _ h => not_tf h), (fun _ h => not_tf h)⟩
      refine lin_cons [20, 21, 22, 23, 24, 25, 26, 27, 28, 29, 30, 31, 32] [34] rfl (by kernel_rfl) (by kernel_rfl) ?_ ?_
      · intro L ac Wn hI hi hds hus Kc hK
        obtain ⟨l20, l21, l22, l23, l24, l25, l26, l27, l28, l29, l30, l31, l32, l33, l34, rfl, hI⟩ := hI
        obtain rfl : l33 = false := hi
        obtain ⟨rfl, rfl, rfl, rfl, rfl, rfl, rfl, rfl, rfl, rfl, rfl, rfl, rfl, -⟩ : l20 = true ∧ l21 = true ∧ l22 = true ∧ l23 = true ∧ l24 = true ∧ l25 = true ∧ l26 = true ∧ l27 = true ∧ l28 = true ∧ l29 = true ∧ l30 = true ∧ l31 = true ∧ l32 = true ∧ True := hds
        obtain ⟨rfl, -⟩ : l34 = false ∧ True := hus
        simp only [sel_t, sel_f] at hI
        obtain ⟨g61, g65, rfl, hb, hA, hB, hC, hM, hL, hH, hW22, hW26⟩ := hI
        refine lin_yield (.bool false) rfl (by go_simp; first | done | with_reducible rfl | assumption) ?_
        exact hK.out _ _ ⟨true, true, true, true, true, true, true, true, true, true, true, true, true, true, false, by kernel_rfl, g61, g65, by kernel_rfl, hb, (hA), (hB), (hC), (hM), (hL), (hH), (fun _ h => not_tf h), (fun _ h => not_tf h)⟩
      refine lin_cons [20, 21, 22, 23, 24, 25, 26, 27, 28, 29, 30, 31, 32, 33] [] rfl (by kernel_rfl) (by kernel_rfl) ?_ lin_nil
      intro L ac Wn hI hi hds hus Kc hK
      obtain ⟨l20, l21, l22, l23, l24, l25, l26, l27, l28, l29, l30, l31, l32, l33, l34, rfl, hI⟩ := hI
      obtain rfl : l34 = false := hi
      obtain ⟨rfl, rfl, rfl, rfl, rfl, rfl, rfl, rfl, rfl, rfl, rfl, rfl, rfl, rfl, -⟩ : l20 = true ∧ l21 = true ∧ l22 = true ∧ l23 = true ∧ l24 = true ∧ l25 = true ∧ l26 = true ∧ l27 = true ∧ l28 = true ∧ l29 = true ∧ l30 = true ∧ l31 = true ∧ l32 = true ∧ l33 = true ∧ True := hds
      simp only [sel_t, sel_f] at hI
      obtain ⟨g61, g65, rfl, hb, hA, hB, hC, hM, hL, hH, hW22, hW26⟩ := hI
      refine lin_yield (.bool false) rfl (by go_simp; first | done | with_reducible rfl | assumption) ?_
      exact hK.out _ _ ⟨true, true, true, true, true, true, true, true, true, true, true, true, true, true, true, by kernel_rfl, g61, g65, by kernel_rfl, hb, (hA), (hB), (hC), (hM), (hL), (hH), (fun _ h => not_tf h), (fun _ h => not_tf h)⟩
    refine bar_of [20, 21, 22, 23, 24, 25, 26, 27, 28, 29, 30, 31, 32, 33, 34] rfl (by kernel_rfl) ?_
    intro L ac Wn hI hds Kc hK
    obtain ⟨l20, l21, l22, l23, l24, l25, l26, l27, l28, l29, l30, l31, l32, l33, l34, rfl, hI⟩ := hI
    obtain ⟨rfl, rfl, rfl, rfl, rfl, rfl, rfl, rfl, rfl, rfl, rfl, rfl, rfl, rfl, rfl, -⟩ : l20 = true ∧ l21 = true ∧ l22 = true ∧ l23 = true ∧ l24 = true ∧ l25 = true ∧ l26 = true ∧ l27 = true ∧ l28 = true ∧ l29 = true ∧ l30 = true ∧ l31 = true ∧ l32 = true ∧ l33 = true ∧ l34 = true ∧ True := hds
    simp only [sel_t] at hI
    obtain ⟨g61, g65, rfl, hb, hA, hB, hC, hM, hL, hH, hW22, hW26⟩ := hI
    clear hW22
    clear hW26
    refine lin_yield (.bool false) rfl (by go_simp; first | done | with_reducible rfl | assumption) ?_
    refine hK.out _ _ (fun fu hf => ?_)
    clear hK Kc
    refine lin_seg 49 [36, 37, 38, 39, 40, 41, 42] 42 (fun L ac Wn => ∃ l36 l37 l38 l39 l40 l41 : Bool, L = #[true, true, true, true, true, true, true, true, true, true, true, true, true, true, true, true, true, true, true, true, true, true, true, true, true, true, true, true, true, true, true, true, true, true, true, true, l36, l37, l38, l39, l40, l41, false, false, false, false, false, false, false] ∧ ac = { tmps := #[.agg #[.bool m, .string s, .int .i64 d], .agg #[.bool n, .string t, .int .i64 e], .agg #[.bool p, .string u, .int .i64 f], .pointer (some ⟨w.heap.size, 0, none⟩), .pointer (some ⟨w.heap.size + 1, 0, none⟩), .pointer (some ⟨w.heap.size + 1 + 1, 0, none⟩), .bool false, .int .i64 cc, .pointer (some ⟨QM, 0, none⟩), .pointer (some ⟨p9, 0, none⟩), .pointer (some ⟨p10, 0, none⟩), undef, undef, undef, undef, .agg #[.bool m, .string s, .int .i64 d], .agg #[.bool n, .string t, .int .i64 e], .agg #[.bool p, .string u, .int .i64 f], .slice (some ⟨w.heap.size + 1 + 1 + 1, 0, none⟩) 3 3, .bool false, undef, .agg #[.bool m, .string s, .int .i64 d], .agg #[.bool n, .string t, .int .i64 e], .int .i64 cc, .agg #[.bool m, .string s, .int .i64 d], .agg #[.bool n, .string t, .int .i64 e], .slice (some ⟨W2.heap.size, 0, none⟩) 2 2, .agg #[.bool z1, .string o1, .int .i64 e1], .agg #[.bool z2, .string o2, .int .i64 e2], .agg #[.bool m, .string s, .int .i64 d], .agg #[.bool n, .string t, .int .i64 e], .agg #[.bool p, .string u, .int .i64 f], .slice (some ⟨g32, 0, none⟩) 3 3, .agg #[.bool z3, .string o3, .int .i64 e3], .agg #[.bool m, .string s, .int .i64 d], .agg #[.bool n, .string t, .int .i64 e], .agg #[.bool p, .string u, .int .i64 f], .slice (some ⟨g37, 0, none⟩) 3 3, .agg #[.bool z4, .string o4, .int .i64 e4], .agg #[.bool n, .string t, .int .i64 e], .agg #[.bool m, .string s, .int .i64 d], .int .i64 (-cc), .int .i64 cc, .int .i64 (-cc), .bool false, .bool false, .agg #[.bool m, .string s, .int .i64 d], .agg #[.bool p, .string u, .int .i64 f], .slice (some ⟨g48, 0, none⟩) 2 2, .agg #[.bool z5, .string o5, .int .i64 e5], .agg #[.bool n, .string t, .int .i64 e], .agg #[.bool p, .string u, .int .i64 f], .slice (some ⟨g52, 0, none⟩) 2 2, .agg #[.bool z6, .string o6, .int .i64 e6], .int .i64 cc, .int .i64 cc, .bool false, .bool false, .bool false, .agg #[.bool m, .string s, .int .i64 d], .agg #[.bool p, .string u, .int .i64 f], .slice (some ⟨g61, 0, none⟩) 2 2, .agg #[.bool z7, .string o7, .int .i64 e7], .agg #[.bool n, .string t, .int .i64 e], .agg #[.bool p, .string u, .int .i64 f], .slice (some ⟨g65, 0, none⟩) 2 2, .agg #[.bool z8, .string o8, .int .i64 e8], .int .i64 (cc * cs), .int .i64 cc, .agg #[.bool p, .string u, .int .i64 f], .int .i64 cs, .int .i64 (cc * cs), .bool false, .bool false, .bool false, sel l36 (.agg #[.bool m, .string s, .int .i64 d]) (undef), sel l37 (.agg #[.bool z2, .string o2, .int .i64 e2]) (undef), sel l38 (.int .i64 cc) (undef), sel l39 (.int .i64 cc) (undef), sel l40 (.bool false) (undef), sel l41 (.bool false) (undef), undef, undef, undef, undef, undef, undef, undef, undef, undef, undef, undef, undef, undef, undef, undef, undef, undef, undef, undef, undef, undef, undef, undef, undef, undef, undef, undef, undef, undef, undef, undef, undef, undef, undef, undef, undef, undef, undef, undef, undef, undef, undef, undef, undef, undef, undef, undef, undef, undef, undef], defers := [] } ∧ Below (w.heap.size) w Wn ∧ (Nk Wn (w.heap.size) m s d) ∧ (Nk Wn (w.heap.size + 1) n t e) ∧ (Nk Wn (w.heap.size + 1 + 1) p u f) ∧ (Nk Wn QM z2 o2 e2) ∧ (Nk Wn p9 z3 o3 e3) ∧ (Nk Wn p10 z4 o4 e4)) (by kernel_rfl) (by kernel_rfl) (by kernel_rfl) (by kernel_rfl) hf ?_ ?_ ?_ (by kernel_rfl) ?_ (by decide)
    · exact ⟨false, false, false, false, false, false, by kernel_rfl, by kernel_rfl, hb, hA, hB, hC, hM, hL, hH⟩
    · rintro L ac Wn ⟨l36, l37, l38, l39, l40, l41, rfl, _⟩
      kernel_rfl
    · refine (seg_all (b := 42) [36, 37, 38, 39, 40, 41] ?_ : ∀ j ∈ [36, 37, 38, 39, 40, 41, 42], j ≠ 42 → _)
      refine lin_cons [] [38, 40, 41] rfl (by kernel_rfl) (by kernel_rfl) ?_ ?_
      · intro L ac Wn hI hi hds hus Kc hK
        obtain ⟨l36, l37, l38, l39, l40, l41, rfl, hI⟩ := hI
        obtain rfl : l36 = false := hi
        obtain ⟨rfl, rfl, rfl, -⟩ : l38 = false ∧ l40 = false ∧ l41 = false ∧ True := hus
        simp only [sel_f] at hI
        obtain ⟨rfl, hb, hA, hB, hC, hM, hL, hH⟩ := hI
        obtain ⟨q0, q1, q2, q3, q4, q5⟩ := (hA).facts
        refine lin_yield (.agg #[.bool m, .string s, .int .i64 d]) rfl (by go_simp; first | done | with_reducible rfl | assumption) ?_
        exact hK.out _ _ ⟨true, l37, false, l39, false, false, by kernel_rfl, by kernel_rfl, hb, (hA), (hB), (hC), (hM), (hL), (hH)⟩
      refine lin_cons [] [38, 40, 41] rfl (by kernel_rfl) (by kernel_rfl) ?_ ?_
      · intro L ac Wn hI hi hds hus Kc hK
        obtain ⟨l36, l37, l38, l39, l40, l41, rfl, hI⟩ := hI
        obtain rfl : l37 = false := hi
        obtain ⟨rfl, rfl, rfl, -⟩ : l38 = false ∧ l40 = false ∧ l41 = false ∧ True := hus
        simp only [sel_f] at hI
        obtain ⟨rfl, hb, hA, hB, hC, hM, hL, hH⟩ := hI
        obtain ⟨q0, q1, q2, q3, q4, q5⟩ := (hM).facts
        refine lin_yield (.agg #[.bool z2, .string o2, .int .i64 e2]) rfl (by go_simp; first | done | with_reducible rfl | assumption) ?_
        exact hK.out _ _ ⟨l36, true, false, l39, false, false, by kernel_rfl, by kernel_rfl, hb, (hA), (hB), (hC), (hM), (hL), (hH)⟩
      refine lin_cons [36, 37] [40, 41] rfl (by kernel_rfl) (by kernel_rfl) ?_ ?_
      · intro L ac Wn hI hi hds hus Kc hK
        obtain ⟨l36, l37, l38, l39, l40, l41, rfl, hI⟩ := hI
        obtain rfl : l38 = false := hi
        obtain ⟨rfl, rfl, -⟩ : l36 = true ∧ l37 = true ∧ True := hds
        obtain ⟨rfl, rfl, -⟩ : l40 = false ∧ l41 = false ∧ True := hus
        simp only [sel_t, sel_f] at hI
        obtain ⟨rfl, hb, hA, hB, hC, hM, hL, hH⟩ := hI
        go_simp
        go_fit (use_ycmp HO.out.1 HO.out.2.2.2.2.1 cc HQ.out.2.2.2.2.1)
        rintro e V ⟨rfl, hq⟩
        exact hK.out _ _ ⟨true, true, true, l39, false, false, by kernel_rfl, by kernel_rfl, (below_next hb hq), (hA.below hq), (hB.below hq), (hC.below hq), (hM.below hq), (hL.below hq), (hH.below hq)⟩
      refine lin_cons [] [40, 41] rfl (by kernel_rfl) (by kernel_rfl) ?_ ?_
      · intro L ac Wn hI hi hds hus Kc hK
        obtain ⟨l36, l37, l38, l39, l40, l41, rfl, hI⟩ := hI
        obtain rfl : l39 = false := hi
        obtain ⟨rfl, rfl, -⟩ : l40 = false ∧ l41 = false ∧ True := hus
        simp only [sel_f] at hI
        obtain ⟨rfl, hb, hA, hB, hC, hM, hL, hH⟩ := hI
        refine lin_yield (.int .i64 cc) rfl (by go_simp; first | done | with_reducible rfl | assumption) ?_
        exact hK.out _ _ ⟨l36, l37, l38, true, false, false, by kernel_rfl, by kernel_rfl, hb, (hA), (hB), (hC), (hM), (hL), (hH)⟩
      refine lin_cons [36, 37, 38, 39] [41] rfl (by kernel_rfl) (by kernel_rfl) ?_ ?_
      · intro L ac Wn hI hi hds hus Kc hK
        obtain ⟨l36, l37, l38, l39, l40, l41, rfl, hI⟩ := hI
        obtain rfl : l40 = false := hi
        obtain ⟨rfl, rfl, rfl, rfl, -⟩ : l36 = true ∧ l37 = true ∧ l38 = true ∧ l39 = true ∧ True := hds
        obtain ⟨rfl, -⟩ : l41 = false ∧ True := hus
        simp only [sel_t, sel_f] at hI
        obtain ⟨rfl, hb, hA, hB, hC, hM, hL, hH⟩ := hI
        refine lin_yield (.bool false) rfl (by go_simp; first | done | with_reducible rfl | assumption) ?_
        exact hK.out _ _ ⟨true, true, true, true, true, false, by kernel_rfl, by kernel_rfl, hb, (hA), (hB), (hC), (hM), (hL), (hH)⟩
      refine lin_cons [36, 37, 38, 39, 40] [] rfl (by kernel_rfl) (by kernel_rfl) ?_ lin_nil
      intro L ac Wn hI hi hds hus Kc hK
      obtain ⟨l36, l37, l38, l39, l40, l41, rfl, hI⟩ := hI
      obtain rfl : l41 = false := hi
      obtain ⟨rfl, rfl, rfl, rfl, rfl, -⟩ : l36 = true ∧ l37 = true ∧ l38 = true ∧ l39 = true ∧ l40 = true ∧ True := hds
      simp only [sel_t, sel_f] at hI
      obtain ⟨rfl, hb, hA, hB, hC, hM, hL, hH⟩ := hI
      refine lin_yield (.bool false) rfl (by go_simp; first | done | with_reducible rfl | assumption) ?_
      exact hK.out _ _ ⟨true, true, true, true, true, true, by kernel_rfl, by kernel_rfl, hb, (hA), (hB), (hC), (hM), (hL), (hH)⟩
    refine bar_of [36, 37, 38, 39, 40, 41] rfl (by kernel_rfl) ?_
    intro L ac Wn hI hds Kc hK
    obtain ⟨l36, l37, l38, l39, l40, l41, rfl, hI⟩ := hI
    obtain ⟨rfl, rfl, rfl, rfl, rfl, rfl, -⟩ : l36 = true ∧ l37 = true ∧ l38 = true ∧ l39 = true ∧ l40 = true ∧ l41 = true ∧ True := hds
    simp only [sel_t] at hI
    obtain ⟨rfl, hb, hA, hB, hC, hM, hL, hH⟩ := hI
    refine lin_yield (.bool false) rfl (by go_simp; first | done | with_reducible rfl | assumption) ?_
    refine hK.out _ _ (fun fu hf => ?_)
    clear hK Kc
    refine lin_seg 49 [43, 44, 45, 46, 47, 48] 48 (fun L ac Wn => ∃ l43 l44 l45 l46 l47 : Bool, L = #[true, true, true, true, true, true, true, true, true, true, true, true, true, true, true, true, true, true, true, true, true, true, true, true, true, true, true, true, true, true, true, true, true, true, true, true, true, true, true, true, true, true, true, l43, l44, l45, l46, l47, false] ∧ ac = { tmps := #[.agg #[.bool m, .string s, .int .i64 d], .agg #[.bool n, .string t, .int .i64 e], .agg #[.bool p, .string u, .int .i64 f], .pointer (some ⟨w.heap.size, 0, none⟩), .pointer (some ⟨w.heap.size + 1, 0, none⟩), .pointer (some ⟨w.heap.size + 1 + 1, 0, none⟩), .bool false, .int .i64 cc, .pointer (some ⟨QM, 0, none⟩), .pointer (some ⟨p9, 0, none⟩), .pointer (some ⟨p10, 0, none⟩), undef, undef, undef, undef, .agg #[.bool m, .string s, .int .i64 d], .agg #[.bool n, .string t, .int .i64 e], .agg #[.bool p, .string u, .int .i64 f], .slice (some ⟨w.heap.size + 1 + 1 + 1, 0, none⟩) 3 3, .bool false, undef, .agg #[.bool m, .string s, .int .i64 d], .agg #[.bool n, .string t, .int .i64 e], .int .i64 cc, .agg #[.bool m, .string s, .int .i64 d], .agg #[.bool n, .string t, .int .i64 e], .slice (some ⟨W2.heap.size, 0, none⟩) 2 2, .agg #[.bool z1, .string o1, .int .i64 e1], .agg #[.bool z2, .string o2, .int .i64 e2], .agg #[.bool m, .string s, .int .i64 d], .agg #[.bool n, .string t, .int .i64 e], .agg #[.bool p, .string u, .int .i64 f], .slice (some ⟨g32, 0, none⟩) 3 3, .agg #[.bool z3, .string o3, .int .i64 e3], .agg #[.bool m, .string s, .int .i64 d], .agg #[.bool n, .string t, .int .i64 e], .agg #[.bool p, .string u, .int .i64 f], .slice (some ⟨g37, 0, none⟩) 3 3, .agg #[.bool z4, .string o4, .int .i64 e4], .agg #[.bool n, .string t, .int .i64 e], .agg #[.bool m, .string s, .int .i64 d], .int .i64 (-cc), .int .i64 cc, .int .i64 (-cc), .bool false, .bool false, .agg #[.bool m, .string s, .int .i64 d], .agg #[.bool p, .string u, .int .i64 f], .slice (some ⟨g48, 0, none⟩) 2 2, .agg #[.bool z5, .string o5, .int .i64 e5], .agg #[.bool n, .string t, .int .i64 e], .agg #[.bool p, .string u, .int .i64 f], .slice (some ⟨g52, 0, none⟩) 2 2, .agg #[.bool z6, .string o6, .int .i64 e6], .int .i64 cc, .int .i64 cc, .bool false, .bool false, .bool false, .agg #[.bool m, .string s, .int .i64 d], .agg #[.bool p, .string u, .int .i64 f], .slice (some ⟨g61, 0, none⟩) 2 2, .agg #[.bool z7, .string o7, .int .i64 e7], .agg #[.bool n, .string t, .int .i64 e], .agg #[.bool p, .string u, .int .i64 f], .slice (some ⟨g65, 0, none⟩) 2 2, .agg #[.bool z8, .string o8, .int .i64 e8], .int .i64 (cc * cs), .int .i64 cc, .agg #[.bool p, .string u, .int .i64 f], .int .i64 cs, .int .i64 (cc * cs), .bool false, .bool false, .bool false, .agg #[.bool m, .string s, .int .i64 d], .agg #[.bool z2, .string o2, .int .i64 e2], .int .i64 cc, .int .i64 cc, .bool false, .bool false, .bool false, sel l43 (.agg #[.bool z2, .string o2, .int .i64 e2]) (undef), sel l44 (.agg #[.bool n, .string t, .int .i64 e]) (undef), sel l45 (.int .i64 cc) (undef), sel l46 (.int .i64 cc) (undef), sel l47 (.bool false) (undef), undef, undef, undef, undef, undef, undef, undef, undef, undef, undef, undef, undef, undef, undef, undef, undef, undef, undef, undef, undef, undef, undef, undef, undef, undef, undef, undef, undef, undef, undef, undef, undef, undef, undef, undef, undef, undef, undef, undef, undef, undef, undef, undef, undef], defers := [] } ∧ Below (w.heap.size) w Wn ∧ (Nk Wn (w.heap.size) m s d) ∧ (Nk Wn (w.heap.size + 1) n t e) ∧ (Nk Wn (w.heap.size + 1 + 1) p u f) ∧ (Nk Wn QM z2 o2 e2) ∧ (Nk Wn p9 z3 o3 e3) ∧ (Nk Wn p10 z4 o4 e4)) (by kernel_rfl) (by kernel_rfl) (by kernel_rfl) (by kernel_rfl) hf ?_ ?_ ?_ (by kernel_rfl) ?_ (by decide)
    · exact ⟨false, false, false, false, false, by kernel_rfl, by kernel_rfl, hb, hA, hB, hC, hM, hL, hH⟩
    · rintro L ac Wn ⟨l43, l44, l45, l46, l47, rfl, _⟩
      kernel_rfl
    · refine (seg_all (b := 48) [43, 44, 45, 46, 47] ?_ : ∀ j ∈ [43, 44, 45, 46, 47, 48], j ≠ 48 → _)
      refine lin_cons [] [45, 47] rfl (by kernel_rfl) (by kernel_rfl) ?_ ?_
      · intro L ac Wn hI hi hds hus Kc hK
        obtain ⟨l43, l44, l45, l46, l47, rfl, hI⟩ := hI
        obtain rfl : l43 = false := hi
        obtain ⟨rfl, rfl, -⟩ : l45 = false ∧ l47 = false ∧ True := hus
        simp only [sel_f] at hI
        obtain ⟨rfl, hb, hA, hB, hC, hM, hL, hH⟩ := hI
        obtain ⟨q0, q1, q2, q3, q4, q5⟩ := (hM).facts
        refine lin_yield (.agg #[.bool z2, .string o2, .int .i64 e2]) rfl (by go_simp; first | done | with_reducible rfl | assumption) ?_
        exact hK.out _ _ ⟨true, l44, false, l46, false, by kernel_rfl, by kernel_rfl, hb, (hA), (hB), (hC), (hM), (hL), (hH)⟩
      refine lin_cons [] [45, 47] rfl (by kernel_rfl) (by kernel_rfl) ?_ ?_
      · intro L ac Wn hI hi hds hus Kc hK
        obtain ⟨l43, l44, l45, l46, l47, rfl, hI⟩ := hI
        obtain rfl : l44 = false := hi
        obtain ⟨rfl, rfl, -⟩ : l45 = false ∧ l47 = false ∧ True := hus
        simp only [sel_f] at hI
        obtain ⟨rfl, hb, hA, hB, hC, hM, hL, hH⟩ := hI
        obtain ⟨q0, q1, q2, q3, q4, q5⟩ := (hB).facts
        refine lin_yield (.agg #[.bool n, .string t, .int .i64 e]) rfl (by go_simp; first | done | with_reducible rfl | assumption) ?_
        exact hK.out _ _ ⟨l43, true, false, l46, false, by kernel_rfl, by kernel_rfl, hb, (hA), (hB), (hC), (hM), (hL), (hH)⟩
      refine lin_cons [43, 44] [47] rfl (by kernel_rfl) (by kernel_rfl) ?_ ?_
      · intro L ac Wn hI hi hds hus Kc hK
        obtain ⟨l43, l44, l45, l46, l47, rfl, hI⟩ := hI
        obtain rfl : l45 = false := hi
        obtain ⟨rfl, rfl, -⟩ : l43 = true ∧ l44 = true ∧ True := hds
        obtain ⟨rfl, -⟩ : l47 = false ∧ True := hus
        simp only [sel_t, sel_f] at hI
        obtain ⟨rfl, hb, hA, hB, hC, hM, hL, hH⟩ := hI
        go_simp
        go_fit (use_ycmp HO.out.2.2.2.2.1 HO.out.2.1 cc HQ.out.2.2.2.2.2.1)
        rintro e V ⟨rfl, hq⟩
        exact hK.out _ _ ⟨true, true, true, l46, false, by kernel_rfl, by kernel_rfl, (below_next hb hq), (hA.below hq), (hB.below hq), (hC.below hq), (hM.below hq), (hL.below hq), (hH.below hq)⟩
      refine lin_cons [] [47] rfl (by kernel_rfl) (by kernel_rfl) ?_ ?_
      · intro L ac Wn hI hi hds hus Kc hK
        obtain ⟨l43, l44, l45, l46, l47, rfl, hI⟩ := hI
        obtain rfl : l46 = false := hi
        obtain ⟨rfl, -⟩ : l47 = false ∧ True := hus
        simp only [sel_f] at hI
        obtain ⟨rfl, hb, hA, hB, hC, hM, hL, hH⟩ := hI
        refine lin_yield (.int .i64 cc) rfl (by go_simp; first | done | with_reducible rfl | assumption) ?_
        exact hK.out _ _ ⟨l43, l44, l45, true, false, by kernel_rfl, by kernel_rfl, hb, (hA), (hB), (hC), (hM), (hL), (hH)⟩
      refine lin_cons [43, 44, 45, 46] [] rfl (by kernel_rfl) (by kernel_rfl) ?_ lin_nil
      intro L ac Wn hI hi hds hus Kc hK
      obtain ⟨l43, l44, l45, l46, l47, rfl, hI⟩ := hI
      obtain rfl : l47 = false := hi
      obtain ⟨rfl, rfl, rfl, rfl, -⟩ : l43 = true ∧ l44 = true ∧ l45 = true ∧ l46 = true ∧ True := hds
      simp only [sel_t, sel_f] at hI
      obtain ⟨rfl, hb, hA, hB, hC, hM, hL, hH⟩ := hI
      refine lin_yield (.bool false) rfl (by go_simp; first | done | with_reducible rfl | assumption) ?_
      exact hK.out _ _ ⟨true, true, true, true, true, by kernel_rfl, by kernel_rfl, hb, (hA), (hB), (hC), (hM), (hL), (hH)⟩
    refine bar_of [43, 44, 45, 46, 47] rfl (by kernel_rfl) ?_
    intro L ac Wn hI hds Kc hK
    obtain ⟨l43, l44, l45, l46, l47, rfl, hI⟩ := hI
    obtain ⟨rfl, rfl, rfl, rfl, rfl, -⟩ : l43 = true ∧ l44 = true ∧ l45 = true ∧ l46 = true ∧ l47 = true ∧ True := hds
    simp only [sel_t] at hI
    obtain ⟨rfl, hb, hA, hB, hC, hM, hL, hH⟩ := hI
    refine lin_yield (.bool false) rfl (by go_simp; first | done | with_reducible rfl | assumption) ?_
    refine hK.out _ _ (fun fu hf => wpAnyH_done (by kernel_rfl) ?_ _)
    clear hK Kc hf
    obtain ⟨hA0, hA1, hA2⟩ := hA.cells
    obtain ⟨hB0, hB1, hB2⟩ := hB.cells
    obtain ⟨hC0, hC1, hC2⟩ := hC.cells
    go_wp2_with fail
    refine region_segs (n := 9) #[false, false, false, false, false, false, false, false, false] (by kernel_rfl) (by kernel_rfl) (by kernel_rfl) ?_
    intro fu hf
    refine lin_seg 9 [0, 1, 2, 3, 4, 5, 6, 7, 8] 8 (fun L ac Wn => ∃ l0 l1 l2 l3 l4 l5 l6 l7 : Bool, L = #[l0, l1, l2, l3, l4, l5, l6, l7, false] ∧ ∃ p11 : Nat, ac = { tmps := #[.agg #[.bool m, .string s, .int .i64 d], .agg #[.bool n, .string t, .int .i64 e], .agg #[.bool p, .string u, .int .i64 f], .pointer (some ⟨w.heap.size, 0, none⟩), .pointer (some ⟨w.heap.size + 1, 0, none⟩), .pointer (some ⟨w.heap.size + 1 + 1, 0, none⟩), .bool false, .int .i64 cc, .pointer (some ⟨QM, 0, none⟩), .pointer (some ⟨p9, 0, none⟩), .pointer (some ⟨p10, 0, none⟩), sel l7 (.pointer (some ⟨p11, 0, none⟩)) (undef), undef, undef, undef, .agg #[.bool m, .string s, .int .i64 d], .agg #[.bool n, .string t, .int .i64 e], .agg #[.bool p, .string u, .int .i64 f], .slice (some ⟨w.heap.size + 1 + 1 + 1, 0, none⟩) 3 3, .bool false, undef, .agg #[.bool m, .string s, .int .i64 d], .agg #[.bool n, .string t, .int .i64 e], .int .i64 cc, .agg #[.bool m, .string s, .int .i64 d], .agg #[.bool n, .string t, .int .i64 e], .slice (some ⟨W2.heap.size, 0, none⟩) 2 2, .agg #[.bool z1, .string o1, .int .i64 e1], .agg #[.bool z2, .string o2, .int .i64 e2], .agg #[.bool m, .string s, .int .i64 d], .agg #[.bool n, .string t, .int .i64 e], .agg #[.bool p, .string u, .int .i64 f], .slice (some ⟨g32, 0, none⟩) 3 3, .agg #[.bool z3, .string o3, .int .i64 e3], .agg #[.bool m, .string s, .int .i64 d], .agg #[.bool n, .string t, .int .i64 e], .agg #[.bool p, .string u, .int .i64 f], .slice (some ⟨g37, 0, none⟩) 3 3, .agg #[.bool z4, .string o4, .int .i64 e4], .agg #[.bool n, .string t, .int .i64 e], .agg #[.bool m, .string s, .int .i64 d], .int .i64 (-cc), .int .i64 cc, .int .i64 (-cc), .bool false, .bool false, .agg #[.bool m, .string s, .int .i64 d], .agg #[.bool p, .string u, .int .i64 f], .slice (some ⟨g48, 0, none⟩) 2 2, .agg #[.bool z5, .string o5, .int .i64 e5], .agg #[.bool n, .string t, .int .i64 e], .agg #[.bool p, .string u, .int .i64 f], .slice (some ⟨g52, 0, none⟩) 2 2, .agg #[.bool z6, .string o6, .int .i64 e6], .int .i64 cc, .int .i64 cc, .bool false, .bool false, .bool false, .agg #[.bool m, .string s, .int .i64 d], .agg #[.bool p, .string u, .int .i64 f], .slice (some ⟨g61, 0, none⟩) 2 2, .agg #[.bool z7, .string o7, .int .i64 e7], .agg #[.bool n, .string t, .int .i64 e], .agg #[.bool p, .string u, .int .i64 f], .slice (some ⟨g65, 0, none⟩) 2 2, .agg #[.bool z8, .string o8, .int .i64 e8], .int .i64 (cc * cs), .int .i64 cc, .agg #[.bool p, .string u, .int .i64 f], .int .i64 cs, .int .i64 (cc * cs), .bool false, .bool false, .bool false, .agg #[.bool m, .string s, .int .i64 d], .agg #[.bool z2, .string o2, .int .i64 e2], .int .i64 cc, .int .i64 cc, .bool false, .bool false, .bool false, .agg #[.bool z2, .string o2, .int .i64 e2], .agg #[.bool n, .string t, .int .i64 e], .int .i64 cc, .int .i64 cc, .bool false, .bool false, sel l0 (.agg #[.bool m, .string s, .int .i64 d]) (undef), sel l1 (.agg #[.bool z9, .string o9, .int .i64 e9]) (undef), sel l2 (.agg #[.bool n, .string t, .int .i64 e]) (undef), sel l3 (.agg #[.bool z10, .string o10, .int .i64 e10]) (undef), sel l4 (.agg #[.bool p, .string u, .int .i64 f]) (undef), sel l5 (.agg #[.bool z11, .string o11, .int .i64 e11]) (undef), sel l6 (.agg #[.bool z9, .string o9, .int .i64 e9, .bool z10, .string o10, .int .i64 e10, .bool z11, .string o11, .int .i64 e11]) (undef), undef, undef, undef, undef, undef, undef, undef, undef, undef, undef, undef, undef, undef, undef, undef, undef, undef, undef, undef, undef, undef, undef, undef, undef, undef, undef, undef, undef, undef, undef, undef, undef, undef, undef, undef, undef], defers := [] } ∧ Below (w.heap.size) w Wn ∧ (Nk Wn (w.heap.size) m s d) ∧ (Nk Wn (w.heap.size + 1) n t e) ∧ (Nk Wn (w.heap.size + 1 + 1) p u f) ∧ (Nk Wn QM z2 o2 e2) ∧ (Nk Wn p9 z3 o3 e3) ∧ (Nk Wn p10 z4 o4 e4) ∧ (On l7 → Rw Wn p11 33 [.bool false, .string { data := #[] }, .int .i64 0, .bool false, .string { data := #[] }, .int .i64 0, .bool false, .string { data := #[] }, .int .i64 0]) ∧ (On l7 → w.heap.size ≤ p11) ∧ (On l7 → w.heap.size ≠ p11) ∧ (On l7 → w.heap.size + 1 ≠ p11) ∧ (On l7 → w.heap.size + 1 + 1 ≠ p11) ∧ (On l7 → QM ≠ p11) ∧ (On l7 → p9 ≠ p11) ∧ (On l7 → p10 ≠ p11)) (by kernel_rfl) (by kernel_rfl) (by kernel_rfl) (by kernel_rfl) hf ?_ ?_ ?_ (by kernel_rfl) ?_ (by decide)
    · exact ⟨false, false, false, false, false, false, false, false, by kernel_rfl, 0, by kernel_rfl, hb.drew, hA.drew, hB.drew, hC.drew, hM.drew, hL.drew, hH.drew, (fun h => not_ft h), (fun h => not_ft h), (fun h => not_ft h), (fun h => not_ft h), (fun h => not_ft h), (fun h => not_ft h), (fun h => not_ft h), (fun h => not_ft h)⟩
    · rintro L ac Wn ⟨l0, l1, l2, l3, l4, l5, l6, l7, rfl, _⟩
      kernel_rfl
    · refine (seg_all (b := 8) [0, 1, 2, 3, 4, 5, 6, 7] ?_ : ∀ j ∈ [0, 1, 2, 3, 4, 5, 6, 7, 8], j ≠ 8 → _)
      refine lin_cons [] [1, 3, 5, 6] rfl (by kernel_rfl) (by kernel_rfl) ?_ ?_
      · intro L ac Wn hI hi hds hus Kc hK
        obtain ⟨l0, l1, l2, l3, l4, l5, l6, l7, rfl, hI⟩ := hI
        obtain rfl : l0 = false := hi
        obtain ⟨rfl, rfl, rfl, rfl, -⟩ : l1 = false ∧ l3 = false ∧ l5 = false ∧ l6 = false ∧ True := hus
        simp only [sel_f] at hI
        obtain ⟨p11, rfl, hb, hA, hB, hC, hM, hL, hH, hN, dN, nNA, nNB, nNC, nNM, nNL, nNH⟩ := hI
        obtain ⟨q0, q1, q2, q3, q4, q5⟩ := (hA).facts
        refine lin_yield (.agg #[.bool m, .string s, .int .i64 d]) rfl (by go_simp; first | done | with_reducible rfl | assumption) ?_
        exact hK.out _ _ ⟨true, false, l2, false, l4, false, false, l7, by kernel_rfl, p11, by kernel_rfl, hb, (hA), (hB), (hC), (hM), (hL), (hH), (fun z0 => (hN z0)), (fun z0 => (dN z0)), (fun z0 => (nNA z0)), (fun z0 => (nNB z0)), (fun z0 => (nNC z0)), (fun z0 => (nNM z0)), (fun z0 => (nNL z0)), (fun z0 => (nNH z0))⟩
      refine lin_cons [0] [3, 5, 6] rfl (by kernel_rfl) (by kernel_rfl) ?_ ?_
      · intro L ac Wn hI hi hds hus Kc hK
        obtain ⟨l0, l1, l2, l3, l4, l5, l6, l7, rfl, hI⟩ := hI
        obtain rfl : l1 = false := hi
        obtain ⟨rfl, -⟩ : l0 = true ∧ True := hds
        obtain ⟨rfl, rfl, rfl, -⟩ : l3 = false ∧ l5 = false ∧ l6 = false ∧ True := hus
        simp only [sel_t, sel_f] at hI
        obtain ⟨p11, rfl, hb, hA, hB, hC, hM, hL, hH, hN, dN, nNA, nNB, nNC, nNM, nNL, nNH⟩ := hI
        go_simp
        go_fit (use_yform HO.out.1 HK.out.2.2.2.2.2.2.2.2.1)
        rintro e V ⟨rfl, hq⟩
        exact hK.out _ _ ⟨true, true, l2, false, l4, false, false, l7, by kernel_rfl, p11, by kernel_rfl, (below_next hb hq), (hA.below hq), (hB.below hq), (hC.below hq), (hM.below hq), (hL.below hq), (hH.below hq), (fun z0 => (hN z0).below hq ((hN z0)).lt), (fun z0 => (dN z0)), (fun z0 => (nNA z0)), (fun z0 => (nNB z0)), (fun z0 => (nNC z0)), (fun z0 => (nNM z0)), (fun z0 => (nNL z0)), (fun z0 => (nNH z0))⟩
      refine lin_cons [] [3, 5, 6] rfl (by kernel_rfl) (by kernel_rfl) ?_ ?_
      · intro L ac Wn hI hi hds hus Kc hK
        obtain ⟨l0, l1, l2, l3, l4, l5, l6, l7, rfl, hI⟩ := hI
        obtain rfl : l2 = false := hi
        obtain ⟨rfl, rfl, rfl, -⟩ : l3 = false ∧ l5 = false ∧ l6 = false ∧ True := hus
        simp only [sel_f] at hI
        obtain ⟨p11, rfl, hb, hA, hB, hC, hM, hL, hH, hN, dN, nNA, nNB, nNC, nNM, nNL, nNH⟩ := hI
        obtain ⟨q0, q1, q2, q3, q4, q5⟩ := (hB).facts
        refine lin_yield (.agg #[.bool n, .string t, .int .i64 e]) rfl (by go_simp; first | done | with_reducible rfl | assumption) ?_
        exact hK.out _ _ ⟨l0, l1, true, false, l4, false, false, l7, by kernel_rfl, p11, by kernel_rfl, hb, (hA), (hB), (hC), (hM), (hL), (hH), (fun z0 => (hN z0)), (fun z0 => (dN z0)), (fun z0 => (nNA z0)), (fun z0 => (nNB z0)), (fun z0 => (nNC z0)), (fun z0 => (nNM z0)), (fun z0 => (nNL z0)), (fun z0 => (nNH z0))⟩
      refine lin_cons [0, 1, 2] [5, 6] rfl (by kernel_rfl) (by kernel_rfl) ?_ ?_
      · intro L ac Wn hI hi hds hus Kc hK
        obtain ⟨l0, l1, l2, l3, l4, l5, l6, l7, rfl, hI⟩ := hI
        obtain rfl : l3 = false := hi
        obtain ⟨rfl, rfl, rfl, -⟩ : l0 = true ∧ l1 = true ∧ l2 = true ∧ True := hds
        obtain ⟨rfl, rfl, -⟩ : l5 = false ∧ l6 = false ∧ True := hus
        simp only [sel_t, sel_f] at hI
        obtain ⟨p11, rfl, hb, hA, hB, hC, hM, hL, hH, hN, dN, nNA, nNB, nNC, nNM, nNL, nNH⟩ := hI
        go_simp
        go_fit (use_yform HO.out.2.1 HK.out.2.2.2.2.2.2.2.2.2.1)
        rintro e V ⟨rfl, hq⟩
        exact hK.out _ _ ⟨true, true, true, true, l4, false, false, l7, by kernel_rfl, p11, by kernel_rfl, (below_next hb hq), (hA.below hq), (hB.below hq), (hC.below hq), (hM.below hq), (hL.below hq), (hH.below hq), (fun z0 => (hN z0).below hq ((hN z0)).lt), (fun z0 => (dN z0)), (fun z0 => (nNA z0)), (fun z0 => (nNB z0)), (fun z0 => (nNC z0)), (fun z0 => (nNM z0)), (fun z0 => (nNL z0)), (fun z0 => (nNH z0))⟩
      refine lin_cons [] [5, 6] rfl (by kernel_rfl) (by kernel_rfl) ?_ ?_
      · intro L ac Wn hI hi hds hus Kc hK
        obtain ⟨l0, l1, l2, l3, l4, l5, l6, l7, rfl, hI⟩ := hI
        obtain rfl : l4 = false := hi
        obtain ⟨rfl, rfl, -⟩ : l5 = false ∧ l6 = false ∧ True := hus
        simp only [sel_f] at hI
        obtain ⟨p11, rfl, hb, hA, hB, hC, hM, hL, hH, hN, dN, nNA, nNB, nNC, nNM, nNL, nNH⟩ := hI
        obtain ⟨q0, q1, q2, q3, q4, q5⟩ := (hC).facts
        refine lin_yield (.agg #[.bool p, .string u, .int .i64 f]) rfl (by go_simp; first | done | with_reducible rfl | assumption) ?_
        exact hK.out _ _ ⟨l0, l1, l2, l3, true, false, false, l7, by kernel_rfl, p11, by kernel_rfl, hb, (hA), (hB), (hC), (hM), (hL), (hH), (fun z0 => (hN z0)), (fun z0 => (dN z0)), (fun z0 => (nNA z0)), (fun z0 => (nNB z0)), (fun z0 => (nNC z0)), (fun z0 => (nNM z0)), (fun z0 => (nNL z0)), (fun z0 => (nNH z0))⟩
      refine lin_cons [0, 1, 2, 3, 4] [6] rfl (by kernel_rfl) (by kernel_rfl) ?_ ?_
      · intro L ac Wn hI hi hds hus Kc hK
        obtain ⟨l0, l1, l2, l3, l4, l5, l6, l7, rfl, hI⟩ := hI
        obtain rfl : l5 = false := hi
        obtain ⟨rfl, rfl, rfl, rfl, rfl, -⟩ : l0 = true ∧ l1 = true ∧ l2 = true ∧ l3 = true ∧ l4 = true ∧ True := hds
        obtain ⟨rfl, -⟩ : l6 = false ∧ True := hus
        simp only [sel_t, sel_f] at hI
        obtain ⟨p11, rfl, hb, hA, hB, hC, hM, hL, hH, hN, dN, nNA, nNB, nNC, nNM, nNL, nNH⟩ := hI
        go_simp
        go_fit (use_yform HO.out.2.2.1 HK.out.2.2.2.2.2.2.2.2.2.2)
        rintro e V ⟨rfl, hq⟩
        exact hK.out _ _ ⟨true, true, true, true, true, true, false, l7, by kernel_rfl, p11, by kernel_rfl, (below_next hb hq), (hA.below hq), (hB.below hq), (hC.below hq), (hM.below hq), (hL.below hq), (hH.below hq), (fun z0 => (hN z0).below hq ((hN z0)).lt), (fun z0 => (dN z0)), (fun z0 => (nNA z0)), (fun z0 => (nNB z0)), (fun z0 => (nNC z0)), (fun z0 => (nNM z0)), (fun z0 => (nNL z0)), (fun z0 => (nNH z0))⟩
      refine lin_cons [0, 1, 2, 3, 4, 5] [] rfl (by kernel_rfl) (by kernel_rfl) ?_ ?_
      · intro L ac Wn hI hi hds hus Kc hK
        obtain ⟨l0, l1, l2, l3, l4, l5, l6, l7, rfl, hI⟩ := hI
        obtain rfl : l6 = false := hi
        obtain ⟨rfl, rfl, rfl, rfl, rfl, rfl, -⟩ : l0 = true ∧ l1 = true ∧ l2 = true ∧ l3 = true ∧ l4 = true ∧ l5 = true ∧ True := hds
        simp only [sel_t, sel_f] at hI
        obtain ⟨p11, rfl, hb, hA, hB, hC, hM, hL, hH, hN, dN, nNA, nNB, nNC, nNM, nNL, nNH⟩ := hI
        refine lin_yield (.agg #[.bool z9, .string o9, .int .i64 e9, .bool z10, .string o10, .int .i64 e10, .bool z11, .string o11, .int .i64 e11]) rfl (by go_simp; first | done | with_reducible rfl | assumption) ?_
        exact hK.out _ _ ⟨true, true, true, true, true, true, true, l7, by kernel_rfl, p11, by kernel_rfl, hb, (hA), (hB), (hC), (hM), (hL), (hH), (fun z0 => (hN z0)), (fun z0 => (dN z0)), (fun z0 => (nNA z0)), (fun z0 => (nNB z0)), (fun z0 => (nNC z0)), (fun z0 => (nNM z0)), (fun z0 => (nNL z0)), (fun z0 => (nNH z0))⟩
      refine lin_cons [] [] rfl (by kernel_rfl) (by kernel_rfl) ?_ lin_nil
      intro L ac Wn hI hi hds hus Kc hK
      obtain ⟨l0, l1, l2, l3, l4, l5, l6, l7, rfl, hI⟩ := hI
      obtain rfl : l7 = false := hi
      simp only [sel_f] at hI
      obtain ⟨p11, rfl, hb, hA, hB, hC, hM, hL, hH, hN, dN, nNA, nNB, nNC, nNM, nNL, nNH⟩ := hI
      go_simp
      exact hK.out _ _ ⟨l0, l1, l2, l3, l4, l5, l6, true, by kernel_rfl, _, by kernel_rfl, (hb.alloc hb.size _), (hA.alloc _), (hB.alloc _), (hC.alloc _), (hM.alloc _), (hL.alloc _), (hH.alloc _), (fun z0 => Rw.new _ _ _), (fun z0 => hb.size), (fun z0 => Nat.ne_of_lt ((hA).lt)), (fun z0 => Nat.ne_of_lt ((hB).lt)), (fun z0 => Nat.ne_of_lt ((hC).lt)), (fun z0 => Nat.ne_of_lt ((hM).lt)), (fun z0 => Nat.ne_of_lt ((hL).lt)), (fun z0 => Nat.ne_of_lt ((hH).lt))⟩
    refine bar_of [0, 1, 2, 3, 4, 5, 6, 7] rfl (by kernel_rfl) ?_
    intro L ac Wn hI hds Kc hK
    obtain ⟨l0, l1, l2, l3, l4, l5, l6, l7, rfl, hI⟩ := hI
    obtain ⟨rfl, rfl, rfl, rfl, rfl, rfl, rfl, rfl, -⟩ : l0 = true ∧ l1 = true ∧ l2 = true ∧ l3 = true ∧ l4 = true ∧ l5 = true ∧ l6 = true ∧ l7 = true ∧ True := hds
    simp only [sel_t] at hI
    obtain ⟨p11, rfl, hb, hA, hB, hC, hM, hL, hH, hN, dN, nNA, nNB, nNC, nNM, nNL, nNH⟩ := hI
    replace hN := hN rfl
    replace dN := dN rfl
    replace nNA := nNA rfl
    replace nNB := nNB rfl
    replace nNC := nNC rfl
    replace nNM := nNM rfl
    replace nNL := nNL rfl
    replace nNH := nNH rfl
    have q0 := (hN).cell 0
    have f0 := (hN).frozen 0
    have q1 := (hN).cell 1
    have f1 := (hN).frozen 1
    have q2 := (hN).cell 2
    have f2 := (hN).frozen 2
    have q3 := (hN).cell 3
    have f3 := (hN).frozen 3
    have q4 := (hN).cell 4
    have f4 := (hN).frozen 4
    have q5 := (hN).cell 5
    have f5 := (hN).frozen 5
    have q6 := (hN).cell 6
    have f6 := (hN).frozen 6
    have q7 := (hN).cell 7
    have f7 := (hN).frozen 7
    have q8 := (hN).cell 8
    have f8 := (hN).frozen 8
    simp only [List.getElem?_cons_zero, List.getElem?_cons_succ] at q0 q1 q2 q3 q4 q5 q6 q7 q8
    go_simp
    replace hA := (((((((((hA).far (p := ⟨p11, 0, none⟩) (by show w.heap.size ≠ p11; omega) (.bool z9)).far (p := ⟨p11, 1, none⟩) (by show w.heap.size ≠ p11; omega) (.string o9)).far (p := ⟨p11, 2, none⟩) (by show w.heap.size ≠ p11; omega) (.int .i64 e9)).far (p := ⟨p11, 3, none⟩) (by show w.heap.size ≠ p11; omega) (.bool z10)).far (p := ⟨p11, 4, none⟩) (by show w.heap.size ≠ p11; omega) (.string o10)).far (p := ⟨p11, 5, none⟩) (by show w.heap.size ≠ p11; omega) (.int .i64 e10)).far (p := ⟨p11, 6, none⟩) (by show w.heap.size ≠ p11; omega) (.bool z11)).far (p := ⟨p11, 7, none⟩) (by show w.heap.size ≠ p11; omega) (.string o11)).far (p := ⟨p11, 8, none⟩) (by show w.heap.size ≠ p11; omega) (.int .i64 e11)
    replace hB := (((((((((hB).far (p := ⟨p11, 0, none⟩) (by show w.heap.size + 1 ≠ p11; omega) (.bool z9)).far (p := ⟨p11, 1, none⟩) (by show w.heap.size + 1 ≠ p11; omega) (.string o9)).far (p := ⟨p11, 2, none⟩) (by show w.heap.size + 1 ≠ p11; omega) (.int .i64 e9)).far (p := ⟨p11, 3, none⟩) (by show w.heap.size + 1 ≠ p11; omega) (.bool z10)).far (p := ⟨p11, 4, none⟩) (by show w.heap.size + 1 ≠ p11; omega) (.string o10)).far (p := ⟨p11, 5, none⟩) (by show w.heap.size + 1 ≠ p11; omega) (.int .i64 e10)).far (p := ⟨p11, 6, none⟩) (by show w.heap.size + 1 ≠ p11; omega) (.bool z11)).far (p := ⟨p11, 7, none⟩) (by show w.heap.size + 1 ≠ p11; omega) (.string o11)).far (p := ⟨p11, 8, none⟩) (by show w.heap.size + 1 ≠ p11; omega) (.int .i64 e11)
    replace hC := (((((((((hC).far (p := ⟨p11, 0, none⟩) (by show w.heap.size + 1 + 1 ≠ p11; omega) (.bool z9)).far (p := ⟨p11, 1, none⟩) (by show w.heap.size + 1 + 1 ≠ p11; omega) (.string o9)).far (p := ⟨p11, 2, none⟩) (by show w.heap.size + 1 + 1 ≠ p11; omega) (.int .i64 e9)).far (p := ⟨p11, 3, none⟩) (by show w.heap.size + 1 + 1 ≠ p11; omega) (.bool z10)).far (p := ⟨p11, 4, none⟩) (by show w.heap.size + 1 + 1 ≠ p11; omega) (.string o10)).far (p := ⟨p11, 5, none⟩) (by show w.heap.size + 1 + 1 ≠ p11; omega) (.int .i64 e10)).far (p := ⟨p11, 6, none⟩) (by show w.heap.size + 1 + 1 ≠ p11; omega) (.bool z11)).far (p := ⟨p11, 7, none⟩) (by show w.heap.size + 1 + 1 ≠ p11; omega) (.string o11)).far (p := ⟨p11, 8, none⟩) (by show w.heap.size + 1 + 1 ≠ p11; omega) (.int .i64 e11)
    replace hM := (((((((((hM).far (p := ⟨p11, 0, none⟩) (by show QM ≠ p11; omega) (.bool z9)).far (p := ⟨p11, 1, none⟩) (by show QM ≠ p11; omega) (.string o9)).far (p := ⟨p11, 2, none⟩) (by show QM ≠ p11; omega) (.int .i64 e9)).far (p := ⟨p11, 3, none⟩) (by show QM ≠ p11; omega) (.bool z10)).far (p := ⟨p11, 4, none⟩) (by show QM ≠ p11; omega) (.string o10)).far (p := ⟨p11, 5, none⟩) (by show QM ≠ p11; omega) (.int .i64 e10)).far (p := ⟨p11, 6, none⟩) (by show QM ≠ p11; omega) (.bool z11)).far (p := ⟨p11, 7, none⟩) (by show QM ≠ p11; omega) (.string o11)).far (p := ⟨p11, 8, none⟩) (by show QM ≠ p11; omega) (.int .i64 e11)
    replace hL := (((((((((hL).far (p := ⟨p11, 0, none⟩) (by show p9 ≠ p11; omega) (.bool z9)).far (p := ⟨p11, 1, none⟩) (by show p9 ≠ p11; omega) (.string o9)).far (p := ⟨p11, 2, none⟩) (by show p9 ≠ p11; omega) (.int .i64 e9)).far (p := ⟨p11, 3, none⟩) (by show p9 ≠ p11; omega) (.bool z10)).far (p := ⟨p11, 4, none⟩) (by show p9 ≠ p11; omega) (.string o10)).far (p := ⟨p11, 5, none⟩) (by show p9 ≠ p11; omega) (.int .i64 e10)).far (p := ⟨p11, 6, none⟩) (by show p9 ≠ p11; omega) (.bool z11)).far (p := ⟨p11, 7, none⟩) (by show p9 ≠ p11; omega) (.string o11)).far (p := ⟨p11, 8, none⟩) (by show p9 ≠ p11; omega) (.int .i64 e11)
    replace hH := (((((((((hH).far (p := ⟨p11, 0, none⟩) (by show p10 ≠ p11; omega) (.bool z9)).far (p := ⟨p11, 1, none⟩) (by show p10 ≠ p11; omega) (.string o9)).far (p := ⟨p11, 2, none⟩) (by show p10 ≠ p11; omega) (.int .i64 e9)).far (p := ⟨p11, 3, none⟩) (by show p10 ≠ p11; omega) (.bool z10)).far (p := ⟨p11, 4, none⟩) (by show p10 ≠ p11; omega) (.string o10)).far (p := ⟨p11, 5, none⟩) (by show p10 ≠ p11; omega) (.int .i64 e10)).far (p := ⟨p11, 6, none⟩) (by show p10 ≠ p11; omega) (.bool z11)).far (p := ⟨p11, 7, none⟩) (by show p10 ≠ p11; omega) (.string o11)).far (p := ⟨p11, 8, none⟩) (by show p10 ≠ p11; omega) (.int .i64 e11)
    replace hN := (((((((((hN).set_ 0 (.bool z9)).set_ 1 (.string o9)).set_ 2 (.int .i64 e9)).set_ 3 (.bool z10)).set_ 4 (.string o10)).set_ 5 (.int .i64 e10)).set_ 6 (.bool z11)).set_ 7 (.string o11)).set_ 8 (.int .i64 e11)
    replace hb := (((((((((hb.setCell (p := ⟨p11, 0, none⟩) (by show w.heap.size ≤ p11; omega) (.bool z9)).setCell (p := ⟨p11, 1, none⟩) (by show w.heap.size ≤ p11; omega) (.string o9)).setCell (p := ⟨p11, 2, none⟩) (by show w.heap.size ≤ p11; omega) (.int .i64 e9)).setCell (p := ⟨p11, 3, none⟩) (by show w.heap.size ≤ p11; omega) (.bool z10)).setCell (p := ⟨p11, 4, none⟩) (by show w.heap.size ≤ p11; omega) (.string o10)).setCell (p := ⟨p11, 5, none⟩) (by show w.heap.size ≤ p11; omega) (.int .i64 e10)).setCell (p := ⟨p11, 6, none⟩) (by show w.heap.size ≤ p11; omega) (.bool z11)).setCell (p := ⟨p11, 7, none⟩) (by show w.heap.size ≤ p11; omega) (.string o11)).setCell (p := ⟨p11, 8, none⟩) (by show w.heap.size ≤ p11; omega) (.int .i64 e11))
    refine hK.out _ _ (fun fu hf => wpAnyH_done (by kernel_rfl) ?_ _)
    clear hK Kc hf
    generalize (((((((((Wn.setCell ⟨p11, 0, none⟩ (.bool z9)).setCell ⟨p11, 1, none⟩ (.string o9)).setCell ⟨p11, 2, none⟩ (.int .i64 e9)).setCell ⟨p11, 3, none⟩ (.bool z10)).setCell ⟨p11, 4, none⟩ (.string o10)).setCell ⟨p11, 5, none⟩ (.int .i64 e10)).setCell ⟨p11, 6, none⟩ (.bool z11)).setCell ⟨p11, 7, none⟩ (.string o11)).setCell ⟨p11, 8, none⟩ (.int .i64 e11)) = W8 at *
    clear q0 q1 q2 q3 q4 q5 q6 q7 q8 f0 f1 f2 f3 f4 f5 f6 f7 f8 hA0 hA1 hA2 hB0 hB1 hB2 hC0 hC1 hC2 hB hC hM
    have hn : ∀ i, _ := fun i => hN.cell i
    have n0 := hn 0
    have n1 := hn 1
    have n2 := hn 2
    have n3 := hn 3
    have n4 := hn 4
    have n5 := hn 5
    have n6 := hn 6
    have n7 := hn 7
    have n8 := hn 8
    simp only [List.getElem?_cons_zero, List.getElem?_cons_succ, List.set_cons_zero, List.set_cons_succ] at n0 n1 n2 n3 n4 n5 n6 n7 n8
    clear hn
    obtain ⟨ho1, ho2, ho3⟩ := order_facts (a := (m, s, d)) (b := (n, t, e)) (c := (p, u, f)) HK.out.2.2.1 HK.out.2.2.2.1 HK.out.2.2.2.2.2.2.2.2.1 HK.out.2.2.2.2.2.2.2.2.2.1 HK.out.2.2.2.2.2.2.2.2.2.2 [(z9, o9, e9), (z10, o10, e10), (z11, o11, e11)] rfl
    have ok9 := df_exp HK.out.2.2.2.2.2.2.2.2.1 hbnd.1.1
    have ok10 := df_exp HK.out.2.2.2.2.2.2.2.2.2.1 hbnd.2.1.1
    have ok11 := df_exp HK.out.2.2.2.2.2.2.2.2.2.2 hbnd.2.2.1
    have ok12 : ∀ x ∈ [(z9, o9, e9), (z10, o10, e10), (z11, o11, e11)], Ok3 x.2.1 x.2.2 := by
      intro x hx
      simp only [List.mem_cons, List.not_mem_nil, or_false] at hx
      unfold Ok3
      rcases hx with rfl | rfl | rfl <;> simp only <;> omega
    have HF := Lib.hid (And.intro ho1 (And.intro ho2 (And.intro ho3 ok12)))
    clear ho1 ho2 ho3 ok9 ok10 ok11 ok12
    go_wp2_with fail
    clear n0 n1 n2 n3 n4 n5 n6 n7 n8 hN
    go_loopw [12, 96] (fun sv iv wr => ∃ k : Nat, k ≤ 3 ∧ iv = .int .i64 k ∧ ∃ b1 b2 : Bool, sv = .int .i64 (seenI b1 b2) ∧ (b1 = false → (z3, o3, e3) ∉ [(z9, o9, e9), (z10, o10, e10), (z11, o11, e11)].take k) ∧ (b2 = false → (z4, o4, e4) ∉ [(z9, o9, e9), (z10, o10, e10), (z11, o11, e11)].take k) ∧ Below w.heap.size w wr ∧ Nk wr w.heap.size m s d ∧ Nk wr p9 z3 o3 e3 ∧ Nk wr p10 z4 o4 e4) (fun _ i _ => 3 - intY i)
    case atStart => exact ⟨0, by omega, rfl, false, false, rfl, fun _ => by simp, fun _ => by simp, hb, hA, hL, hH⟩
    case round =>
      clear hA hL hH hb
      obtain ⟨k, hk, rfl, b1, b2, rfl, hs1, hs2, hb, hA, hL, hH⟩ := hrel
      have HS := Lib.hid (And.intro hs1 hs2)
      clear hs1 hs2
      obtain rfl | rfl | rfl | rfl : k = 0 ∨ k = 1 ∨ k = 2 ∨ k = 3 := by omega
      · obtain ⟨c1, hc1⟩ : ∃ c, dsg (nv z3 o3 e3 - nv z9 o9 e9) = c := ⟨_, rfl⟩
        obtain ⟨c2, hc2⟩ : ∃ c, dsg (nv z4 o4 e4 - nv z9 o9 e9) = c := ⟨_, rfl⟩
        obtain ⟨d1, d2⟩ := HF.out.1 (z9, o9, e9) (by simp)
        have d1' : decide (0 < c1) = false := by rw [← hc1]; exact d1
        have d2' : decide (c2 < 0) = false := by rw [← hc2]; exact d2
        clear d1 d2
        have HC := Lib.hid (And.intro hc1 hc2)
        clear hc1 hc2
        have hix := index3_0 wr z9 z10 z11 o9 o10 o11 e9 e10 e11
        have hX := Nk.new wr z9 o9 e9
        have hAl := hA.lt
        have hLl := hL.lt
        have hHl := hH.lt
        have hne1 : p9 ≠ wr.heap.size := by omega
        replace hA := hA.alloc (Obj.cells #[Value.bool z9, Value.string o9, Value.int IntKind.i64 e9] 25)
        replace hL := hL.alloc (Obj.cells #[Value.bool z9, Value.string o9, Value.int IntKind.i64 e9] 25)
        replace hH := hH.alloc (Obj.cells #[Value.bool z9, Value.string o9, Value.int IntKind.i64 e9] 25)
        replace hb := hb.alloc hb.size (Obj.cells #[Value.bool z9, Value.string o9, Value.int IntKind.i64 e9] 25)
        obtain ⟨hX0, hX1, hX2⟩ := hX.cells
        obtain ⟨hL0, hL1, hL2⟩ := hL.cells
        obtain ⟨hH0, hH1, hH2⟩ := hH.cells
        go_wp2_with fail
        generalize (wr.alloc (Obj.cells #[Value.bool z9, Value.string o9, Value.int IntKind.i64 e9] 25)) = W9 at *
        generalize wr.heap.size = QX at *
        refine (use_ycmp (HF.out.2.2.2 _ HF.out.2.1) (HF.out.2.2.2 (z9, o9, e9) (by simp)) c1 HC.out.1).mono ?_
        rintro e' V ⟨rfl, hq⟩
        replace hb := below_next hb hq
        replace hA := hA.below hq
        replace hX := hX.below hq
        replace hL := hL.below hq
        replace hH := hH.below hq
        clear hq hX0 hX1 hX2 hL0 hL1 hL2 hH0 hH1 hH2
        obtain ⟨hX0, hX1, hX2⟩ := hX.cells
        obtain ⟨hH0, hH1, hH2⟩ := hH.cells
        go_wp2_with fail
        refine (use_ycmp (HF.out.2.2.2 _ HF.out.2.2.1) (HF.out.2.2.2 (z9, o9, e9) (by simp)) c2 HC.out.2).mono ?_
        rintro e' V2 ⟨rfl, hq⟩
        replace hb := below_next hb hq
        replace hA := hA.below hq
        replace hX := hX.below hq
        replace hL := hL.below hq
        replace hH := hH.below hq
        clear hq hX0 hX1 hX2 hH0 hH1 hH2
        have tri : ∀ {a b : Bool} {o q : ByteArray} {i j : Int}, ¬(a, o, i) = (b, q, j) → ¬a = b ∨ (a = b ∧ ¬o.toList = q.toList) ∨ (a = b ∧ o = q ∧ ¬i = j) := first_diff
        by_cases hx1 : (z9, o9, e9) = (z3, o3, e3)
        · by_cases hx2 : (z9, o9, e9) = (z4, o4, e4)
          · simp only [Prod.mk.injEq] at hx1
            obtain ⟨rfl, rfl, rfl⟩ := hx1
            simp only [Prod.mk.injEq] at hx2
            obtain ⟨rfl, rfl, rfl⟩ := hx2
            (obtain ⟨hX0, hX1, hX2⟩ := hX.cells
             obtain ⟨hL0, hL1, hL2⟩ := hL.cells
             obtain ⟨hH0, hH1, hH2⟩ := hH.cells
             go_wp2
             go_roundw
             case rel =>
               refine ⟨1, by omega, rfl, true, true, ?_, ?_, ?_, hb, hA, hL, hH⟩
               · rw [or_one, or_two]
               · intro h0
                 exact absurd h0 (by decide)
               · intro h0
                 exact absurd h0 (by decide)
             case measure => simp [intY])
          · simp only [Prod.mk.injEq] at hx1
            obtain ⟨rfl, rfl, rfl⟩ := hx1
            rcases tri hx2 with h2 | ⟨rfl, h2⟩ | ⟨rfl, rfl, h2⟩ <;>
             (obtain ⟨hX0, hX1, hX2⟩ := hX.cells
              obtain ⟨hL0, hL1, hL2⟩ := hL.cells
              obtain ⟨hH0, hH1, hH2⟩ := hH.cells
              go_wp2
              go_roundw
              case rel =>
                refine ⟨1, by omega, rfl, true, b2, ?_, ?_, ?_, hb, hA, hL, hH⟩
                · rw [or_one]
                · intro h0
                  exact absurd h0 (by decide)
                · intro h0
                  exact not_take (k := 0) (by simp) (HS.out.2 h0) hx2
              case measure => simp [intY])
        · by_cases hx2 : (z9, o9, e9) = (z4, o4, e4)
          · simp only [Prod.mk.injEq] at hx2
            obtain ⟨rfl, rfl, rfl⟩ := hx2
            rcases tri hx1 with h1 | ⟨rfl, h1⟩ | ⟨rfl, rfl, h1⟩ <;>
             (obtain ⟨hX0, hX1, hX2⟩ := hX.cells
              obtain ⟨hL0, hL1, hL2⟩ := hL.cells
              obtain ⟨hH0, hH1, hH2⟩ := hH.cells
              go_wp2
              go_roundw
              case rel =>
                refine ⟨1, by omega, rfl, b1, true, ?_, ?_, ?_, hb, hA, hL, hH⟩
                · rw [or_two]
                · intro h0
                  exact not_take (k := 0) (by simp) (HS.out.1 h0) hx1
                · intro h0
                  exact absurd h0 (by decide)
              case measure => simp [intY])
          · rcases tri hx1 with h1 | ⟨rfl, h1⟩ | ⟨rfl, rfl, h1⟩ <;> rcases tri hx2 with h2 | ⟨rfl, h2⟩ | ⟨rfl, rfl, h2⟩ <;>
             (obtain ⟨hX0, hX1, hX2⟩ := hX.cells
              obtain ⟨hL0, hL1, hL2⟩ := hL.cells
              obtain ⟨hH0, hH1, hH2⟩ := hH.cells
              go_wp2
              go_roundw
              case rel =>
                refine ⟨1, by omega, rfl, b1, b2, ?_, ?_, ?_, hb, hA, hL, hH⟩
                · rfl
                · intro h0
                  exact not_take (k := 0) (by simp) (HS.out.1 h0) hx1
                · intro h0
                  exact not_take (k := 0) (by simp) (HS.out.2 h0) hx2
              case measure => simp [intY])
      · obtain ⟨c1, hc1⟩ : ∃ c, dsg (nv z3 o3 e3 - nv z10 o10 e10) = c := ⟨_, rfl⟩
        obtain ⟨c2, hc2⟩ : ∃ c, dsg (nv z4 o4 e4 - nv z10 o10 e10) = c := ⟨_, rfl⟩
        obtain ⟨d1, d2⟩ := HF.out.1 (z10, o10, e10) (by simp)
        have d1' : decide (0 < c1) = false := by rw [← hc1]; exact d1
        have d2' : decide (c2 < 0) = false := by rw [← hc2]; exact d2
        clear d1 d2
        have HC := Lib.hid (And.intro hc1 hc2)
        clear hc1 hc2
        have hix := index3_1 wr z9 z10 z11 o9 o10 o11 e9 e10 e11
        have hX := Nk.new wr z10 o10 e10
        have hAl := hA.lt
        have hLl := hL.lt
        have hHl := hH.lt
        have hne1 : p9 ≠ wr.heap.size := by omega
        replace hA := hA.alloc (Obj.cells #[Value.bool z10, Value.string o10, Value.int IntKind.i64 e10] 25)
        replace hL := hL.alloc (Obj.cells #[Value.bool z10, Value.string o10, Value.int IntKind.i64 e10] 25)
        replace hH := hH.alloc (Obj.cells #[Value.bool z10, Value.string o10, Value.int IntKind.i64 e10] 25)
        replace hb := hb.alloc hb.size (Obj.cells #[Value.bool z10, Value.string o10, Value.int IntKind.i64 e10] 25)
        obtain ⟨hX0, hX1, hX2⟩ := hX.cells
        obtain ⟨hL0, hL1, hL2⟩ := hL.cells
        obtain ⟨hH0, hH1, hH2⟩ := hH.cells
        go_wp2_with fail
        generalize (wr.alloc (Obj.cells #[Value.bool z10, Value.string o10, Value.int IntKind.i64 e10] 25)) = W9 at *
        generalize wr.heap.size = QX at *
        refine (use_ycmp (HF.out.2.2.2 _ HF.out.2.1) (HF.out.2.2.2 (z10, o10, e10) (by simp)) c1 HC.out.1).mono ?_
        rintro e' V ⟨rfl, hq⟩
        replace hb := below_next hb hq
        replace hA := hA.below hq
        replace hX := hX.below hq
        replace hL := hL.below hq
        replace hH := hH.below hq
        clear hq hX0 hX1 hX2 hL0 hL1 hL2 hH0 hH1 hH2
        obtain ⟨hX0, hX1, hX2⟩ := hX.cells
        obtain ⟨hH0, hH1, hH2⟩ := hH.cells
        go_wp2_with fail
        refine (use_ycmp (HF.out.2.2.2 _ HF.out.2.2.1) (HF.out.2.2.2 (z10, o10, e10) (by simp)) c2 HC.out.2).mono ?_
        rintro e' V2 ⟨rfl, hq⟩
        replace hb := below_next hb hq
        replace hA := hA.below hq
        replace hX := hX.below hq
        replace hL := hL.below hq
        replace hH := hH.below hq
        clear hq hX0 hX1 hX2 hH0 hH1 hH2
        have tri : ∀ {a b : Bool} {o q : ByteArray} {i j : Int}, ¬(a, o, i) = (b, q, j) → ¬a = b ∨ (a = b ∧ ¬o.toList = q.toList) ∨ (a = b ∧ o = q ∧ ¬i = j) := first_diff
        by_cases hx1 : (z10, o10, e10) = (z3, o3, e3)
        · by_cases hx2 : (z10, o10, e10) = (z4, o4, e4)
          · simp only [Prod.mk.injEq] at hx1
            obtain ⟨rfl, rfl, rfl⟩ := hx1
            simp only [Prod.mk.injEq] at hx2
            obtain ⟨rfl, rfl, rfl⟩ := hx2
            (obtain ⟨hX0, hX1, hX2⟩ := hX.cells
             obtain ⟨hL0, hL1, hL2⟩ := hL.cells
             obtain ⟨hH0, hH1, hH2⟩ := hH.cells
             go_wp2
             go_roundw
             case rel =>
               refine ⟨2, by omega, rfl, true, true, ?_, ?_, ?_, hb, hA, hL, hH⟩
               · rw [or_one, or_two]
               · intro h0
                 exact absurd h0 (by decide)
               · intro h0
                 exact absurd h0 (by decide)
             case measure => simp [intY])
          · simp only [Prod.mk.injEq] at hx1
            obtain ⟨rfl, rfl, rfl⟩ := hx1
            rcases tri hx2 with h2 | ⟨rfl, h2⟩ | ⟨rfl, rfl, h2⟩ <;>
             (obtain ⟨hX0, hX1, hX2⟩ := hX.cells
              obtain ⟨hL0, hL1, hL2⟩ := hL.cells
              obtain ⟨hH0, hH1, hH2⟩ := hH.cells
              go_wp2
              go_roundw
              case rel =>
                refine ⟨2, by omega, rfl, true, b2, ?_, ?_, ?_, hb, hA, hL, hH⟩
                · rw [or_one]
                · intro h0
                  exact absurd h0 (by decide)
                · intro h0
                  exact not_take (k := 1) (by simp) (HS.out.2 h0) hx2
              case measure => simp [intY])
        · by_cases hx2 : (z10, o10, e10) = (z4, o4, e4)
          · simp only [Prod.mk.injEq] at hx2
            obtain ⟨rfl, rfl, rfl⟩ := hx2
            rcases tri hx1 with h1 | ⟨rfl, h1⟩ | ⟨rfl, rfl, h1⟩ <;>
             (obtain ⟨hX0, hX1, hX2⟩ := hX.cells
              obtain ⟨hL0, hL1, hL2⟩ := hL.cells
              obtain ⟨hH0, hH1, hH2⟩ := hH.cells
              go_wp2
              go_roundw
              case rel =>
                refine ⟨2, by omega, rfl, b1, true, ?_, ?_, ?_, hb, hA, hL, hH⟩
                · rw [or_two]
                · intro h0
                  exact not_take (k := 1) (by simp) (HS.out.1 h0) hx1
                · intro h0
                  exact absurd h0 (by decide)
              case measure => simp [intY])
          · rcases tri hx1 with h1 | ⟨rfl, h1⟩ | ⟨rfl, rfl, h1⟩ <;> rcases tri hx2 with h2 | ⟨rfl, h2⟩ | ⟨rfl, rfl, h2⟩ <;>
             (obtain ⟨hX0, hX1, hX2⟩ := hX.cells
              obtain ⟨hL0, hL1, hL2⟩ := hL.cells
              obtain ⟨hH0, hH1, hH2⟩ := hH.cells
              go_wp2
              go_roundw
              case rel =>
                refine ⟨2, by omega, rfl, b1, b2, ?_, ?_, ?_, hb, hA, hL, hH⟩
                · rfl
                · intro h0
                  exact not_take (k := 1) (by simp) (HS.out.1 h0) hx1
                · intro h0
                  exact not_take (k := 1) (by simp) (HS.out.2 h0) hx2
              case measure => simp [intY])
      · obtain ⟨c1, hc1⟩ : ∃ c, dsg (nv z3 o3 e3 - nv z11 o11 e11) = c := ⟨_, rfl⟩
        obtain ⟨c2, hc2⟩ : ∃ c, dsg (nv z4 o4 e4 - nv z11 o11 e11) = c := ⟨_, rfl⟩
        obtain ⟨d1, d2⟩ := HF.out.1 (z11, o11, e11) (by simp)
        have d1' : decide (0 < c1) = false := by rw [← hc1]; exact d1
        have d2' : decide (c2 < 0) = false := by rw [← hc2]; exact d2
        clear d1 d2
        have HC := Lib.hid (And.intro hc1 hc2)
        clear hc1 hc2
        have hix := index3_2 wr z9 z10 z11 o9 o10 o11 e9 e10 e11
        have hX := Nk.new wr z11 o11 e11
        have hAl := hA.lt
        have hLl := hL.lt
        have hHl := hH.lt
        have hne1 : p9 ≠ wr.heap.size := by omega
        replace hA := hA.alloc (Obj.cells #[Value.bool z11, Value.string o11, Value.int IntKind.i64 e11] 25)
        replace hL := hL.alloc (Obj.cells #[Value.bool z11, Value.string o11, Value.int IntKind.i64 e11] 25)
        replace hH := hH.alloc (Obj.cells #[Value.bool z11, Value.string o11, Value.int IntKind.i64 e11] 25)
        replace hb := hb.alloc hb.size (Obj.cells #[Value.bool z11, Value.string o11, Value.int IntKind.i64 e11] 25)
        obtain ⟨hX0, hX1, hX2⟩ := hX.cells
        obtain ⟨hL0, hL1, hL2⟩ := hL.cells
        obtain ⟨hH0, hH1, hH2⟩ := hH.cells
        go_wp2_with fail
        generalize (wr.alloc (Obj.cells #[Value.bool z11, Value.string o11, Value.int IntKind.i64 e11] 25)) = W9 at *
        generalize wr.heap.size = QX at *
        refine (use_ycmp (HF.out.2.2.2 _ HF.out.2.1) (HF.out.2.2.2 (z11, o11, e11) (by simp)) c1 HC.out.1).mono ?_
        rintro e' V ⟨rfl, hq⟩
        replace hb := below_next hb hq
        replace hA := hA.below hq
        replace hX := hX.below hq
        replace hL := hL.below hq
        replace hH := hH.below hq
        clear hq hX0 hX1 hX2 hL0 hL1 hL2 hH0 hH1 hH2
        obtain ⟨hX0, hX1, hX2⟩ := hX.cells
        obtain ⟨hH0, hH1, hH2⟩ := hH.cells
        go_wp2_with fail
        refine (use_ycmp (HF.out.2.2.2 _ HF.out.2.2.1) (HF.out.2.2.2 (z11, o11, e11) (by simp)) c2 HC.out.2).mono ?_
        rintro e' V2 ⟨rfl, hq⟩
        replace hb := below_next hb hq
        replace hA := hA.below hq
        replace hX := hX.below hq
        replace hL := hL.below hq
        replace hH := hH.below hq
        clear hq hX0 hX1 hX2 hH0 hH1 hH2
        have tri : ∀ {a b : Bool} {o q : ByteArray} {i j : Int}, ¬(a, o, i) = (b, q, j) → ¬a = b ∨ (a = b ∧ ¬o.toList = q.toList) ∨ (a = b ∧ o = q ∧ ¬i = j) := first_diff
        by_cases hx1 : (z11, o11, e11) = (z3, o3, e3)
        · by_cases hx2 : (z11, o11, e11) = (z4, o4, e4)
          · simp only [Prod.mk.injEq] at hx1
            obtain ⟨rfl, rfl, rfl⟩ := hx1
            simp only [Prod.mk.injEq] at hx2
            obtain ⟨rfl, rfl, rfl⟩ := hx2
            (obtain ⟨hX0, hX1, hX2⟩ := hX.cells
             obtain ⟨hL0, hL1, hL2⟩ := hL.cells
             obtain ⟨hH0, hH1, hH2⟩ := hH.cells
             go_wp2
             go_roundw
             case rel =>
               refine ⟨3, by omega, rfl, true, true, ?_, ?_, ?_, hb, hA, hL, hH⟩
               · rw [or_one, or_two]
               · intro h0
                 exact absurd h0 (by decide)
               · intro h0
                 exact absurd h0 (by decide)
             case measure => simp [intY])
          · simp only [Prod.mk.injEq] at hx1
            obtain ⟨rfl, rfl, rfl⟩ := hx1
            rcases tri hx2 with h2 | ⟨rfl, h2⟩ | ⟨rfl, rfl, h2⟩ <;>
             (obtain ⟨hX0, hX1, hX2⟩ := hX.cells
              obtain ⟨hL0, hL1, hL2⟩ := hL.cells
              obtain ⟨hH0, hH1, hH2⟩ := hH.cells
              go_wp2
              go_roundw
              case rel =>
                refine ⟨3, by omega, rfl, true, b2, ?_, ?_, ?_, hb, hA, hL, hH⟩
                · rw [or_one]
                · intro h0
                  exact absurd h0 (by decide)
                · intro h0
                  exact not_take (k := 2) (by simp) (HS.out.2 h0) hx2
              case measure => simp [intY])
        · by_cases hx2 : (z11, o11, e11) = (z4, o4, e4)
          · simp only [Prod.mk.injEq] at hx2
            obtain ⟨rfl, rfl, rfl⟩ := hx2
            rcases tri hx1 with h1 | ⟨rfl, h1⟩ | ⟨rfl, rfl, h1⟩ <;>
             (obtain ⟨hX0, hX1, hX2⟩ := hX.cells
              obtain ⟨hL0, hL1, hL2⟩ := hL.cells
              obtain ⟨hH0, hH1, hH2⟩ := hH.cells
              go_wp2
              go_roundw
              case rel =>
                refine ⟨3, by omega, rfl, b1, true, ?_, ?_, ?_, hb, hA, hL, hH⟩
                · rw [or_two]
                · intro h0
                  exact not_take (k := 2) (by simp) (HS.out.1 h0) hx1
                · intro h0
                  exact absurd h0 (by decide)
              case measure => simp [intY])
          · rcases tri hx1 with h1 | ⟨rfl, h1⟩ | ⟨rfl, rfl, h1⟩ <;> rcases tri hx2 with h2 | ⟨rfl, h2⟩ | ⟨rfl, rfl, h2⟩ <;>
             (obtain ⟨hX0, hX1, hX2⟩ := hX.cells
              obtain ⟨hL0, hL1, hL2⟩ := hL.cells
              obtain ⟨hH0, hH1, hH2⟩ := hH.cells
              go_wp2
              go_roundw
              case rel =>
                refine ⟨3, by omega, rfl, b1, b2, ?_, ?_, ?_, hb, hA, hL, hH⟩
                · rfl
                · intro h0
                  exact not_take (k := 2) (by simp) (HS.out.1 h0) hx1
                · intro h0
                  exact not_take (k := 2) (by simp) (HS.out.2 h0) hx2
              case measure => simp [intY])
      · -- the end
        obtain ⟨rfl, rfl⟩ : b1 = true ∧ b2 = true := by
          refine ⟨?_, ?_⟩
          · cases b1 with
            | true => rfl
            | false => exact absurd HF.out.2.1 (HS.out.1 rfl)
          · cases b2 with
            | true => rfl
            | false => exact absurd HF.out.2.2.1 (HS.out.2 rfl)
        have hsn : seenI true true = 3 := rfl
        obtain ⟨z12, o12, e12, k12⟩ := df_some (nv false s d)
        obtain ⟨c3, hc3⟩ : ∃ c, sg (wv z12 o12) = c := ⟨_, rfl⟩
        have hge : decide (0 ≤ c3) = true := by
          rw [← hc3, dsg_form k12, sgn_nv]
          apply decide_eq_true
          rcases sg_cases (wv false s) with ⟨_, h8⟩ | ⟨h7, h8⟩ | ⟨_, h8⟩
          · omega
          · rw [wv_false] at h7; omega
          · omega
        have hsz := (df_exp k12 (k := 150) (by omega)).2
        have HE := Lib.hid (And.intro k12 hc3)
        clear k12 hc3
        obtain ⟨hA0, hA1, hA2⟩ := hA.cells
        go_wp2_with fail
        refine (yabs_any _ m s d (by omega) (by omega) z12 o12 e12 HE.out.1).mono ?_
        rintro e' V ⟨rfl, hq⟩
        replace hb := below_next hb hq
        clear hq hA0 hA1 hA2 hA hL hH
        go_wp2_with fail
        refine (ysign_any _ z12 o12 e12 (by omega) c3 HE.out.2).mono ?_
        rintro e' V2 ⟨rfl, hq⟩
        replace hb := below_next hb hq
        clear hq
        go_wp2_with fail
        refine (yawake_any _).mono ?_
        rintro e' V3 ⟨rfl, hq⟩
        replace hb := below_next hb hq
        go_wp2
        go_ret
        exact ⟨rfl, hb⟩
end Go.Proofs.YtmipcelnmmjplaaGreatDoor
