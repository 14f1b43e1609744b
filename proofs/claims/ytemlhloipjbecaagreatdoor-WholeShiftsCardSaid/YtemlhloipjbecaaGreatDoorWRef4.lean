/- The document's answer for whole numbers: Div, walked. -/
import Derived.Test.YtemlhloipjbecaaGreatDoorWRef3
import Derived.Test.YtemlhloipjbecaaGreatDoorWDiv
namespace Go.Proofs.YtemlhloipjbecaaGreatDoor
open Go.RowKit Go.Shelf

theorem wv_of_wf {x : Int} {z : Bool} {o : ByteArray} (h : wf x = wi z o) : wv z o = x := by
  obtain ⟨h1, h2⟩ := wi_inj h
  rw [← h1, ← h2, sI_fb]
  unfold sI
  by_cases hx : x < 0
  · rw [decide_eq_true hx]; simp; omega
  · rw [decide_eq_false hx]; simp; omega

set_option maxRecDepth 100000 in
set_option maxHeartbeats 1600000 in
theorem rdiv_plain (w : World) (m n : Bool) (s t : ByteArray) (hs : s.size ≤ 100000) (ht : t.size ≤ 100000) (h0 : num t ≠ 0) (h1 : m = true → num s % num t = 0) (z1 : Bool) (o1 : ByteArray) (hz1 : wf (wv m s / wv n t) = wi z1 o1) (z2 : Bool) (o2 : ByteArray) (hz2 : wf (wv m s % wv n t) = wi z2 o2) :
    Calls Tryz.prog 34 #[wi m s, wi n t] w (Ret (.tuple #[.agg #[.bool z1, .string o1], .agg #[.bool z2, .string o2], .bool true]) w) := by
  obtain ⟨e1, e2⟩ := sI_div_plain m n (num s) (num t) (by omega) h1
  rw [wv_sI, wv_sI] at hz1 hz2
  rw [e1] at hz1
  rw [e2] at hz2
  obtain ⟨Q, hQ, nQ, sQ⟩ := nm (Nat.lt_of_le_of_lt (Nat.div_le_self (num s) (num t)) (num_lt s))
  obtain ⟨R, hR, nR, sR⟩ := nm (Nat.lt_trans (Nat.mod_lt (num s) (Nat.pos_of_ne_zero h0)) (num_lt t))
  have hd := divV_some (A := num s) h0
  rw [hQ, hR] at hd
  have f1 : wf (wv (m != n) Q) = wi z1 o1 := by rw [wv_sI, nQ]; exact hz1
  have f2 : wf (wv m R) = wi z2 o2 := by
    rw [wv_sI, nR, ← hz2]
    congr 1
    cases m
    · rfl
    · rw [h1 rfl]; rfl
  obtain ⟨x, hx⟩ : ∃ x, sg (wv z2 o2) = x := ⟨_, rfl⟩
  have hx0 : decide (x < 0) = false := by
    apply decide_eq_false
    have hw : wv z2 o2 = ((num s % num t : Nat) : Int) := wv_of_wf hz2
    rw [← hx, hw]
    rcases sg_cases ((num s % num t : Nat) : Int) with ⟨_, h⟩ | ⟨_, h⟩ | ⟨_, h⟩ <;> omega
  have so2 : o2.size ≤ 100000 := by
    obtain ⟨_, h4⟩ := wi_inj hz2
    rw [← h4]
    exact Nat.le_trans (fb_size_le (k := t.size) (by have := Nat.mod_lt (num s) (Nat.pos_of_ne_zero h0); have := num_lt t; omega)) ht
  have HD := Lib.hid (And.intro hd (And.intro f1 (And.intro f2 hx))); clear hd f1 f2 hx hz1 hz2 e1 e2 hQ hR nQ nR h1
  unfold wi
  go_enter Tryz.func34, Tryz.ntmps34
  go_wp2_with fail
  obtain ⟨hA, hB, hC, hD, hb⟩ := blocks4 w #[Value.bool m, Value.string s] #[Value.bool n, Value.string t] #[Value.bool false, Value.string { data := #[] }] #[Value.bool false, Value.string { data := #[] }]
  generalize ((((w.alloc (Obj.cells #[Value.bool m, Value.string s] 23)).alloc (Obj.cells #[Value.bool n, Value.string t] 23)).alloc (Obj.cells #[Value.bool false, Value.string { data := #[] }] 23)).alloc (Obj.cells #[Value.bool false, Value.string { data := #[] }] 23)) = W0 at *
  refine (ref_div _ s t (by omega) (by omega)).mono ?_
  rw [HD.out.1]
  rintro e W ⟨rfl, hq⟩
  replace hb := below_next hb hq
  replace hA := hA.below hq
  replace hB := hB.below hq
  replace hC := hC.below hq
  replace hD := hD.below hq
  clear hq 
  obtain ⟨hA0, hA1⟩ := hA.cells
  obtain ⟨hB0, hB1⟩ := hB.cells
  go_wp2_with fail
  refine (rform_any _ (!(m == n)) Q (by omega) z1 o1 HD.out.2.1).mono ?_
  rintro e W1 ⟨rfl, hq⟩
  replace hb := below_next hb hq
  replace hA := hA.below hq
  replace hB := hB.below hq
  replace hC := hC.below hq
  replace hD := hD.below hq
  clear hq hA0 hA1 hB0 hB1
  have l1 := hC.lt
  have l2 := hD.lt
  have hQ := Bk.new W1 #[Value.bool z1, Value.string o1]
  replace hb := hb.alloc hb.size (Obj.cells #[Value.bool z1, Value.string o1] 23)
  replace hA := hA.alloc (Obj.cells #[Value.bool z1, Value.string o1] 23)
  replace hB := hB.alloc (Obj.cells #[Value.bool z1, Value.string o1] 23)
  replace hC := hC.alloc (Obj.cells #[Value.bool z1, Value.string o1] 23)
  replace hD := hD.alloc (Obj.cells #[Value.bool z1, Value.string o1] 23)
  obtain ⟨hA0, hA1⟩ := hA.cells
  obtain ⟨hB0, hB1⟩ := hB.cells
  go_wp2_with fail
  generalize (W1.alloc (Obj.cells #[Value.bool z1, Value.string o1] 23)) = V1 at *
  refine (rform_any _ m R (by omega) z2 o2 HD.out.2.2.1).mono ?_
  rintro e W2 ⟨rfl, hq⟩
  replace hb := below_next hb hq
  replace hA := hA.below hq
  replace hB := hB.below hq
  replace hC := hC.below hq
  replace hD := hD.below hq
  replace hQ := hQ.below hq
  clear hq hA0 hA1 hB0 hB1
  have l3 := hC.lt
  have l4 := hD.lt
  have hR := Bk.new W2 #[Value.bool z2, Value.string o2]
  replace hb := hb.alloc hb.size (Obj.cells #[Value.bool z2, Value.string o2] 23)
  replace hA := hA.alloc (Obj.cells #[Value.bool z2, Value.string o2] 23)
  replace hB := hB.alloc (Obj.cells #[Value.bool z2, Value.string o2] 23)
  replace hC := hC.alloc (Obj.cells #[Value.bool z2, Value.string o2] 23)
  replace hD := hD.alloc (Obj.cells #[Value.bool z2, Value.string o2] 23)
  replace hQ := hQ.alloc (Obj.cells #[Value.bool z2, Value.string o2] 23)
  obtain ⟨hA0, hA1⟩ := hA.cells
  obtain ⟨hB0, hB1⟩ := hB.cells
  obtain ⟨hQ0, hQ1⟩ := hQ.cells
  go_wp2_with fail
  generalize (W2.alloc (Obj.cells #[Value.bool z2, Value.string o2] 23)) = V2 at *
  refine (rsign_any _ z2 o2 (by omega) x HD.out.2.2.2).mono ?_
  rintro e W3 ⟨rfl, hq⟩
  replace hb := below_next hb hq
  replace hC := hC.below hq
  replace hD := hD.below hq
  replace hQ := hQ.below hq
  replace hR := hR.below hq
  clear hq hA0 hA1 hB0 hB1 hQ0 hQ1
  obtain ⟨hQ0, hQ1⟩ := hQ.cells
  obtain ⟨hR0, hR1⟩ := hR.cells
  obtain ⟨hC0, hC1, hC2, hC3⟩ := hC.facts
  obtain ⟨hD0, hD1, hD2, hD3⟩ := hD.facts
  have hin := And.intro hQ.drew.cells hR.drew.cells
  clear HD hQ0 hQ1 hR0 hR1
  go_wp2_with fail
  go_region_held3 (fun w' => (w'.cell? ⟨W1.heap.size, 0, none⟩ = some (.bool z1) ∧ w'.cell? ⟨W1.heap.size, 1, none⟩ = some (.string o1)) ∧ (w'.cell? ⟨W2.heap.size, 0, none⟩ = some (.bool z2) ∧ w'.cell? ⟨W2.heap.size, 1, none⟩ = some (.string o2)))
    (first | exact hin | exact s2 (by assumption) (by omega))
    (first | fail)
  go_wp2
  obtain ⟨k1, k2⟩ := two_set hC hD (by omega) (.bool z1) (.string o1) (.bool z2) (.string o2)
  exact ret_two rfl rfl rfl rfl k1.drew k2.drew ⟨rfl, (below_set4 hb (by omega) (by omega) _ _ _ _).drew⟩
end Go.Proofs.YtemlhloipjbecaaGreatDoor
