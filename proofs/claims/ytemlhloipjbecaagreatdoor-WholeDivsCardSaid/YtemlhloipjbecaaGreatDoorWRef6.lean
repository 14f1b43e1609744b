/- The document's answer for whole numbers: Div with a rest that is turned, of a divisor above 0, walked. -/
import Derived.Test.YtemlhloipjbecaaGreatDoorWRef4
namespace Go.Proofs.YtemlhloipjbecaaGreatDoor
open Go.RowKit Go.Shelf

set_option maxRecDepth 100000 in
set_option maxHeartbeats 1600000 in
theorem rdiv_next_false (w : World) (s t : ByteArray) (hs : s.size ≤ 100000) (ht : t.size ≤ 100000) (h0 : num t ≠ 0) (h1 : num s % num t ≠ 0) (z1 : Bool) (o1 : ByteArray) (hz1 : wf (wv true s / wv false t) = wi z1 o1) (z2 : Bool) (o2 : ByteArray) (hz2 : wf (wv true s % wv false t) = wi z2 o2) :
    Calls Tryz.prog 34 #[wi true s, wi false t] w (Ret (.tuple #[.agg #[.bool z1, .string o1], .agg #[.bool z2, .string o2], .bool true]) w) := by
  obtain ⟨e1, e2⟩ := sI_div_next false (num s) (num t) (by omega) h1
  rw [wv_sI, wv_sI] at hz1 hz2
  rw [e1] at hz1
  rw [e2] at hz2
  have hmod := Nat.mod_lt (num s) (Nat.pos_of_ne_zero h0)
  obtain ⟨Q, hQ, nQ, sQ⟩ := nm (Nat.lt_of_le_of_lt (Nat.div_le_self (num s) (num t)) (num_lt s))
  obtain ⟨R, hR, nR, sR⟩ := nm (Nat.lt_trans hmod (num_lt t))
  have hd := divV_some (A := num s) h0
  rw [hQ, hR] at hd
  obtain ⟨zq, oq, eq, vq, sq⟩ := form_nmw true Q (k := 100000) (by omega)
  obtain ⟨zr, or, er, vr, sr⟩ := form_nmw true R (k := 100000) (by omega)
  have hx : sg (wv zr or) = -1 := by
    rw [vr, wv_true, nR]
    rcases sg_cases (-((num s % num t : Nat) : Int)) with ⟨_, h⟩ | ⟨_, h⟩ | ⟨_, h⟩ <;> omega
  have f1 : wf (wv zr or + wv false t) = wi z2 o2 := by
    rw [← hz2, vr, wv_true, wv_false, nR]
    congr 1
    omega
  have f2 : wf (wv zq oq + -1) = wi z1 o1 := by
    rw [← hz1, vq, wv_sI, nQ]
    have h9 : -((num s / num t : Nat) : Int) + -1 = -((num s / num t + 1 : Nat) : Int) := by omega
    exact congrArg wf h9
  have hy : sg (wv false t) = 1 := by
    have hp : 0 < num t := Nat.pos_of_ne_zero h0
    show sg (((num t : Nat) : Int)) = _
    rcases sg_cases ((num t : Nat) : Int) with ⟨_, h⟩ | ⟨_, h⟩ | ⟨_, h⟩ <;> omega
  have HD := Lib.hid (And.intro hd (And.intro eq (And.intro er (And.intro hx (And.intro f1 (And.intro f2 hy)))))); clear hd eq er hx f1 f2 hy hz1 hz2 e1 e2 hQ hR nQ nR vq vr h1 hmod
  unfold wi
  go_enter Tryz.func34, Tryz.ntmps34
  go_wp2_with fail
  obtain ⟨hA, hB, hC, hD, hb⟩ := blocks4 w #[Value.bool true, Value.string s] #[Value.bool false, Value.string t] #[Value.bool false, Value.string { data := #[] }] #[Value.bool false, Value.string { data := #[] }]
  generalize ((((w.alloc (Obj.cells #[Value.bool true, Value.string s] 23)).alloc (Obj.cells #[Value.bool false, Value.string t] 23)).alloc (Obj.cells #[Value.bool false, Value.string { data := #[] }] 23)).alloc (Obj.cells #[Value.bool false, Value.string { data := #[] }] 23)) = W0 at *
  refine (ref_div _ s t (by omega) (by omega)).mono ?_
  rw [HD.out.1]
  rintro e W ⟨rfl, hq⟩
  replace hb := below_next hb hq
  replace hA := hA.below hq
  replace hB := hB.below hq
  replace hC := hC.below hq
  replace hD := hD.below hq
  clear hq 
  obtain ⟨hA0, hA1⟩ := hA.cells
  obtain ⟨hB0, hB1⟩ := hB.cells
  go_wp2_with fail
  refine (rform_any _ true Q (by omega) zq oq HD.out.2.1).mono ?_
  rintro e W1 ⟨rfl, hq⟩
  replace hb := below_next hb hq
  replace hA := hA.below hq
  replace hB := hB.below hq
  replace hC := hC.below hq
  replace hD := hD.below hq
  clear hq hA0 hA1 hB0 hB1
  have l1 := hC.lt
  have l2 := hD.lt
  have hQ := Bk.new W1 #[Value.bool zq, Value.string oq]
  replace hb := hb.alloc hb.size (Obj.cells #[Value.bool zq, Value.string oq] 23)
  replace hA := hA.alloc (Obj.cells #[Value.bool zq, Value.string oq] 23)
  replace hB := hB.alloc (Obj.cells #[Value.bool zq, Value.string oq] 23)
  replace hC := hC.alloc (Obj.cells #[Value.bool zq, Value.string oq] 23)
  replace hD := hD.alloc (Obj.cells #[Value.bool zq, Value.string oq] 23)
  obtain ⟨hA0, hA1⟩ := hA.cells
  obtain ⟨hB0, hB1⟩ := hB.cells
  go_wp2_with fail
  generalize (W1.alloc (Obj.cells #[Value.bool zq, Value.string oq] 23)) = V1 at *
  refine (rform_any _ true R (by omega) zr or HD.out.2.2.1).mono ?_
  rintro e W2 ⟨rfl, hq⟩
  replace hb := below_next hb hq
  replace hA := hA.below hq
  replace hB := hB.below hq
  replace hC := hC.below hq
  replace hD := hD.below hq
  replace hQ := hQ.below hq
  clear hq hA0 hA1 hB0 hB1
  have l3 := hC.lt
  have l4 := hD.lt
  have l5 := hQ.lt
  have l6 := hB.lt
  have hR := Bk.new W2 #[Value.bool zr, Value.string or]
  replace hb := hb.alloc hb.size (Obj.cells #[Value.bool zr, Value.string or] 23)
  replace hA := hA.alloc (Obj.cells #[Value.bool zr, Value.string or] 23)
  replace hB := hB.alloc (Obj.cells #[Value.bool zr, Value.string or] 23)
  replace hC := hC.alloc (Obj.cells #[Value.bool zr, Value.string or] 23)
  replace hD := hD.alloc (Obj.cells #[Value.bool zr, Value.string or] 23)
  replace hQ := hQ.alloc (Obj.cells #[Value.bool zr, Value.string or] 23)
  obtain ⟨hA0, hA1⟩ := hA.cells
  obtain ⟨hB0, hB1⟩ := hB.cells
  obtain ⟨hQ0, hQ1⟩ := hQ.cells
  go_wp2_with fail
  generalize (W2.alloc (Obj.cells #[Value.bool zr, Value.string or] 23)) = V2 at *
  refine (rsign_any _ zr or (by omega) (-1) HD.out.2.2.2.1).mono ?_
  rintro e W3 ⟨rfl, hq⟩
  replace hb := below_next hb hq
  replace hB := hB.below hq
  replace hC := hC.below hq
  replace hD := hD.below hq
  replace hQ := hQ.below hq
  replace hR := hR.below hq
  clear hq hA0 hA1 hB0 hB1 hQ0 hQ1
  have l7 := hR.lt
  obtain ⟨hB0, hB1⟩ := hB.cells
  obtain ⟨hR0, hR1⟩ := hR.cells
  go_wp2_with fail
  refine (rplus_any _ zr false or t (by omega) (by omega) z2 o2 HD.out.2.2.2.2.1).mono ?_
  rintro e W4 ⟨rfl, hq⟩
  replace hb := below_next hb hq
  replace hB := hB.below hq
  replace hC := hC.below hq
  replace hD := hD.below hq
  replace hQ := hQ.below hq
  replace hR := hR.below hq
  clear hq hB0 hB1 hR0 hR1
  obtain ⟨hR0, hR1, hR2, hR3⟩ := hR.facts
  go_wp2_with fail
  clear hR0 hR1 hR2 hR3
  replace hB := (hB.far (p := ⟨W2.heap.size, 0, none⟩) (by show w.heap.size + 1 ≠ W2.heap.size; omega) (.bool z2)).far (p := ⟨W2.heap.size, 1, none⟩) (by show w.heap.size + 1 ≠ W2.heap.size; omega) (.string o2)
  replace hC := (hC.far (p := ⟨W2.heap.size, 0, none⟩) (by show w.heap.size + 1 + 1 ≠ W2.heap.size; omega) (.bool z2)).far (p := ⟨W2.heap.size, 1, none⟩) (by show w.heap.size + 1 + 1 ≠ W2.heap.size; omega) (.string o2)
  replace hD := (hD.far (p := ⟨W2.heap.size, 0, none⟩) (by show w.heap.size + 1 + 1 + 1 ≠ W2.heap.size; omega) (.bool z2)).far (p := ⟨W2.heap.size, 1, none⟩) (by show w.heap.size + 1 + 1 + 1 ≠ W2.heap.size; omega) (.string o2)
  replace hQ := (hQ.far (p := ⟨W2.heap.size, 0, none⟩) (by show W1.heap.size ≠ W2.heap.size; omega) (.bool z2)).far (p := ⟨W2.heap.size, 1, none⟩) (by show W1.heap.size ≠ W2.heap.size; omega) (.string o2)
  replace hR := hR.set_ (.bool z2) (.string o2)
  replace hb := below_set2 hb (by omega : w.heap.size ≤ W2.heap.size) 0 1 (.bool z2) (.string o2)
  generalize ((W4.setCell { block := W2.heap.size, off := 0 } (Value.bool z2)).setCell { block := W2.heap.size, off := 1 } (Value.string o2)) = V4 at *
  refine (rof_any _ (-1) (by omega) (by omega) true ⟨#[1]⟩ (by kernel_rfl)).mono ?_
  rintro e W5 ⟨rfl, hq⟩
  replace hb := below_next hb hq
  replace hB := hB.below hq
  replace hC := hC.below hq
  replace hD := hD.below hq
  replace hQ := hQ.below hq
  replace hR := hR.below hq
  clear hq 
  have m1 := hC.lt
  have m2 := hD.lt
  have m3 := hQ.lt
  have m4 := hR.lt
  have hX := Bk.new W5 #[Value.bool true, Value.string ⟨#[1]⟩]
  replace hb := hb.alloc hb.size (Obj.cells #[Value.bool true, Value.string ⟨#[1]⟩] 23)
  replace hB := hB.alloc (Obj.cells #[Value.bool true, Value.string ⟨#[1]⟩] 23)
  replace hC := hC.alloc (Obj.cells #[Value.bool true, Value.string ⟨#[1]⟩] 23)
  replace hD := hD.alloc (Obj.cells #[Value.bool true, Value.string ⟨#[1]⟩] 23)
  replace hQ := hQ.alloc (Obj.cells #[Value.bool true, Value.string ⟨#[1]⟩] 23)
  replace hR := hR.alloc (Obj.cells #[Value.bool true, Value.string ⟨#[1]⟩] 23)
  obtain ⟨hB0, hB1⟩ := hB.cells
  go_wp2_with fail
  generalize (W5.alloc (Obj.cells #[Value.bool true, Value.string { data := #[1] }] 23)) = V5 at *
  refine (rsign_any _ false t (by omega) (1) HD.out.2.2.2.2.2.2).mono ?_
  rintro e W6 ⟨rfl, hq⟩
  replace hb := below_next hb hq
  replace hC := hC.below hq
  replace hD := hD.below hq
  replace hQ := hQ.below hq
  replace hR := hR.below hq
  replace hX := hX.below hq
  clear hq hB0 hB1
  obtain ⟨hQ0, hQ1⟩ := hQ.cells
  obtain ⟨hX0, hX1⟩ := hX.cells
  go_wp2_with fail
  clear hQ0 hQ1 hX0 hX1 hX
  refine (rplus_any _ zq true oq ⟨#[1]⟩ (by omega) (by decide) z1 o1 HD.out.2.2.2.2.2.1).mono ?_
  rintro e W8 ⟨rfl, hq⟩
  replace hb := below_next hb hq
  replace hC := hC.below hq
  replace hD := hD.below hq
  replace hQ := hQ.below hq
  replace hR := hR.below hq
  clear hq 
  obtain ⟨hQ0, hQ1, hQ2, hQ3⟩ := hQ.facts
  go_wp2_with fail
  clear hQ0 hQ1 hQ2 hQ3
  replace hC := (hC.far (p := ⟨W1.heap.size, 0, none⟩) (by show w.heap.size + 1 + 1 ≠ W1.heap.size; omega) (.bool z1)).far (p := ⟨W1.heap.size, 1, none⟩) (by show w.heap.size + 1 + 1 ≠ W1.heap.size; omega) (.string o1)
  replace hD := (hD.far (p := ⟨W1.heap.size, 0, none⟩) (by show w.heap.size + 1 + 1 + 1 ≠ W1.heap.size; omega) (.bool z1)).far (p := ⟨W1.heap.size, 1, none⟩) (by show w.heap.size + 1 + 1 + 1 ≠ W1.heap.size; omega) (.string o1)
  replace hR := (hR.far (p := ⟨W1.heap.size, 0, none⟩) (by show W2.heap.size ≠ W1.heap.size; omega) (.bool z1)).far (p := ⟨W1.heap.size, 1, none⟩) (by show W2.heap.size ≠ W1.heap.size; omega) (.string o1)
  replace hQ := hQ.set_ (.bool z1) (.string o1)
  replace hb := below_set2 hb (by omega : w.heap.size ≤ W1.heap.size) 0 1 (.bool z1) (.string o1)
  generalize ((W8.setCell { block := W1.heap.size, off := 0 } (Value.bool z1)).setCell { block := W1.heap.size, off := 1 } (Value.string o1)) = V8 at *
  obtain ⟨hC0, hC1, hC2, hC3⟩ := hC.facts
  obtain ⟨hD0, hD1, hD2, hD3⟩ := hD.facts
  have hin := And.intro hQ.drew.cells hR.drew.cells
  clear HD
  go_region_held3 (fun w' => (w'.cell? ⟨W1.heap.size, 0, none⟩ = some (.bool z1) ∧ w'.cell? ⟨W1.heap.size, 1, none⟩ = some (.string o1)) ∧ (w'.cell? ⟨W2.heap.size, 0, none⟩ = some (.bool z2) ∧ w'.cell? ⟨W2.heap.size, 1, none⟩ = some (.string o2)))
    (first | exact hin | exact s2 (by assumption) (by omega))
    (first | fail)
  go_wp2
  obtain ⟨k1, k2⟩ := two_set hC hD (by omega) (.bool z1) (.string o1) (.bool z2) (.string o2)
  exact ret_two rfl rfl rfl rfl k1.drew k2.drew ⟨rfl, (below_set4 hb (by omega) (by omega) _ _ _ _).drew⟩

set_option maxRecDepth 100000 in
set_option maxHeartbeats 800000 in
theorem rdiv_none (w : World) (m n : Bool) (s t : ByteArray) (hs : s.size ≤ 100000) (ht : t.size ≤ 100000) (h0 : wv n t = 0) :
    Calls Tryz.prog 34 #[wi m s, wi n t] w (Ret (.tuple #[.agg #[.bool false, .string ⟨#[]⟩], .agg #[.bool false, .string ⟨#[]⟩], .bool false]) w) := by
  have hd := divV_zero (A := num s) (sI_zero_iff.1 ((wv_sI n t).symm.trans h0))
  have HD := Lib.hid hd; clear hd h0
  unfold wi
  go_enter Tryz.func34, Tryz.ntmps34
  go_wp2_with fail
  obtain ⟨hA, hB, hC, hD, hb⟩ := blocks4 w #[Value.bool m, Value.string s] #[Value.bool n, Value.string t] #[Value.bool false, Value.string { data := #[] }] #[Value.bool false, Value.string { data := #[] }]
  generalize ((((w.alloc (Obj.cells #[Value.bool m, Value.string s] 23)).alloc (Obj.cells #[Value.bool n, Value.string t] 23)).alloc (Obj.cells #[Value.bool false, Value.string { data := #[] }] 23)).alloc (Obj.cells #[Value.bool false, Value.string { data := #[] }] 23)) = W0 at *
  refine (ref_div _ s t (by omega) (by omega)).mono ?_
  rw [HD.out]
  rintro e W ⟨rfl, hq⟩
  replace hb := below_next hb hq
  replace hC := hC.below hq
  replace hD := hD.below hq
  clear hq 
  obtain ⟨hC0, hC1, hC2, hC3⟩ := hC.facts
  obtain ⟨hD0, hD1, hD2, hD3⟩ := hD.facts
  clear hA hB
  go_wp2
  obtain ⟨k1, k2⟩ := two_set hC hD (by omega) _ _ _ _
  exact ret_two rfl rfl rfl rfl k1 k2 ⟨rfl, below_set4 hb (by omega) (by omega) _ _ _ _⟩
end Go.Proofs.YtemlhloipjbecaaGreatDoor
