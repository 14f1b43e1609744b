/- Package whole: Div, walked. -/
import Derived.Test.YtfgolecbchhokaaGreatDoorW2
namespace Go.Proofs.YtfgolecbchhokaaGreatDoor
open Go.RowKit Go.Shelf

theorem divV_zero {A B : Nat} (h : B = 0) : divV A B = .tuple #[.string ⟨#[]⟩, .string ⟨#[]⟩, .bool false] := by unfold divV; rw [if_pos h, fb_zero]
theorem divV_some {A B : Nat} (h : B ≠ 0) : divV A B = .tuple #[.string (fb (A / B)), .string (fb (A % B)), .bool true] := by unfold divV; rw [if_neg h]
theorem sI_zero_iff {n : Bool} {m : Nat} : sI n m = 0 ↔ m = 0 := by cases n <;> simp [sI]
/-- Div's three answers. -/
def W3 (a : Bool) (s : ByteArray) (b : Bool) (t : ByteArray) (ok : Bool) : Value := .tuple #[wi a s, wi b t, .bool ok]

set_option maxRecDepth 100000 in
set_option maxHeartbeats 400000 in
theorem wdiv_none (w : World) (m n : Bool) (s t : ByteArray) (hs : s.size ≤ 100000) (ht : t.size ≤ 100000) (h0 : wv n t = 0) :
    Calls Tryz.prog 105 #[wi m s, wi n t] w (Ret (.tuple #[.agg #[.bool false, .string ⟨#[]⟩], .agg #[.bool false, .string ⟨#[]⟩], .bool false]) w) := by
  have hd := divV_zero (A := num s) (sI_zero_iff.1 ((wv_sI n t).symm.trans h0))
  have HD := Lib.hid hd; clear hd h0
  unfold wi
  go_enter Tryz.func105, Tryz.ntmps105
  go_wp2_with fail
  obtain ⟨hA, hB, hC, hD, hb⟩ := blocks4 w #[Value.bool m, Value.string s] #[Value.bool n, Value.string t] #[Value.bool false, Value.string { data := #[] }] #[Value.bool false, Value.string { data := #[] }]
  generalize ((((w.alloc (Obj.cells #[Value.bool m, Value.string s] 23)).alloc (Obj.cells #[Value.bool n, Value.string t] 23)).alloc (Obj.cells #[Value.bool false, Value.string { data := #[] }] 23)).alloc (Obj.cells #[Value.bool false, Value.string { data := #[] }] 23)) = W0 at *
  refine (use_div _ s t _ (by omega) (by omega) HD.out).mono ?_
  rintro e W1 ⟨rfl, hq⟩
  replace hb := below_next hb hq
  replace hA := hA.below hq
  replace hB := hB.below hq
  replace hC := hC.below hq
  replace hD := hD.below hq
  obtain ⟨hC0, hC1, hC2, hC3⟩ := hC.facts
  obtain ⟨hD0, hD1, hD2, hD3⟩ := hD.facts
  clear hq
  go_wp2
  obtain ⟨k1, k2⟩ := two_set hC hD (by omega) _ _ _ _
  exact ret_two rfl rfl rfl rfl k1 k2 ⟨rfl, below_set4 hb (by omega) (by omega) _ _ _ _⟩

set_option maxRecDepth 100000 in
set_option maxHeartbeats 400000 in
theorem wdiv_plain (w : World) (m n : Bool) (s t : ByteArray) (hs : s.size ≤ 100000) (ht : t.size ≤ 100000) (h0 : num t ≠ 0) (h1 : m = true → num s % num t = 0)
    (z1 : Bool) (o1 : ByteArray) (hz1 : wf (wv m s / wv n t) = wi z1 o1) (z2 : Bool) (o2 : ByteArray) (hz2 : wf (wv m s % wv n t) = wi z2 o2) :
    Calls Tryz.prog 105 #[wi m s, wi n t] w (Ret (.tuple #[.agg #[.bool z1, .string o1], .agg #[.bool z2, .string o2], .bool true]) w) := by
  obtain ⟨e1, e2⟩ := sI_div_plain m n (num s) (num t) (by omega) h1
  rw [wv_sI, wv_sI] at hz1 hz2
  rw [e1] at hz1
  rw [e2, wf_nat] at hz2
  obtain ⟨hz3, hz4⟩ := wi_inj hz2
  have hem := fb_empty (num s % num t)
  rw [hz4] at hem
  subst hz3
  have hm : m = true → o2.toList.isEmpty = true := fun h => by rw [hem, decide_eq_true (h1 h)]
  have hd := divV_some (A := num s) h0
  rw [hz4] at hd
  have HD := Lib.hid hd
  have HZ := Lib.hid hz1
  clear hd hz1 hz2 hz4 hem e1 e2 h1
  unfold wi
  go_enter Tryz.func105, Tryz.ntmps105
  go_wp2_with fail
  obtain ⟨hA, hB, hC, hD, hb⟩ := blocks4 w #[Value.bool m, Value.string s] #[Value.bool n, Value.string t] #[Value.bool false, Value.string { data := #[] }] #[Value.bool false, Value.string { data := #[] }]
  generalize ((((w.alloc (Obj.cells #[Value.bool m, Value.string s] 23)).alloc (Obj.cells #[Value.bool n, Value.string t] 23)).alloc (Obj.cells #[Value.bool false, Value.string { data := #[] }] 23)).alloc (Obj.cells #[Value.bool false, Value.string { data := #[] }] 23)) = W0 at *
  refine (use_div _ s t _ (by omega) (by omega) HD.out).mono ?_
  rintro e W1 ⟨rfl, hq⟩
  replace hb := below_next hb hq
  replace hA := hA.below hq
  replace hB := hB.below hq
  replace hC := hC.below hq
  replace hD := hD.below hq
  obtain ⟨hA0, hA1⟩ := hA.cells
  obtain ⟨hB0, hB1⟩ := hB.cells
  clear hq
  cases m
  · clear hm
    rw [show (false != n) = n by cases n <;> rfl] at HZ
    go_wp2_with fail
    refine (signed_any _ n _ (num s / num t) z1 o1 rfl HZ.out).mono ?_
    rintro e W2 ⟨rfl, hq⟩
    replace hb := below_next hb hq
    replace hC := hC.below hq
    replace hD := hD.below hq
    clear hA0 hA1 hB0 hB1 hA hB
    obtain ⟨hC0, hC1, hC2, hC3⟩ := hC.facts
    obtain ⟨hD0, hD1, hD2, hD3⟩ := hD.facts
    clear hq
    go_wp2
    obtain ⟨k1, k2⟩ := two_set hC hD (by omega) _ _ _ _
    exact ret_two rfl rfl rfl rfl k1 k2 ⟨rfl, below_set4 hb (by omega) (by omega) _ _ _ _⟩
  · have hm := hm rfl
    rw [show (true != n) = !n by cases n <;> rfl] at HZ
    go_wp2_with fail
    refine (signed_any _ (!n) _ (num s / num t) z1 o1 rfl HZ.out).mono ?_
    rintro e W2 ⟨rfl, hq⟩
    replace hb := below_next hb hq
    replace hC := hC.below hq
    replace hD := hD.below hq
    clear hA0 hA1 hB0 hB1 hA hB
    obtain ⟨hC0, hC1, hC2, hC3⟩ := hC.facts
    obtain ⟨hD0, hD1, hD2, hD3⟩ := hD.facts
    clear hq
    go_wp2
    obtain ⟨k1, k2⟩ := two_set hC hD (by omega) _ _ _ _
    exact ret_two rfl rfl rfl rfl k1 k2 ⟨rfl, below_set4 hb (by omega) (by omega) _ _ _ _⟩

set_option maxRecDepth 100000 in
set_option maxHeartbeats 400000 in
theorem wdiv_next (w : World) (n : Bool) (s t : ByteArray) (hs : s.size ≤ 100000) (ht : t.size ≤ 100000) (h0 : num t ≠ 0) (h1 : num s % num t ≠ 0)
    (z1 : Bool) (o1 : ByteArray) (hz1 : wf (wv true s / wv n t) = wi z1 o1) (z2 : Bool) (o2 : ByteArray) (hz2 : wf (wv true s % wv n t) = wi z2 o2) :
    Calls Tryz.prog 105 #[wi true s, wi n t] w (Ret (.tuple #[.agg #[.bool z1, .string o1], .agg #[.bool z2, .string o2], .bool true]) w) := by
  obtain ⟨e1, e2⟩ := sI_div_next n (num s) (num t) (by omega) h1
  rw [wv_sI, wv_sI] at hz1 hz2
  rw [e1] at hz1
  rw [e2, wf_nat] at hz2
  obtain ⟨hz3, hz4⟩ := wi_inj hz2
  have hem := fb_empty (num s % num t)
  rw [decide_eq_false h1] at hem
  subst hz3
  have hd := divV_some (A := num s) h0
  have hlt := Nat.mod_lt (num s) (Nat.pos_of_ne_zero h0)
  have hle := Nat.div_le_self (num s) (num t)
  obtain ⟨Q, hQ, nQ, sQ⟩ := nm (Nat.lt_of_le_of_lt hle (num_lt s))
  obtain ⟨R, hR, nR, sR⟩ := nm (Nat.lt_trans hlt (num_lt t))
  rw [hQ, hR] at hd
  rw [hR] at hem
  have hn : fb (num Q + 1) = fb (num s / num t + 1) := by rw [nQ]
  have hsub : fb (num t - num R) = o2 := by rw [nR]; exact hz4
  have hok : decide (num R ≤ num t) = true := by rw [nR]; simp; omega
  rw [show (true != n) = !n by cases n <;> rfl] at hz1
  have HD := Lib.hid hd
  have HZ := Lib.hid hz1
  have HN := Lib.hid (And.intro hn (And.intro hsub hok))
  clear hd hz1 hz2 hz4 e1 e2 h1 hn hsub hok hlt hle hQ hR nQ nR
  unfold wi
  go_enter Tryz.func105, Tryz.ntmps105
  go_wp2_with fail
  obtain ⟨hA, hB, hC, hD, hb⟩ := blocks4 w #[Value.bool true, Value.string s] #[Value.bool n, Value.string t] #[Value.bool false, Value.string { data := #[] }] #[Value.bool false, Value.string { data := #[] }]
  generalize ((((w.alloc (Obj.cells #[Value.bool true, Value.string s] 23)).alloc (Obj.cells #[Value.bool n, Value.string t] 23)).alloc (Obj.cells #[Value.bool false, Value.string { data := #[] }] 23)).alloc (Obj.cells #[Value.bool false, Value.string { data := #[] }] 23)) = W0 at *
  refine (use_div _ s t _ (by omega) (by omega) HD.out).mono ?_
  rintro e W1 ⟨rfl, hq⟩
  replace hb := below_next hb hq
  replace hA := hA.below hq
  replace hB := hB.below hq
  replace hC := hC.below hq
  replace hD := hD.below hq
  obtain ⟨hA0, hA1⟩ := hA.cells
  obtain ⟨hB0, hB1⟩ := hB.cells
  clear hq
  go_wp2_with fail
  refine (next_any _ Q (by omega) _ HN.out.1).mono ?_
  rintro e W2 ⟨rfl, hq⟩
  replace hb := below_next hb hq
  replace hA := hA.below hq
  replace hB := hB.below hq
  replace hC := hC.below hq
  replace hD := hD.below hq
  clear hA0 hA1 hB0 hB1
  obtain ⟨hA0, hA1⟩ := hA.cells
  obtain ⟨hB0, hB1⟩ := hB.cells
  clear hq
  go_wp2_with fail
  refine (use_sub _ t R o2 true (by omega) (by omega) HN.out.2.1 HN.out.2.2).mono ?_
  rintro e W3 ⟨rfl, hq⟩
  replace hb := below_next hb hq
  replace hA := hA.below hq
  replace hB := hB.below hq
  replace hC := hC.below hq
  replace hD := hD.below hq
  clear hA0 hA1 hB0 hB1
  obtain ⟨hA0, hA1⟩ := hA.cells
  obtain ⟨hB0, hB1⟩ := hB.cells
  clear hq
  go_wp2_with fail
  refine (signed_any _ (!n) _ (num s / num t + 1) z1 o1 rfl HZ.out).mono ?_
  rintro e W2 ⟨rfl, hq⟩
  replace hb := below_next hb hq
  replace hC := hC.below hq
  replace hD := hD.below hq
  clear hA0 hA1 hB0 hB1 hA hB
  obtain ⟨hC0, hC1, hC2, hC3⟩ := hC.facts
  obtain ⟨hD0, hD1, hD2, hD3⟩ := hD.facts
  clear hq
  go_wp2
  obtain ⟨k1, k2⟩ := two_set hC hD (by omega) _ _ _ _
  exact ret_two rfl rfl rfl rfl k1 k2 ⟨rfl, below_set4 hb (by omega) (by omega) _ _ _ _⟩

/-- Div, whatever the divisor but 0. -/
theorem wdiv_any (w : World) (m n : Bool) (s t : ByteArray) (hs : s.size ≤ 100000) (ht : t.size ≤ 100000) (h0 : wv n t ≠ 0)
    (z1 : Bool) (o1 : ByteArray) (hz1 : wf (wv m s / wv n t) = wi z1 o1) (z2 : Bool) (o2 : ByteArray) (hz2 : wf (wv m s % wv n t) = wi z2 o2) :
    Calls Tryz.prog 105 #[wi m s, wi n t] w (Ret (.tuple #[.agg #[.bool z1, .string o1], .agg #[.bool z2, .string o2], .bool true]) w) := by
  have h0' : num t ≠ 0 := fun h => h0 ((wv_sI n t).trans (sI_zero_iff.2 h))
  by_cases h : m = true → num s % num t = 0
  · exact wdiv_plain w m n s t hs ht h0' h z1 o1 hz1 z2 o2 hz2
  · cases m
    · exact absurd (fun h => by cases h) h
    · exact wdiv_next w n s t hs ht h0' (fun h' => h fun _ => h') z1 o1 hz1 z2 o2 hz2
end Go.Proofs.YtfgolecbchhokaaGreatDoor
