/- The document's answer for whole numbers: Form, Of, Sign, Neg, Plus, Sub, Cmp, Times, walked. -/
import Derived.Test.YtfgolecbchhokaaGreatDoorW2
import Derived.Test.YtfgolecbchhokaaGreatDoorG4
namespace Go.Proofs.YtfgolecbchhokaaGreatDoor
open Go.RowKit Go.Shelf

set_option maxRecDepth 100000 in
set_option maxHeartbeats 400000 in
theorem rform_any (w : World) (n : Bool) (s : ByteArray) (hs : s.size ≤ 1000000) (z : Bool) (o : ByteArray) (hz : wf (wv n s) = wi z o) :
    Calls Tryz.prog 77 #[wi n s] w (Ret (.agg #[.bool z, .string o]) w) := by
  show Calls _ _ _ _ (Ret (wi z o) w)
  rw [← hz]; clear hz
  have hw : wf (wv n s) = wi (n && decide (0 < num s)) (fb (num s)) := wf_sign n (num s)
  have he := fb_empty (num s)
  obtain ⟨d, hd⟩ : ∃ d, decide (num s = 0) = d := ⟨_, rfl⟩
  have hd2 : decide (0 < num s) = !d := by rw [← hd]; by_cases h : num s = 0 <;> simp [h]; omega
  obtain ⟨f, hf⟩ : ∃ f, fb (num s) = f := ⟨_, rfl⟩
  rw [hd, hf] at he
  rw [hw, hd2, hf]
  clear hw hd hd2
  unfold wi
  go_enter Tryz.func77, Tryz.ntmps77
  go_wp2_with fail
  obtain ⟨hA, hC, hb⟩ := blocks2 w #[Value.bool n, Value.string s] #[Value.bool false, Value.string { data := #[] }]
  generalize ((w.alloc (Obj.cells #[Value.bool n, Value.string s] 23)).alloc (Obj.cells #[Value.bool false, Value.string { data := #[] }] 23)) = W0 at *
  refine (bits_of_any _ s hs).mono ?_
  rintro e W ⟨ad, c, es, rfl, hbw, hbit, _, hv, hle, hq⟩
  replace hb := below_next hb hq
  replace hA := hA.below hq
  replace hC := hC.below hq
  clear hq
  go_wp2_with fail
  refine (textr_any _ ad c es.length es hbw rfl hbit (by omega)).mono ?_
  rintro e W2 ⟨rfl, hq⟩
  replace hb := below_next hb hq
  replace hA := hA.below hq
  replace hC := hC.below hq
  obtain ⟨hA0, hA1⟩ := hA.cells
  obtain ⟨hC0, hC1, hC2, hC3⟩ := hC.facts
  rw [hv, hf]
  clear hq hbw hbit hv hle hf hA
  cases n
  · go_wp2
    exact ret_whole rfl rfl (hC.set_ _ _) ⟨rfl, below_set2 hb (by omega) _ _ _ _⟩
  · cases d
    · go_wp2
      exact ret_whole rfl rfl (hC.set_ _ _) ⟨rfl, below_set2 hb (by omega) _ _ _ _⟩
    · go_wp2
      exact ret_whole rfl rfl (hC.set_ _ _) ⟨rfl, below_set2 hb (by omega) _ _ _ _⟩

set_option maxRecDepth 100000 in
set_option maxHeartbeats 400000 in
theorem rof_any (w : World) (n : Int) (h1 : -9223372036854775808 ≤ n) (h2 : n ≤ 9223372036854775807) (z : Bool) (o : ByteArray) (hz : wf (n) = wi z o) :
    Calls Tryz.prog 60 #[.int .i64 n] w (Ret (.agg #[.bool z, .string o]) w) := by
  obtain ⟨hz1, hz2⟩ := wi_inj hz
  clear hz
  subst hz1
  go_enter Tryz.func60, Tryz.ntmps60
  obtain ⟨hC, hb⟩ := blocks1 w #[Value.bool false, Value.string { data := #[] }]
  by_cases h : n < 0
  · have hd : decide (n < 0) = true := by simp [h]
    have ha1 : IntKind.i64.wrap (n + 1) = n + 1 := by rw [IntKind.wrap_i64]; omega
    have ha3 : IntKind.i64.wrap (-(n + 1)) = -(n + 1) := by rw [IntKind.wrap_i64]; omega
    have ha4 : IntKind.u64.wrap (-(n + 1)) = -(n + 1) := by rw [IntKind.wrap_u64]; omega
    have ha : IntKind.u64.wrap (-(n + 1) + 1) = (n.natAbs : Int) := by rw [IntKind.wrap_u64]; omega
    have ha2 : n.natAbs < B64 := by unfold B64; omega
    rw [hd]
    go_wp2_with fail
    generalize (w.alloc (Obj.cells #[Value.bool false, Value.string { data := #[] }] 23)) = W0 at *
    refine (ref_of _ n.natAbs ha2).mono ?_
    rw [hz2]
    rintro e W ⟨rfl, hq⟩
    replace hb := below_next hb hq
    replace hC := hC.below hq
    obtain ⟨hC0, hC1, hC2, hC3⟩ := hC.facts
    go_wp2
    exact ret_whole rfl rfl (hC.set_ _ _) ⟨rfl, below_set2 hb (by omega) _ _ _ _⟩
  · have hd : decide (n < 0) = false := by simp [h]
    have ha : n = (n.natAbs : Int) := by omega
    have ha2 : n.natAbs < B64 := by unfold B64; omega
    rw [hd]
    generalize n.natAbs = m at *
    subst ha
    go_wp2_with fail
    generalize (w.alloc (Obj.cells #[Value.bool false, Value.string { data := #[] }] 23)) = W0 at *
    refine (ref_of _ m ha2).mono ?_
    rw [hz2]
    rintro e W ⟨rfl, hq⟩
    replace hb := below_next hb hq
    replace hC := hC.below hq
    obtain ⟨hC0, hC1, hC2, hC3⟩ := hC.facts
    go_wp2
    exact ret_whole rfl rfl (hC.set_ _ _) ⟨rfl, below_set2 hb (by omega) _ _ _ _⟩

set_option maxRecDepth 100000 in
set_option maxHeartbeats 400000 in
theorem rsign_any (w : World) (n : Bool) (s : ByteArray) (hs : s.size ≤ 1000000) (c : Int) (hc : sg (wv n s) = c) :
    Calls Tryz.prog 68 #[wi n s] w (Ret (.int .i64 c) w) := by
  subst hc
  unfold wi
  go_enter Tryz.func68, Tryz.ntmps68
  go_wp2_with fail
  obtain ⟨hA, hb⟩ := blocks1 w #[Value.bool n, Value.string s]
  generalize (w.alloc (Obj.cells #[Value.bool n, Value.string s] 23)) = W0 at *
  refine (ref_len _ s hs).mono ?_
  rintro e W ⟨rfl, hq⟩
  replace hb := below_next hb hq
  replace hA := hA.below hq
  obtain ⟨hA0, hA1⟩ := hA.cells
  by_cases h0 : num s = 0
  · have hc : sg (wv n s) = 0 := by cases n <;> simp [sg, wv, h0]
    rw [h0, bl_zero]
    clear h0
    go_wp2
    go_ret
    exact ⟨by rw [hc]; rfl, hb⟩
  · have hbl : (((bl (num s) : Nat) : Int) == 0) = false := by simp; exact fun h => h0 (bl_pos.1 h)
    cases n
    · have hc : sg (wv false s) = 1 := by unfold sg; rw [wv_false, if_neg (by omega), if_neg (by omega)]
      go_wp2
      go_ret
      exact ⟨by rw [hc]; rfl, hb⟩
    · have hc : sg (wv true s) = -1 := by unfold sg; rw [wv_true, if_neg (by omega), if_pos (by omega)]
      go_wp2
      go_ret
      exact ⟨by rw [hc]; rfl, hb⟩

set_option maxRecDepth 100000 in
set_option maxHeartbeats 400000 in
theorem rneg_any (w : World) (n : Bool) (s : ByteArray) (hs : s.size ≤ 1000000) (z : Bool) (o : ByteArray) (hz : wf (-wv n s) = wi z o) :
    Calls Tryz.prog 88 #[wi n s] w (Ret (.agg #[.bool z, .string o]) w) := by
  rw [← wv_not] at hz
  have HZ := Lib.hid hz; clear hz
  unfold wi
  go_enter Tryz.func88, Tryz.ntmps88
  go_wp2_with fail
  obtain ⟨hA, hC, hb⟩ := blocks2 w #[Value.bool n, Value.string s] #[Value.bool false, Value.string { data := #[] }]
  generalize ((w.alloc (Obj.cells #[Value.bool n, Value.string s] 23)).alloc (Obj.cells #[Value.bool false, Value.string { data := #[] }] 23)) = W0 at *
  refine (rform_any _ (!n) s hs z o HZ.out).mono ?_
  rintro e W ⟨rfl, hq⟩
  replace hb := below_next hb hq
  replace hC := hC.below hq
  obtain ⟨hC0, hC1, hC2, hC3⟩ := hC.facts
  clear hq hA
  go_wp2
  exact ret_whole rfl rfl (hC.set_ _ _) ⟨rfl, below_set2 hb (by omega) _ _ _ _⟩
end Go.Proofs.YtfgolecbchhokaaGreatDoor
