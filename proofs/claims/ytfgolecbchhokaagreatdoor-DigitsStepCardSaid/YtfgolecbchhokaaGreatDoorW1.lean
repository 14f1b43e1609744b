/- Package whole: signed, next, Of, Form, Neg, Sign, walked. -/
import Derived.Test.YtfgolecbchhokaaGreatDoorWMem
namespace Go.Proofs.YtfgolecbchhokaaGreatDoor
open Go.RowKit Go.Shelf

set_option maxRecDepth 100000 in
set_option maxHeartbeats 400000 in
theorem signed_any (w : World) (n : Bool) (s : ByteArray) (m : Nat) (z : Bool) (o : ByteArray) (hs : fb m = s) (hz : wf (sI n m) = wi z o) :
    Calls Tryz.prog 78 #[.bool n, .string s] w (Ret (.agg #[.bool z, .string o]) w) := by
  show Calls _ _ _ _ (Ret (wi z o) w)
  rw [← hz]
  clear hz
  have hw : wf (sI n m) = wi (n && decide (0 < m)) (fb m) := wf_sign n m
  have he := fb_empty m
  rw [hs] at hw he
  obtain ⟨e, hd⟩ : ∃ e, decide (m = 0) = e := ⟨_, rfl⟩
  have hd2 : decide (0 < m) = !e := by rw [← hd]; by_cases h : m = 0 <;> simp [h]; omega
  rw [hd] at he
  rw [hw, hd2]
  clear hw hd hd2 hs
  go_enter Tryz.func78, Tryz.ntmps78
  cases n
  · go_wp2
    exact ret_whole rfl rfl (Bk.new _ _) ⟨rfl, (blocks1 w _).2⟩
  · cases e
    · go_wp2
      exact ret_whole rfl rfl (Bk.new _ _) ⟨rfl, (blocks1 w _).2⟩
    · go_wp2
      exact ret_whole rfl rfl (Bk.new _ _) ⟨rfl, (blocks1 w _).2⟩

set_option maxRecDepth 100000 in
set_option maxHeartbeats 400000 in
theorem next_any (w : World) (s : ByteArray) (hs : s.size ≤ 1000000) (o : ByteArray) (ho : fb (num s + 1) = o) :
    Calls Tryz.prog 140 #[.string s] w (Ret (.string o) w) := by
  have hb := Below.refl w.heap.size w
  go_enter Tryz.func140, Tryz.ntmps140
  go_wp2_with fail
  refine (use_of _ ⟨#[1]⟩ 1 (by unfold B64; omega) (by kernel_rfl)).mono ?_
  rintro e W ⟨rfl, hq⟩
  replace hb := below_next hb hq; clear hq
  go_wp2_with fail
  refine (use_add _ s ⟨#[1]⟩ o hs (by decide) (by rw [show num ⟨#[1]⟩ = 1 from by kernel_rfl, ho])).mono ?_
  rintro e W ⟨rfl, hq⟩
  replace hb := below_next hb hq; clear hq
  go_wp2
  go_ret
  exact ⟨rfl, hb⟩

set_option maxRecDepth 100000 in
set_option maxHeartbeats 400000 in
theorem wform_any (w : World) (n : Bool) (s : ByteArray) (hs : s.size ≤ 100000000) (z : Bool) (o : ByteArray) (hz : wf (wv n s) = wi z o) :
    Calls Tryz.prog 21 #[wi n s] w (Ret (.agg #[.bool z, .string o]) w) := by
  unfold wi
  go_enter Tryz.func21, Tryz.ntmps21
  go_wp2_with fail
  obtain ⟨hin, hr, hb⟩ := blocks2 w #[Value.bool n, Value.string s] #[Value.bool false, Value.string { data := #[] }]
  generalize ((w.alloc (Obj.cells #[Value.bool n, Value.string s] 23)).alloc (Obj.cells #[Value.bool false, Value.string { data := #[] }] 23)) = W0 at *
  replace hin := hin.drew.cells
  replace hr := hr.drew
  replace hb := hb.drew
  have HZ := Lib.hid hz; clear hz
  go_region_held3 (fun w' => w'.cell? ⟨w.heap.size, 0, none⟩ = some (.bool n) ∧ w'.cell? ⟨w.heap.size, 1, none⟩ = some (.string s))
    (first | assumption | exact held (by assumption) (by assumption) | exact held_set2 (by assumption) (by omega))
    (first
     | (go_at_call 79; refine (use_trim _ s _ hs rfl).mono ?_; rintro e W1 ⟨rfl, hq⟩; replace hb := below_next hb hq; replace hr := hr.below hq)
     | (go_at_call 78; refine (signed_any _ n _ (num s) z o rfl HZ.out).mono ?_; rintro e W2 ⟨rfl, hq⟩; replace hb := below_next hb hq; replace hr := hr.below hq; obtain ⟨hr0, hr1, hr2, hr3⟩ := hr.facts))
  go_wp2
  exact ret_whole rfl rfl (hr.set_ _ _) ⟨rfl, below_set2 hb (by omega) _ _ _ _⟩

set_option maxRecDepth 100000 in
set_option maxHeartbeats 400000 in
theorem wneg_any (w : World) (n : Bool) (s : ByteArray) (hs : s.size ≤ 100000000) (z : Bool) (o : ByteArray) (hz : wf (-wv n s) = wi z o) :
    Calls Tryz.prog 71 #[wi n s] w (Ret (.agg #[.bool z, .string o]) w) := by
  unfold wi
  go_enter Tryz.func71, Tryz.ntmps71
  go_wp2_with fail
  obtain ⟨hin, hr, hb⟩ := blocks2 w #[Value.bool n, Value.string s] #[Value.bool false, Value.string { data := #[] }]
  generalize ((w.alloc (Obj.cells #[Value.bool n, Value.string s] 23)).alloc (Obj.cells #[Value.bool false, Value.string { data := #[] }] 23)) = W0 at *
  replace hin := hin.drew.cells
  replace hr := hr.drew
  replace hb := hb.drew
  have HZ := Lib.hid hz; clear hz
  go_region_held3 (fun w' => w'.cell? ⟨w.heap.size, 0, none⟩ = some (.bool n) ∧ w'.cell? ⟨w.heap.size, 1, none⟩ = some (.string s))
    (first | assumption | exact held (by assumption) (by assumption) | exact held_set2 (by assumption) (by omega))
    (first
     | (go_at_call 79; refine (use_trim _ s _ hs rfl).mono ?_; rintro e W1 ⟨rfl, hq⟩; replace hb := below_next hb hq; replace hr := hr.below hq)
     | (go_at_call 78; refine (signed_any _ (!n) _ (num s) z o rfl (by rw [sI_not]; exact HZ.out)).mono ?_; rintro e W2 ⟨rfl, hq⟩; replace hb := below_next hb hq; replace hr := hr.below hq; obtain ⟨hr0, hr1, hr2, hr3⟩ := hr.facts))
  go_wp2
  exact ret_whole rfl rfl (hr.set_ _ _) ⟨rfl, below_set2 hb (by omega) _ _ _ _⟩

set_option maxRecDepth 100000 in
set_option maxHeartbeats 400000 in
theorem wof_any (w : World) (n : Int) (h1 : -9223372036854775808 ≤ n) (h2 : n ≤ 9223372036854775807) (z : Bool) (o : ByteArray) (hz : wf n = wi z o) :
    Calls Tryz.prog 26 #[.int .i64 n] w (Ret (.agg #[.bool z, .string o]) w) := by
  obtain ⟨hz1, hz2⟩ := wi_inj hz
  clear hz
  have HZ := Lib.hid hz2; clear hz2
  subst hz1
  go_enter Tryz.func26, Tryz.ntmps26
  obtain ⟨hr, hb⟩ := blocks1 w #[Value.bool false, Value.string { data := #[] }]
  by_cases h : n < 0
  · have hd : decide (n < 0) = true := by simp [h]
    have ha : IntKind.u64.wrap (-IntKind.u64.wrap n) = (n.natAbs : Int) := by rw [IntKind.wrap_u64, IntKind.wrap_u64]; omega
    have ha2 : n.natAbs < B64 := by unfold B64; omega
    rw [hd]
    go_wp2_with fail
    generalize (w.alloc (Obj.cells #[Value.bool false, Value.string { data := #[] }] 23)) = W0 at *
    refine (use_of _ o n.natAbs ha2 HZ.out).mono ?_
    rintro e W ⟨rfl, hq⟩
    replace hb := below_next hb hq
    replace hr := hr.below hq
    obtain ⟨hr0, hr1, hr2, hr3⟩ := hr.facts
    go_wp2
    exact ret_whole rfl rfl (hr.set_ _ _) ⟨rfl, below_set2 hb (by omega) _ _ _ _⟩
  · have hd : decide (n < 0) = false := by simp [h]
    have ha : n = (n.natAbs : Int) := by omega
    have ha2 : n.natAbs < B64 := by unfold B64; omega
    rw [hd]
    generalize n.natAbs = m at *
    subst ha
    go_wp2_with fail
    generalize (w.alloc (Obj.cells #[Value.bool false, Value.string { data := #[] }] 23)) = W0 at *
    refine (use_of _ o m ha2 HZ.out).mono ?_
    rintro e W ⟨rfl, hq⟩
    replace hb := below_next hb hq
    replace hr := hr.below hq
    obtain ⟨hr0, hr1, hr2, hr3⟩ := hr.facts
    go_wp2
    exact ret_whole rfl rfl (hr.set_ _ _) ⟨rfl, below_set2 hb (by omega) _ _ _ _⟩

set_option maxRecDepth 100000 in
set_option maxHeartbeats 400000 in
theorem wsign_any (w : World) (n : Bool) (s : ByteArray) (hs : s.size ≤ 100000000) (c : Int) (hc : sg (wv n s) = c) :
    Calls Tryz.prog 23 #[wi n s] w (Ret (.int .i64 c) w) := by
  subst hc
  unfold wi
  obtain ⟨hin, hb⟩ := blocks1 w #[Value.bool n, Value.string s]
  go_enter Tryz.func23, Tryz.ntmps23
  go_wp2_with fail
  generalize (w.alloc (Obj.cells #[Value.bool n, Value.string s] 23)) = W0 at *
  refine (use_len _ s _ hs rfl).mono ?_
  rintro e W ⟨rfl, hq⟩
  replace hb := below_next hb hq
  have hin2 := (hin.below hq).cells
  obtain ⟨hin3, hin4⟩ := hin2
  by_cases h0 : num s = 0
  · have hc : sg (wv n s) = 0 := by cases n <;> simp [sg, wv, h0]
    rw [h0, bl_zero]
    clear h0
    go_wp2
    go_ret
    exact ⟨by rw [hc]; rfl, hb⟩
  · have hbl : (((bl (num s) : Nat) : Int) == 0) = false := by simp; exact fun h => h0 (bl_pos.1 h)
    cases n
    · have hc : sg (wv false s) = 1 := by unfold sg; rw [wv_false, if_neg (by omega), if_neg (by omega)]
      go_wp2
      go_ret
      exact ⟨by rw [hc]; rfl, hb⟩
    · have hc : sg (wv true s) = -1 := by unfold sg; rw [wv_true, if_neg (by omega), if_pos (by omega)]
      go_wp2
      go_ret
      exact ⟨by rw [hc]; rfl, hb⟩
end Go.Proofs.YtfgolecbchhokaaGreatDoor
