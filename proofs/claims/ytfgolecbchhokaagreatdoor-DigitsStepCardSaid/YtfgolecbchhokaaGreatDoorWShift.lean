/- Package whole: Shift, walked. -/
import Derived.Test.YtfgolecbchhokaaGreatDoorWDiv
namespace Go.Proofs.YtfgolecbchhokaaGreatDoor
open Go.RowKit Go.Shelf

theorem sI_shl (n : Bool) (m j : Nat) : sI n m * ((2 ^ j : Nat) : Int) = sI n (m * 2 ^ j) := by
  cases n
  · simp only [sI, Bool.false_eq_true, if_false, Int.natCast_mul]
  · simp only [sI, if_true, Int.natCast_mul, Int.neg_mul]

set_option maxRecDepth 100000 in
set_option maxHeartbeats 400000 in
theorem wshift_up (w : World) (n : Bool) (s : ByteArray) (k : Nat) (hs : s.size ≤ 100000000) (hk : k ≤ 1000000) (z : Bool) (o : ByteArray) (hz : wf (wv n s * ((2 ^ k : Nat) : Int)) = wi z o) :
    Calls Tryz.prog 102 #[wi n s, .int .i64 k] w (Ret (.agg #[.bool z, .string o]) w) := by
  rw [wv_sI, sI_shl] at hz
  have HZ := Lib.hid hz; clear hz
  have hsh : fb (shlN (num s) (k : Int)) = fb (num s * 2 ^ k) := by rw [shl_nat]
  have HS := Lib.hid hsh; clear hsh
  unfold wi
  go_enter Tryz.func102, Tryz.ntmps102
  go_wp2_with fail
  obtain ⟨hA, hC, hb⟩ := blocks2 w #[Value.bool n, Value.string s] #[Value.bool false, Value.string { data := #[] }]
  generalize ((w.alloc (Obj.cells #[Value.bool n, Value.string s] 23)).alloc (Obj.cells #[Value.bool false, Value.string { data := #[] }] 23)) = W0 at *
  replace hC := hC.drew
  replace hb := hb.drew
  have hin := hA.drew.cells
  clear hA
  go_region_held3 (fun w' => w'.cell? ⟨w.heap.size, 0, none⟩ = some (.bool n) ∧ w'.cell? ⟨w.heap.size, 1, none⟩ = some (.string s))
    (first | assumption | exact held (by assumption) (by assumption) | exact held_set2 (by assumption) (by omega) | exact held_alloc (by assumption))
    (first
     | (go_at_call 139; refine (use_shl _ s _ _ hs (by omega) HS.out).mono ?_; rintro e W1 ⟨rfl, hq⟩; replace hb := below_next hb hq; replace hC := hC.below hq)
     | (go_at_call 78; refine (signed_any _ n _ (num s * 2 ^ k) z o rfl HZ.out).mono ?_; rintro e W2 ⟨rfl, hq⟩; replace hb := below_next hb hq; replace hC := hC.below hq; obtain ⟨hC0, hC1, hC2, hC3⟩ := hC.facts))
  go_wp2
  exact ret_whole rfl rfl (hC.set_ _ _) ⟨rfl, below_set2 hb (by omega) _ _ _ _⟩

set_option maxRecDepth 100000 in
set_option maxHeartbeats 400000 in
theorem wshift_down (w : World) (n : Bool) (s : ByteArray) (k : Int) (j : Nat) (hs : s.size ≤ 100000000) (hk : k < 0) (hk2 : -9223372036854775808 ≤ k) (hj : -max k (-9223372036854775807) = (j : Int)) (hm : n = true → num s % 2 ^ j = 0) (z : Bool) (o : ByteArray) (hz : wf (wv n s / ((2 ^ j : Nat) : Int)) = wi z o) :
    Calls Tryz.prog 102 #[wi n s, .int .i64 k] w (Ret (.agg #[.bool z, .string o]) w) := by
  rw [wv_sI, sI_shr n (num s) j hm] at hz
  obtain ⟨g, hg⟩ : ∃ g, sg (wv n s) = g := ⟨_, rfl⟩
  have hg2 : 0 ≤ g ∨ (g = -1 ∧ j ≤ tz (num s)) := by
    rw [← hg]
    rcases sg_cases (wv n s) with ⟨_, h⟩ | ⟨h, h'⟩ | ⟨_, h⟩
    · left; omega
    · right
      refine ⟨h', ?_⟩
      cases n
      · rw [wv_false] at h; omega
      · rw [wv_true] at h
        have h2 := tz_lt_iff (A := num s) (k := j) (by omega)
        have h3 := hm rfl
        rcases Nat.lt_or_ge (tz (num s)) j with h4 | h4
        · exact absurd h3 (h2.1 h4)
        · exact h4
    · left; omega
  have HG := Lib.hid hg; clear hg hm
  have HZ := Lib.hid hz; clear hz
  have hj2 : j ≤ 9223372036854775807 := by omega
  have hsr : fb (shrN (num s) (j : Int)) = fb (num s / 2 ^ j) := by rw [shr_nat]
  have HS := Lib.hid hsr; clear hsr
  unfold wi
  go_enter Tryz.func102, Tryz.ntmps102
  go_wp2_with fail
  obtain ⟨hA, hC, hb⟩ := blocks2 w #[Value.bool n, Value.string s] #[Value.bool false, Value.string { data := #[] }]
  generalize ((w.alloc (Obj.cells #[Value.bool n, Value.string s] 23)).alloc (Obj.cells #[Value.bool false, Value.string { data := #[] }] 23)) = W0 at *
  refine (use_shr _ s _ _ hs (by omega) HS.out).mono ?_
  rintro e W1 ⟨rfl, hq⟩
  replace hb := below_next hb hq
  replace hA := hA.below hq
  replace hC := hC.below hq
  obtain ⟨hA0, hA1⟩ := hA.cells
  clear hq
  clear hj
  go_wp2_with fail
  refine (wsign_any _ n s hs g HG.out).mono ?_
  rintro e W2 ⟨rfl, hq⟩
  replace hb := below_next hb hq
  replace hA := hA.below hq
  replace hC := hC.below hq
  clear hA0 hA1
  obtain ⟨hA0, hA1⟩ := hA.cells
  clear hq
  obtain ⟨y, hy⟩ : ∃ y : Nat, tz (num s) = y := ⟨_, rfl⟩
  rw [hy] at hg2
  have hy' : ((tz (num s) : Nat) : Int) = (y : Int) := by rw [hy]
  have HY := Lib.hid hy'; clear hy hy'
  rcases hg2 with hg2 | ⟨rfl, hg2⟩
  · go_wp2_with fail
    refine (signed_any _ n _ (num s / 2 ^ j) z o rfl HZ.out).mono ?_
    rintro e W4 ⟨rfl, hq⟩
    replace hb := below_next hb hq
    replace hC := hC.below hq
    obtain ⟨hC0, hC1, hC2, hC3⟩ := hC.facts
    clear hq
    go_wp2
    exact ret_whole rfl rfl (hC.set_ _ _) ⟨rfl, below_set2 hb (by omega) _ _ _ _⟩
  · go_wp2_with fail
    refine (use_zeros _ s _ hs HY.out).mono ?_
    rintro e W3 ⟨rfl, hq⟩
    replace hb := below_next hb hq
    replace hA := hA.below hq
    replace hC := hC.below hq
    clear hA0 hA1
    obtain ⟨hA0, hA1⟩ := hA.cells
    clear hq
    go_wp2_with fail
    refine (signed_any _ n _ (num s / 2 ^ j) z o rfl HZ.out).mono ?_
    rintro e W4 ⟨rfl, hq⟩
    replace hb := below_next hb hq
    replace hC := hC.below hq
    obtain ⟨hC0, hC1, hC2, hC3⟩ := hC.facts
    clear hq
    go_wp2
    exact ret_whole rfl rfl (hC.set_ _ _) ⟨rfl, below_set2 hb (by omega) _ _ _ _⟩

set_option maxRecDepth 100000 in
set_option maxHeartbeats 400000 in
theorem wshift_next (w : World) (s : ByteArray) (k : Int) (j : Nat) (hs : s.size ≤ 1000000) (hk : k < 0) (hk2 : -9223372036854775808 ≤ k) (hj : -max k (-9223372036854775807) = (j : Int)) (hm : num s % 2 ^ j ≠ 0) (z : Bool) (o : ByteArray) (hz : wf (wv true s / ((2 ^ j : Nat) : Int)) = wi z o) :
    Calls Tryz.prog 102 #[wi true s, .int .i64 k] w (Ret (.agg #[.bool z, .string o]) w) := by
  rw [wv_sI, sI_shr_next (num s) j hm] at hz
  have hpos : 0 < num s := by
    rcases Nat.eq_zero_or_pos (num s) with h | h
    · rw [h, Nat.zero_mod] at hm; exact absurd rfl hm
    · exact h
  have hg2 : tz (num s) < j := (tz_lt_iff hpos).2 hm
  have hg : sg (wv true s) = -1 := by unfold sg; rw [wv_true, if_neg (by omega), if_pos (by omega)]
  obtain ⟨Q, hQ, nQ, sQ⟩ := nm (Nat.lt_of_le_of_lt (Nat.div_le_self (num s) (2 ^ j)) (num_lt s))
  have hn : fb (num Q + 1) = fb (num s / 2 ^ j + 1) := by rw [nQ]
  have HN := Lib.hid hn; clear hn
  have HG := Lib.hid hg; clear hg hm hpos
  have HZ := Lib.hid hz; clear hz
  have hj2 : j ≤ 9223372036854775807 := by omega
  have hsr : fb (shrN (num s) (j : Int)) = Q := by rw [shr_nat, hQ]
  clear hQ nQ
  have HS := Lib.hid hsr; clear hsr
  unfold wi
  go_enter Tryz.func102, Tryz.ntmps102
  go_wp2_with fail
  obtain ⟨hA, hC, hb⟩ := blocks2 w #[Value.bool true, Value.string s] #[Value.bool false, Value.string { data := #[] }]
  generalize ((w.alloc (Obj.cells #[Value.bool true, Value.string s] 23)).alloc (Obj.cells #[Value.bool false, Value.string { data := #[] }] 23)) = W0 at *
  refine (use_shr _ s _ _ (by omega) (by omega) HS.out).mono ?_
  rintro e W1 ⟨rfl, hq⟩
  replace hb := below_next hb hq
  replace hA := hA.below hq
  replace hC := hC.below hq
  obtain ⟨hA0, hA1⟩ := hA.cells
  clear hq
  clear hj
  go_wp2_with fail
  refine (wsign_any _ true s (by omega) _ HG.out).mono ?_
  rintro e W2 ⟨rfl, hq⟩
  replace hb := below_next hb hq
  replace hA := hA.below hq
  replace hC := hC.below hq
  clear hA0 hA1
  obtain ⟨hA0, hA1⟩ := hA.cells
  clear hq
  obtain ⟨y, hy⟩ : ∃ y : Nat, tz (num s) = y := ⟨_, rfl⟩
  rw [hy] at hg2
  have hy' : ((tz (num s) : Nat) : Int) = (y : Int) := by rw [hy]
  have HY := Lib.hid hy'; clear hy hy'
  go_wp2_with fail
  refine (use_zeros _ s _ (by omega) HY.out).mono ?_
  rintro e W3 ⟨rfl, hq⟩
  replace hb := below_next hb hq
  replace hA := hA.below hq
  replace hC := hC.below hq
  clear hA0 hA1
  obtain ⟨hA0, hA1⟩ := hA.cells
  clear hq
  go_wp2_with fail
  refine (next_any _ Q (by omega) _ HN.out).mono ?_
  rintro e W5 ⟨rfl, hq⟩
  replace hb := below_next hb hq
  replace hA := hA.below hq
  replace hC := hC.below hq
  clear hA0 hA1
  obtain ⟨hA0, hA1⟩ := hA.cells
  clear hq
  go_wp2_with fail
  refine (signed_any _ true _ (num s / 2 ^ j + 1) z o rfl HZ.out).mono ?_
  rintro e W4 ⟨rfl, hq⟩
  replace hb := below_next hb hq
  replace hC := hC.below hq
  obtain ⟨hC0, hC1, hC2, hC3⟩ := hC.facts
  clear hq
  go_wp2
  exact ret_whole rfl rfl (hC.set_ _ _) ⟨rfl, below_set2 hb (by omega) _ _ _ _⟩
theorem ediv_far {z : Int} {K a b : Nat} (h : z.natAbs < 2 ^ K) (ha : K ≤ a) (hb : K ≤ b) : z / ((2 ^ a : Nat) : Int) = z / ((2 ^ b : Nat) : Int) := by
  rw [ediv_small (Nat.lt_of_lt_of_le h (Nat.pow_le_pow_right (by omega) ha)), ediv_small (Nat.lt_of_lt_of_le h (Nat.pow_le_pow_right (by omega) hb))]
/-- Shift, whatever the sign and the number. -/
theorem wshift_any (w : World) (n : Bool) (s : ByteArray) (k : Int) (hs : s.size ≤ 1000000) (hk1 : -9223372036854775808 ≤ k) (hk2 : k ≤ 1000000) (z : Bool) (o : ByteArray) (hz : wf (shiftI (wv n s) k) = wi z o) :
    Calls Tryz.prog 102 #[wi n s, .int .i64 k] w (Ret (.agg #[.bool z, .string o]) w) := by
  unfold shiftI at hz
  by_cases h : 0 ≤ k
  · rw [if_pos h] at hz
    obtain ⟨m, rfl⟩ : ∃ m : Nat, k = (m : Int) := ⟨k.toNat, by omega⟩
    rw [Int.toNat_natCast] at hz
    exact wshift_up w n s m (by omega) (by omega) z o hz
  · rw [if_neg h] at hz
    obtain ⟨j, hj⟩ : ∃ j : Nat, -max k (-9223372036854775807) = (j : Int) := ⟨(-max k (-9223372036854775807)).toNat, by omega⟩
    have hz2 : wf (wv n s / ((2 ^ j : Nat) : Int)) = wi z o := by
      rw [← hz]
      by_cases hk : -9223372036854775807 ≤ k
      · have e : j = (-k).toNat := by omega
        rw [e]
      · have hb : (wv n s).natAbs < 2 ^ (8 * s.size) := by
          rw [wv_abs, Nat.pow_mul]
          exact num_lt s
        rw [ediv_far hb (a := j) (b := (-k).toNat) (by omega) (by omega)]
    by_cases hm : n = true → num s % 2 ^ j = 0
    · exact wshift_down w n s k j (by omega) (by omega) hk1 hj hm z o hz2
    · cases n
      · exact absurd (fun h => by cases h) hm
      · exact wshift_next w s k j hs (by omega) hk1 hj (fun h' => hm fun _ => h') z o hz2
end Go.Proofs.YtfgolecbchhokaaGreatDoor
