/- Package whole: Cmp, Div, Shift, walked. -/
import Derived.Test.YtfgolecbchhokaaGreatDoorW1
namespace Go.Proofs.YtfgolecbchhokaaGreatDoor
open Go.RowKit Go.Shelf

theorem sg_cases (z : Int) : (z = 0 ∧ sg z = 0) ∨ (z < 0 ∧ sg z = -1) ∨ (0 < z ∧ sg z = 1) := by
  unfold sg
  by_cases h0 : z = 0
  · exact .inl ⟨h0, by rw [if_pos h0]⟩
  · by_cases h1 : z < 0
    · exact .inr (.inl ⟨h1, by rw [if_neg h0, if_pos h1]⟩)
    · exact .inr (.inr ⟨by omega, by rw [if_neg h0, if_neg h1]⟩)
theorem cmpN_cases (A B : Nat) : (A = B ∧ cmpN A B = 0) ∨ (A < B ∧ cmpN A B = -1) ∨ (B < A ∧ cmpN A B = 1) := by
  unfold cmpN
  by_cases h0 : A < B
  · exact .inr (.inl ⟨h0, by rw [if_pos h0]⟩)
  · by_cases h1 : B < A
    · exact .inr (.inr ⟨h1, by rw [if_neg h0, if_pos h1]⟩)
    · exact .inl ⟨by omega, by rw [if_neg h0, if_neg h1]⟩
theorem sg_less {y z : Int} (h : sg y ≠ sg z) : sg (y - z) = if sg y < sg z then -1 else 1 := by
  rcases sg_cases y with ⟨a, b⟩ | ⟨a, b⟩ | ⟨a, b⟩ <;> rcases sg_cases z with ⟨c, d⟩ | ⟨c, d⟩ | ⟨c, d⟩ <;> rcases sg_cases (y - z) with ⟨e, f⟩ | ⟨e, f⟩ | ⟨e, f⟩ <;>
    first | (exfalso; omega) | (rw [b, d, f]; rfl)
theorem sg_same (m n : Bool) (A B : Nat) (h : sg (sI m A) = sg (sI n B)) : sg (sI m A - sI n B) = sg (sI m A) * cmpN A B := by
  rcases sg_cases (sI m A) with ⟨a, b⟩ | ⟨a, b⟩ | ⟨a, b⟩ <;> rcases sg_cases (sI n B) with ⟨c, d⟩ | ⟨c, d⟩ | ⟨c, d⟩ <;> rcases sg_cases (sI m A - sI n B) with ⟨e, f⟩ | ⟨e, f⟩ | ⟨e, f⟩ <;>
    rcases cmpN_cases A B with ⟨g, i⟩ | ⟨g, i⟩ | ⟨g, i⟩ <;> rw [b, d] at h <;>
    first | (exfalso; revert h; decide) | (rw [b, f, i]; rfl) | (exfalso; clear h b d f i; cases m <;> cases n <;> simp only [sI, if_true, if_false, Bool.false_eq_true] at a c e <;> omega)

set_option maxRecDepth 100000 in
set_option maxHeartbeats 400000 in
theorem wcmp_any (w : World) (m n : Bool) (s t : ByteArray) (hs : s.size ≤ 100000000) (ht : t.size ≤ 100000000) (c : Int) (hc : sg (wv m s - wv n t) = c) :
    Calls Tryz.prog 22 #[wi m s, wi n t] w (Ret (.int .i64 c) w) := by
  have HC := Lib.hid hc; clear hc
  unfold wi
  go_enter Tryz.func22, Tryz.ntmps22
  go_wp2_with fail
  obtain ⟨hA, hB, hb⟩ := blocks2 w #[Value.bool m, Value.string s] #[Value.bool n, Value.string t]
  generalize ((w.alloc (Obj.cells #[Value.bool m, Value.string s] 23)).alloc (Obj.cells #[Value.bool n, Value.string t] 23)) = W0 at *
  obtain ⟨g, hg⟩ : ∃ g, sg (wv m s) = g := ⟨_, rfl⟩
  obtain ⟨k, hk⟩ : ∃ k, sg (wv n t) = k := ⟨_, rfl⟩
  have hg2 : g = 0 ∨ g = -1 ∨ g = 1 := by rw [← hg]; rcases sg_cases (wv m s) with ⟨_, h⟩ | ⟨_, h⟩ | ⟨_, h⟩ <;> rw [h] <;> omega
  have hk2 : -1 ≤ k ∧ k ≤ 1 := by rw [← hk]; rcases sg_cases (wv n t) with ⟨_, h⟩ | ⟨_, h⟩ | ⟨_, h⟩ <;> rw [h] <;> omega
  have HG := Lib.hid hg; clear hg
  have HK := Lib.hid hk; clear hk
  refine (wsign_any _ m s hs g HG.out).mono ?_
  rintro e W1 ⟨rfl, hq⟩
  replace hb := below_next hb hq
  replace hA := hA.below hq
  replace hB := hB.below hq
  obtain ⟨hA0, hA1⟩ := hA.cells
  obtain ⟨hB0, hB1⟩ := hB.cells
  clear hq
  go_wp2_with fail
  refine (wsign_any _ n t ht k HK.out).mono ?_
  rintro e W2 ⟨rfl, hq⟩
  replace hb := below_next hb hq
  replace hA := hA.below hq
  replace hB := hB.below hq
  clear hA0 hA1 hB0 hB1
  obtain ⟨hA0, hA1⟩ := hA.cells
  obtain ⟨hB0, hB1⟩ := hB.cells
  clear hq
  by_cases he : g = k
  · subst he
    have hr := sg_same m n (num s) (num t) (HG.out.trans HK.out.symm)
    rw [← wv_sI, ← wv_sI, HC.out, HG.out] at hr
    obtain ⟨d, hd⟩ : ∃ d, cmpN (num s) (num t) = d := ⟨_, rfl⟩
    rw [hd] at hr
    have hd2 : -1 ≤ d ∧ d ≤ 1 := by rw [← hd]; rcases cmpN_cases (num s) (num t) with ⟨_, h⟩ | ⟨_, h⟩ | ⟨_, h⟩ <;> rw [h] <;> omega
    have HD := Lib.hid hd; clear hd
    have HR := Lib.hid hr; clear hr
    rcases hg2 with rfl | rfl | rfl
    all_goals
      go_wp2_with fail
      refine (use_cmp _ s t d HD.out).mono ?_
      rintro e W ⟨rfl, hq⟩
      replace hb := below_next hb hq; clear hq
      go_wp2
      go_ret
      refine ⟨?_, hb⟩
      rw [HR.out]
      first | rfl | simp
  · have hne : sg (wv m s) ≠ sg (wv n t) := by rw [HG.out, HK.out]; exact he
    have hr := sg_less hne
    rw [HC.out, HG.out, HK.out] at hr
    have HR := Lib.hid hr; clear hr hne
    go_wp2_with fail
    refine (Tryz.cmp_Compare_int g k _).mono ?_
    rintro e W ⟨rfl, rfl⟩
    have hcc : Lib.compareInt g k = c := by
      unfold Lib.compareInt
      rw [HR.out]
      by_cases hgk : g < k
      · rw [if_pos hgk, if_pos hgk]
      · rw [if_neg hgk, if_neg hgk, if_pos (by omega)]
    go_wp2
    go_ret
    exact ⟨rfl, hb⟩
end Go.Proofs.YtfgolecbchhokaaGreatDoor
