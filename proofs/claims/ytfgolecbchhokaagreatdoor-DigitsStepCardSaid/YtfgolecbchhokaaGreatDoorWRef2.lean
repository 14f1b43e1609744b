/- The document's answer for whole numbers: Plus, Sub, Cmp, Times, walked. -/
import Derived.Test.YtfgolecbchhokaaGreatDoorWRef1
import Derived.Test.YtfgolecbchhokaaGreatDoorWNum2
import Derived.Test.YtfgolecbchhokaaGreatDoorWHeld
import Derived.Deep.DeepFit
namespace Go.Proofs.YtfgolecbchhokaaGreatDoor
open Go.RowKit Go.Shelf

theorem ref_add2 (w : World) (a b r : ByteArray) (ha : a.size ≤ 1000000) (hb : b.size ≤ 1000000) (hr : fb (num a + num b) = r) :
    Calls Tryz.prog 74 #[.slice (some ⟨w.heap.size, 0, none⟩) 2 2] (w.alloc (.cells #[.string a, .string b] 9)) (Ret (.string r) (w.alloc (.cells #[.string a, .string b] 9))) := by
  have hR := Rw.new w 9 [.string a, .string b]
  refine (ref_add _ (some ⟨w.heap.size, 0, none⟩) [a, b] 2 2 rfl (by omega) (fun s h => by simp at h; rcases h with h | h <;> (rw [h]; assumption)) (fun i h => ?_)).mono fun _ _ ⟨h, hb⟩ => ⟨?_, ?_⟩
  · refine ⟨w.heap.size, 0, rfl, by rw [World.size_alloc]; omega, ?_⟩
    rw [Nat.zero_add]
    refine (hR.cell i).trans ?_
    match i, h with
    | 0, _ => rfl
    | 1, _ => rfl
  · rw [h, ← hr]
    simp [sumTo]
  · exact hb
theorem fb_add_size {s t : ByteArray} {k : Nat} (hs : s.size ≤ k) (ht : t.size ≤ k) : (fb (num s + num t)).size ≤ k + 1 := fb_size_le (lt_add (lt_size hs) (lt_size ht))
theorem wv_plus_same (n : Bool) (s t : ByteArray) : wv n s + wv n t = wv n (fb (num s + num t)) := by
  rw [sI_fb, wv_sI, wv_sI]
  cases n <;> simp only [sI, if_true, if_false, Bool.false_eq_true] <;> omega
theorem wv_plus_less (m n : Bool) (s t : ByteArray) (h : m ≠ n) (hle : num t ≤ num s) : wv m s + wv n t = wv m (fb (num s - num t)) := by
  rw [sI_fb, wv_sI, wv_sI]
  cases m <;> cases n <;> first | exact absurd rfl h | (simp only [sI, if_true, if_false, Bool.false_eq_true]; omega)
theorem wv_plus_more (m n : Bool) (s t : ByteArray) (h : m ≠ n) (hle : ¬ num t ≤ num s) : wv m s + wv n t = wv n (fb (num t - num s)) := by
  rw [sI_fb, wv_sI, wv_sI]
  cases m <;> cases n <;> first | exact absurd rfl h | (simp only [sI, if_true, if_false, Bool.false_eq_true]; omega)

set_option maxRecDepth 100000 in
set_option maxHeartbeats 800000 in
theorem rplus_same (w : World) (n : Bool) (s t : ByteArray) (hs : s.size ≤ 900000) (ht : t.size ≤ 900000) (z : Bool) (o : ByteArray) (hz : wf (wv n s + wv n t) = wi z o) :
    Calls Tryz.prog 134 #[wi n s, wi n t] w (Ret (.agg #[.bool z, .string o]) w) := by
  rw [wv_plus_same] at hz
  obtain ⟨r, hr⟩ : ∃ r, fb (num s + num t) = r := ⟨_, rfl⟩
  rw [hr] at hz
  have hrs : r.size ≤ 900001 := by rw [← hr]; exact fb_add_size hs ht
  have HZ := Lib.hid (And.intro hr hz); clear hr hz
  unfold wi
  go_enter Tryz.func134, Tryz.ntmps134
  go_wp2_with fail
  obtain ⟨hA, hB, hC, hb⟩ := blocks3 w #[Value.bool n, Value.string s] #[Value.bool n, Value.string t] #[Value.bool false, Value.string { data := #[] }]
  generalize (((w.alloc (Obj.cells #[Value.bool n, Value.string s] 23)).alloc (Obj.cells #[Value.bool n, Value.string t] 23)).alloc (Obj.cells #[Value.bool false, Value.string { data := #[] }] 23)) = W0 at *
  replace hA := hA.drew
  replace hB := hB.drew
  replace hC := hC.drew
  replace hb := hb.drew
  have hin := And.intro hA.cells (hB.cells)
  clear hA hB
  go_region_held3 (fun w' => (w'.cell? ⟨w.heap.size, 0, none⟩ = some (.bool n) ∧ w'.cell? ⟨w.heap.size, 1, none⟩ = some (.string s)) ∧ (w'.cell? ⟨w.heap.size + 1, 0, none⟩ = some (.bool n) ∧ w'.cell? ⟨w.heap.size + 1, 1, none⟩ = some (.string t)))
    (first | assumption | exact h2 hq (by assumption) | exact h2 hq (a2 (by assumption)) | exact a2 (by assumption) | exact s2 (by assumption) (by omega))
    (first
       | (go_at_call 74; refine (ref_add2 W0.drew s t r (by omega) (by omega) HZ.out.1).mono ?_; rintro e V ⟨rfl, hq⟩; replace hb := below_next (hb.alloc hb.size _) hq; replace hC := (hC.alloc _).below hq)
       | (go_at_call 77; go_fit (rform_any _ n r (by omega) z o HZ.out.2); rintro e V ⟨rfl, hq⟩; replace hb := below_next hb hq; replace hC := hC.below hq; obtain ⟨hC0, hC1, hC2, hC3⟩ := hC.facts))
  go_wp2
  exact ret_whole rfl rfl (hC.set_ _ _) ⟨rfl, below_set2 hb (by omega) _ _ _ _⟩

set_option maxRecDepth 100000 in
set_option maxHeartbeats 800000 in
theorem rplus_any (w : World) (m n : Bool) (s t : ByteArray) (hs : s.size ≤ 900000) (ht : t.size ≤ 900000) (z : Bool) (o : ByteArray) (hz : wf (wv m s + wv n t) = wi z o) :
    Calls Tryz.prog 134 #[wi m s, wi n t] w (Ret (.agg #[.bool z, .string o]) w) := by
  by_cases hmn : m = n
  · subst hmn
    exact rplus_same w m s t hs ht z o hz
  · have hmn2 : n = !m := by cases m <;> cases n <;> first | rfl | exact absurd rfl hmn
    subst hmn2
    by_cases hle : num t ≤ num s
    · rw [wv_plus_less m (!m) s t hmn hle] at hz
      obtain ⟨r, hr⟩ : ∃ r, fb (num s - num t) = r := ⟨_, rfl⟩
      rw [hr] at hz
      have hrs : r.size ≤ 900000 := by rw [← hr]; exact Nat.le_trans (fb_size_le (Nat.lt_of_le_of_lt (Nat.sub_le _ _) (num_lt s))) hs
      have hd : decide (num t ≤ num s) = true := decide_eq_true hle
      have HZ := Lib.hid (And.intro hr (And.intro hd hz)); clear hr hz hd hle hmn
      cases m
      · unfold wi
        go_enter Tryz.func134, Tryz.ntmps134
        go_wp2_with fail
        obtain ⟨hA, hB, hC, hb⟩ := blocks3 w #[Value.bool false, Value.string s] #[Value.bool true, Value.string t] #[Value.bool false, Value.string { data := #[] }]
        generalize (((w.alloc (Obj.cells #[Value.bool false, Value.string s] 23)).alloc (Obj.cells #[Value.bool true, Value.string t] 23)).alloc (Obj.cells #[Value.bool false, Value.string { data := #[] }] 23)) = W0 at *
        obtain ⟨hA0, hA1⟩ := hA.cells
        obtain ⟨hB0, hB1⟩ := hB.cells
        refine (ref_sub _ s t (by omega) (by omega)).mono ?_
        rw [HZ.out.1, HZ.out.2.1]
        rintro e W ⟨rfl, hq⟩
        replace hb := below_next hb hq
        replace hA := hA.below hq
        replace hB := hB.below hq
        replace hC := hC.below hq
        clear hA0 hA1 hB0 hB1 hq
        obtain ⟨hA0, hA1⟩ := hA.cells
        go_wp2_with fail
        refine (rform_any _ false r (by omega) z o HZ.out.2.2).mono ?_
        rintro e W2 ⟨rfl, hq⟩
        replace hb := below_next hb hq
        replace hC := hC.below hq
        obtain ⟨hC0, hC1, hC2, hC3⟩ := hC.facts
        clear hq hA0 hA1
        go_wp2
        exact ret_whole rfl rfl (hC.set_ _ _) ⟨rfl, below_set2 hb (by omega) _ _ _ _⟩
      · unfold wi
        go_enter Tryz.func134, Tryz.ntmps134
        go_wp2_with fail
        obtain ⟨hA, hB, hC, hb⟩ := blocks3 w #[Value.bool true, Value.string s] #[Value.bool false, Value.string t] #[Value.bool false, Value.string { data := #[] }]
        generalize (((w.alloc (Obj.cells #[Value.bool true, Value.string s] 23)).alloc (Obj.cells #[Value.bool false, Value.string t] 23)).alloc (Obj.cells #[Value.bool false, Value.string { data := #[] }] 23)) = W0 at *
        obtain ⟨hA0, hA1⟩ := hA.cells
        obtain ⟨hB0, hB1⟩ := hB.cells
        refine (ref_sub _ s t (by omega) (by omega)).mono ?_
        rw [HZ.out.1, HZ.out.2.1]
        rintro e W ⟨rfl, hq⟩
        replace hb := below_next hb hq
        replace hA := hA.below hq
        replace hB := hB.below hq
        replace hC := hC.below hq
        clear hA0 hA1 hB0 hB1 hq
        obtain ⟨hA0, hA1⟩ := hA.cells
        go_wp2_with fail
        refine (rform_any _ true r (by omega) z o HZ.out.2.2).mono ?_
        rintro e W2 ⟨rfl, hq⟩
        replace hb := below_next hb hq
        replace hC := hC.below hq
        obtain ⟨hC0, hC1, hC2, hC3⟩ := hC.facts
        clear hq hA0 hA1
        go_wp2
        exact ret_whole rfl rfl (hC.set_ _ _) ⟨rfl, below_set2 hb (by omega) _ _ _ _⟩
    · rw [wv_plus_more m (!m) s t hmn hle] at hz
      obtain ⟨r, hr⟩ : ∃ r, fb (num t - num s) = r := ⟨_, rfl⟩
      rw [hr] at hz
      have hrs : r.size ≤ 900000 := by rw [← hr]; exact Nat.le_trans (fb_size_le (Nat.lt_of_le_of_lt (Nat.sub_le _ _) (num_lt t))) ht
      have hd : decide (num t ≤ num s) = false := decide_eq_false hle
      have hd2 : decide (num s ≤ num t) = true := decide_eq_true (by omega)
      have HZ := Lib.hid (And.intro hr (And.intro hd (And.intro hd2 hz))); clear hr hz hd hd2 hle hmn
      cases m
      · unfold wi
        go_enter Tryz.func134, Tryz.ntmps134
        go_wp2_with fail
        obtain ⟨hA, hB, hC, hb⟩ := blocks3 w #[Value.bool false, Value.string s] #[Value.bool true, Value.string t] #[Value.bool false, Value.string { data := #[] }]
        generalize (((w.alloc (Obj.cells #[Value.bool false, Value.string s] 23)).alloc (Obj.cells #[Value.bool true, Value.string t] 23)).alloc (Obj.cells #[Value.bool false, Value.string { data := #[] }] 23)) = W0 at *
        obtain ⟨hA0, hA1⟩ := hA.cells
        obtain ⟨hB0, hB1⟩ := hB.cells
        refine (ref_sub _ s t (by omega) (by omega)).mono ?_
        rw [HZ.out.2.1]
        rintro e W ⟨rfl, hq⟩
        replace hb := below_next hb hq
        replace hA := hA.below hq
        replace hB := hB.below hq
        replace hC := hC.below hq
        clear hA0 hA1 hB0 hB1 hq
        obtain ⟨hA0, hA1⟩ := hA.cells
        obtain ⟨hB0, hB1⟩ := hB.cells
        go_wp2_with fail
        refine (ref_sub _ t s (by omega) (by omega)).mono ?_
        rw [HZ.out.1, HZ.out.2.2.1]
        rintro e W2 ⟨rfl, hq⟩
        replace hb := below_next hb hq
        replace hA := hA.below hq
        replace hB := hB.below hq
        replace hC := hC.below hq
        clear hA0 hA1 hB0 hB1 hq
        obtain ⟨hB0, hB1⟩ := hB.cells
        go_wp2_with fail
        refine (rform_any _ true r (by omega) z o HZ.out.2.2.2).mono ?_
        rintro e W3 ⟨rfl, hq⟩
        replace hb := below_next hb hq
        replace hC := hC.below hq
        obtain ⟨hC0, hC1, hC2, hC3⟩ := hC.facts
        clear hq hB0 hB1
        go_wp2
        exact ret_whole rfl rfl (hC.set_ _ _) ⟨rfl, below_set2 hb (by omega) _ _ _ _⟩
      · unfold wi
        go_enter Tryz.func134, Tryz.ntmps134
        go_wp2_with fail
        obtain ⟨hA, hB, hC, hb⟩ := blocks3 w #[Value.bool true, Value.string s] #[Value.bool false, Value.string t] #[Value.bool false, Value.string { data := #[] }]
        generalize (((w.alloc (Obj.cells #[Value.bool true, Value.string s] 23)).alloc (Obj.cells #[Value.bool false, Value.string t] 23)).alloc (Obj.cells #[Value.bool false, Value.string { data := #[] }] 23)) = W0 at *
        obtain ⟨hA0, hA1⟩ := hA.cells
        obtain ⟨hB0, hB1⟩ := hB.cells
        refine (ref_sub _ s t (by omega) (by omega)).mono ?_
        rw [HZ.out.2.1]
        rintro e W ⟨rfl, hq⟩
        replace hb := below_next hb hq
        replace hA := hA.below hq
        replace hB := hB.below hq
        replace hC := hC.below hq
        clear hA0 hA1 hB0 hB1 hq
        obtain ⟨hA0, hA1⟩ := hA.cells
        obtain ⟨hB0, hB1⟩ := hB.cells
        go_wp2_with fail
        refine (ref_sub _ t s (by omega) (by omega)).mono ?_
        rw [HZ.out.1, HZ.out.2.2.1]
        rintro e W2 ⟨rfl, hq⟩
        replace hb := below_next hb hq
        replace hA := hA.below hq
        replace hB := hB.below hq
        replace hC := hC.below hq
        clear hA0 hA1 hB0 hB1 hq
        obtain ⟨hB0, hB1⟩ := hB.cells
        go_wp2_with fail
        refine (rform_any _ false r (by omega) z o HZ.out.2.2.2).mono ?_
        rintro e W3 ⟨rfl, hq⟩
        replace hb := below_next hb hq
        replace hC := hC.below hq
        obtain ⟨hC0, hC1, hC2, hC3⟩ := hC.facts
        clear hq hB0 hB1
        go_wp2
        exact ret_whole rfl rfl (hC.set_ _ _) ⟨rfl, below_set2 hb (by omega) _ _ _ _⟩
end Go.Proofs.YtfgolecbchhokaaGreatDoor
