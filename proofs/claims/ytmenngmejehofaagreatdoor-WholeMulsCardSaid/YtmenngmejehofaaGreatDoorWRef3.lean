/- The document's answer for whole numbers: Sub, Cmp, Times, Div, Shift, walked. -/
import Derived.Test.YtmenngmejehofaaGreatDoorWRef2
import Derived.Test.YtmenngmejehofaaGreatDoorWSg
namespace Go.Proofs.YtmenngmejehofaaGreatDoor
open Go.RowKit Go.Shelf

theorem use_rmul (w : World) (s t r : ByteArray) (hs : s.size ≤ 1000000) (ht : t.size ≤ 1000000) (hr : fb (num s * num t) = r) : Calls Tryz.prog 83 #[.string s, .string t] w (Ret (.string r) w) := hr ▸ ref_mul w s t hs ht

set_option maxRecDepth 100000 in
set_option maxHeartbeats 800000 in
theorem rsub_any (w : World) (m n : Bool) (s t : ByteArray) (hs : s.size ≤ 800000) (ht : t.size ≤ 800000) (z : Bool) (o : ByteArray) (hz : wf (wv m s - wv n t) = wi z o) :
    Calls Tryz.prog 30 #[wi m s, wi n t] w (Ret (.agg #[.bool z, .string o]) w) := by
  obtain ⟨p, u, eu, vu, su⟩ := neg_nmw n t (k := t.size) (Nat.le_refl _)
  have hz2 : wf (wv m s + wv p u) = wi z o := by rw [vu, ← hz, Int.sub_eq_add_neg]
  have HZ := Lib.hid (And.intro eu hz2); clear eu vu hz hz2
  unfold wi
  go_enter Tryz.func30, Tryz.ntmps30
  go_wp2_with fail
  obtain ⟨hA, hB, hC, hb⟩ := blocks3 w #[Value.bool m, Value.string s] #[Value.bool n, Value.string t] #[Value.bool false, Value.string { data := #[] }]
  generalize (((w.alloc (Obj.cells #[Value.bool m, Value.string s] 23)).alloc (Obj.cells #[Value.bool n, Value.string t] 23)).alloc (Obj.cells #[Value.bool false, Value.string { data := #[] }] 23)) = W0 at *
  replace hA := hA.drew
  replace hB := hB.drew
  replace hC := hC.drew
  replace hb := hb.drew
  have hin := And.intro hA.cells (hB.cells)
  clear hA hB
  go_region_held3 (fun w' => (w'.cell? ⟨w.heap.size, 0, none⟩ = some (.bool m) ∧ w'.cell? ⟨w.heap.size, 1, none⟩ = some (.string s)) ∧ (w'.cell? ⟨w.heap.size + 1, 0, none⟩ = some (.bool n) ∧ w'.cell? ⟨w.heap.size + 1, 1, none⟩ = some (.string t)))
    (first | assumption | exact h2 hq (by assumption) | exact h2 hq (a2 (by assumption)) | exact a2 (by assumption) | exact s2 (by assumption) (by omega))
    (first
       | (go_at_call 26; go_fit (rneg_any _ n t (by omega) p u HZ.out.1); rintro e V ⟨rfl, hq⟩; replace hb := below_next hb hq; replace hC := hC.below hq)
       | (go_at_call 60; go_fit (rplus_any _ m p s u (by omega) (by omega) z o HZ.out.2); rintro e V ⟨rfl, hq⟩; replace hb := below_next hb hq; replace hC := hC.below hq; obtain ⟨hC0, hC1, hC2, hC3⟩ := hC.facts))
  go_wp2
  exact ret_whole rfl rfl (hC.set_ _ _) ⟨rfl, below_set2 hb (by omega) _ _ _ _⟩

set_option maxRecDepth 100000 in
set_option maxHeartbeats 800000 in
theorem rcmp_any (w : World) (m n : Bool) (s t : ByteArray) (hs : s.size ≤ 800000) (ht : t.size ≤ 800000) (c : Int) (hc : sg (wv m s - wv n t) = c) :
    Calls Tryz.prog 32 #[wi m s, wi n t] w (Ret (.int .i64 c) w) := by
  obtain ⟨p, u, eu, vu, su⟩ := minus_nmw m n s t (k := max s.size t.size) (Nat.le_max_left _ _) (Nat.le_max_right _ _)
  have hc2 : sg (wv p u) = c := by rw [vu]; exact hc
  have hsu : u.size ≤ 800001 := by omega
  have HZ := Lib.hid (And.intro eu hc2); clear eu vu su hc hc2
  unfold wi
  go_enter Tryz.func32, Tryz.ntmps32
  go_wp2_with fail
  obtain ⟨hA, hB, hb⟩ := blocks2 w #[Value.bool m, Value.string s] #[Value.bool n, Value.string t]
  generalize ((w.alloc (Obj.cells #[Value.bool m, Value.string s] 23)).alloc (Obj.cells #[Value.bool n, Value.string t] 23)) = W0 at *
  refine (rsub_any _ m n s t hs ht p u HZ.out.1).mono ?_
  rintro e W ⟨rfl, hq⟩
  replace hb := below_next hb hq
  clear hq hA hB
  go_wp2_with fail
  refine (rsign_any _ p u (by omega) c HZ.out.2).mono ?_
  rintro e W2 ⟨rfl, hq⟩
  replace hb := below_next hb hq
  go_wp2
  go_ret
  exact ⟨rfl, hb⟩

set_option maxRecDepth 100000 in
set_option maxHeartbeats 800000 in
theorem rtimes_any (w : World) (m n : Bool) (s t : ByteArray) (hs : s.size ≤ 400000) (ht : t.size ≤ 400000) (z : Bool) (o : ByteArray) (hz : wf (wv m s * wv n t) = wi z o) :
    Calls Tryz.prog 64 #[wi m s, wi n t] w (Ret (.agg #[.bool z, .string o]) w) := by
  obtain ⟨r, hr⟩ : ∃ r, fb (num s * num t) = r := ⟨_, rfl⟩
  have hz2 : wf (wv (m != n) r) = wi z o := by rw [← hr, sI_fb, ← sI_mul, ← wv_sI, ← wv_sI]; exact hz
  have hrs : r.size ≤ 800000 := by rw [← hr]; exact Nat.le_trans (fb_size_le (lt_mul (num_lt s) (num_lt t))) (by omega)
  have HZ := Lib.hid (And.intro hr hz2); clear hr hz hz2
  unfold wi
  go_enter Tryz.func64, Tryz.ntmps64
  go_wp2_with fail
  obtain ⟨hA, hB, hC, hb⟩ := blocks3 w #[Value.bool m, Value.string s] #[Value.bool n, Value.string t] #[Value.bool false, Value.string { data := #[] }]
  generalize (((w.alloc (Obj.cells #[Value.bool m, Value.string s] 23)).alloc (Obj.cells #[Value.bool n, Value.string t] 23)).alloc (Obj.cells #[Value.bool false, Value.string { data := #[] }] 23)) = W0 at *
  replace hA := hA.drew
  replace hB := hB.drew
  replace hC := hC.drew
  replace hb := hb.drew
  have hin := And.intro hA.cells (hB.cells)
  clear hA hB
  go_region_held3 (fun w' => (w'.cell? ⟨w.heap.size, 0, none⟩ = some (.bool m) ∧ w'.cell? ⟨w.heap.size, 1, none⟩ = some (.string s)) ∧ (w'.cell? ⟨w.heap.size + 1, 0, none⟩ = some (.bool n) ∧ w'.cell? ⟨w.heap.size + 1, 1, none⟩ = some (.string t)))
    (first | assumption | exact h2 hq (by assumption) | exact h2 hq (a2 (by assumption)) | exact a2 (by assumption) | exact s2 (by assumption) (by omega))
    (first
       | (go_at_call 83; go_fit (use_rmul _ s t r (by omega) (by omega) HZ.out.1); rintro e V ⟨rfl, hq⟩; replace hb := below_next hb hq; replace hC := hC.below hq)
       | (go_at_call 22; go_fit (rform_any _ (m != n) r (by omega) z o HZ.out.2); rintro e V ⟨rfl, hq⟩; replace hb := below_next hb hq; replace hC := hC.below hq; obtain ⟨hC0, hC1, hC2, hC3⟩ := hC.facts))
  go_wp2
  exact ret_whole rfl rfl (hC.set_ _ _) ⟨rfl, below_set2 hb (by omega) _ _ _ _⟩
end Go.Proofs.YtmenngmejehofaaGreatDoor
