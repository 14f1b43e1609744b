/- The document's answer for whole numbers: Sub, Cmp, Times, Div, Shift, walked. -/
import Derived.Test.YtfgolecbchhokaaGreatDoorWRef2
import Derived.Test.YtfgolecbchhokaaGreatDoorWSg
namespace Go.Proofs.YtfgolecbchhokaaGreatDoor
open Go.RowKit Go.Shelf

theorem use_rmul (w : World) (s t r : ByteArray) (hs : s.size ≤ 1000000) (ht : t.size ≤ 1000000) (hr : fb (num s * num t) = r) : Calls Tryz.prog 75 #[.string s, .string t] w (Ret (.string r) w) := hr ▸ ref_mul w s t hs ht

set_option maxRecDepth 100000 in
set_option maxHeartbeats 800000 in
theorem rtimes_any (w : World) (m n : Bool) (s t : ByteArray) (hs : s.size ≤ 400000) (ht : t.size ≤ 400000) (z : Bool) (o : ByteArray) (hz : wf (wv m s * wv n t) = wi z o) :
    Calls Tryz.prog 137 #[wi m s, wi n t] w (Ret (.agg #[.bool z, .string o]) w) := by
  obtain ⟨r, hr⟩ : ∃ r, fb (num s * num t) = r := ⟨_, rfl⟩
  have hz2 : wf (wv (m != n) r) = wi z o := by rw [← hr, sI_fb, ← sI_mul, ← wv_sI, ← wv_sI]; exact hz
  have hrs : r.size ≤ 800000 := by rw [← hr]; exact Nat.le_trans (fb_size_le (lt_mul (num_lt s) (num_lt t))) (by omega)
  have HZ := Lib.hid (And.intro hr hz2); clear hr hz hz2
  unfold wi
  go_enter Tryz.func137, Tryz.ntmps137
  go_wp2_with fail
  obtain ⟨hA, hB, hC, hb⟩ := blocks3 w #[Value.bool m, Value.string s] #[Value.bool n, Value.string t] #[Value.bool false, Value.string { data := #[] }]
  generalize (((w.alloc (Obj.cells #[Value.bool m, Value.string s] 23)).alloc (Obj.cells #[Value.bool n, Value.string t] 23)).alloc (Obj.cells #[Value.bool false, Value.string { data := #[] }] 23)) = W0 at *
  replace hA := hA.drew
  replace hB := hB.drew
  replace hC := hC.drew
  replace hb := hb.drew
  have hin := And.intro hA.cells (hB.cells)
  clear hA hB
  go_region_held3 (fun w' => (w'.cell? ⟨w.heap.size, 0, none⟩ = some (.bool m) ∧ w'.cell? ⟨w.heap.size, 1, none⟩ = some (.string s)) ∧ (w'.cell? ⟨w.heap.size + 1, 0, none⟩ = some (.bool n) ∧ w'.cell? ⟨w.heap.size + 1, 1, none⟩ = some (.string t)))
    (first | assumption | exact h2 hq (by assumption) | exact h2 hq (a2 (by assumption)) | exact a2 (by assumption) | exact s2 (by assumption) (by omega))
    (first
       | (go_at_call 75; go_fit (use_rmul _ s t r (by omega) (by omega) HZ.out.1); rintro e V ⟨rfl, hq⟩; replace hb := below_next hb hq; replace hC := hC.below hq)
       | (go_at_call 77; go_fit (rform_any _ (m != n) r (by omega) z o HZ.out.2); rintro e V ⟨rfl, hq⟩; replace hb := below_next hb hq; replace hC := hC.below hq; obtain ⟨hC0, hC1, hC2, hC3⟩ := hC.facts))
  go_wp2
  exact ret_whole rfl rfl (hC.set_ _ _) ⟨rfl, below_set2 hb (by omega) _ _ _ _⟩
end Go.Proofs.YtfgolecbchhokaaGreatDoor
