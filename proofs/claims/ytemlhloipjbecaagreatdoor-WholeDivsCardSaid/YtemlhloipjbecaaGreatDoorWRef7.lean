/- The document's answer for whole numbers: Div of any two, and Shift, walked. -/
import Derived.Test.YtemlhloipjbecaaGreatDoorWRef5
import Derived.Test.YtemlhloipjbecaaGreatDoorWRef6
import Derived.Test.YtemlhloipjbecaaGreatDoorWShift
import Derived.Test.YtemlhloipjbecaaGreatDoorWDag
namespace Go.Proofs.YtemlhloipjbecaaGreatDoor
open Go.RowKit Go.Shelf

/-- Div, whatever the divisor but 0. -/
theorem rdiv_any (w : World) (m n : Bool) (s t : ByteArray) (hs : s.size ≤ 100000) (ht : t.size ≤ 100000) (h0 : wv n t ≠ 0)
    (z1 : Bool) (o1 : ByteArray) (hz1 : wf (wv m s / wv n t) = wi z1 o1) (z2 : Bool) (o2 : ByteArray) (hz2 : wf (wv m s % wv n t) = wi z2 o2) :
    Calls Tryz.prog 34 #[wi m s, wi n t] w (Ret (.tuple #[.agg #[.bool z1, .string o1], .agg #[.bool z2, .string o2], .bool true]) w) := by
  have h0' : num t ≠ 0 := fun h => h0 ((wv_sI n t).trans (sI_zero_iff.2 h))
  by_cases h : m = true → num s % num t = 0
  · exact rdiv_plain w m n s t hs ht h0' h z1 o1 hz1 z2 o2 hz2
  · cases m
    · exact absurd (fun h => by cases h) h
    · cases n
      · exact rdiv_next_false w s t hs ht h0' (fun h' => h fun _ => h') z1 o1 hz1 z2 o2 hz2
      · exact rdiv_next_true w s t hs ht h0' (fun h' => h fun _ => h') z1 o1 hz1 z2 o2 hz2

theorem use_rshl (w : World) (s : ByteArray) (k : Int) (r : ByteArray) (hs : s.size ≤ 1000000) (hk : k ≤ 10000000) (hr : fb (shlN (num s) k) = r) : Calls Tryz.prog 62 #[.string s, .int .i64 k] w (Ret (.string r) w) := hr ▸ ref_shl w s k hs hk

set_option maxRecDepth 100000 in
set_option maxHeartbeats 800000 in
theorem rshift_up (w : World) (n : Bool) (s : ByteArray) (k : Int) (hs : s.size ≤ 10000) (hk0 : 0 ≤ k) (hk : k ≤ 100000) (z : Bool) (o : ByteArray) (hz : wf (shiftI (wv n s) k) = wi z o) :
    Calls Tryz.prog 36 #[wi n s, .int .i64 k] w (Ret (.agg #[.bool z, .string o]) w) := by
  obtain ⟨r, hr⟩ : ∃ r, fb (shlN (num s) k) = r := ⟨_, rfl⟩
  have hz2 : wf (wv n r) = wi z o := by
    rw [← hr, sI_fb, ← hz]
    congr 1
    unfold shiftI shlN
    rw [if_pos hk0, if_neg (by omega), wv_sI]
    unfold sI
    cases n
    · simp
    · simp [Int.neg_mul]
  have hrs : r.size ≤ 1000000 := by
    rw [← hr]
    have h1 : shlN (num s) k < 256 ^ (s.size + k.toNat) := by
      unfold shlN
      rw [if_neg (by omega), Nat.pow_add]
      exact Nat.mul_lt_mul_of_lt_of_le (num_lt s) (Nat.pow_le_pow_left (by omega) _) (Nat.pow_pos (by omega))
    have := fb_size_le h1
    omega
  have HZ := Lib.hid (And.intro hr hz2); clear hr hz hz2
  unfold wi
  go_enter Tryz.func36, Tryz.ntmps36
  go_wp2_with fail
  obtain ⟨hA, hC, hb⟩ := blocks2 w #[Value.bool n, Value.string s] #[Value.bool false, Value.string { data := #[] }]
  generalize ((w.alloc (Obj.cells #[Value.bool n, Value.string s] 23)).alloc (Obj.cells #[Value.bool false, Value.string { data := #[] }] 23)) = W0 at *
  replace hA := hA.drew
  replace hC := hC.drew
  replace hb := hb.drew
  have hin := hA.cells
  clear hA
  go_region_held3 (fun w' => (w'.cell? ⟨w.heap.size, 0, none⟩ = some (.bool n) ∧ w'.cell? ⟨w.heap.size, 1, none⟩ = some (.string s)))
    (first | assumption | exact h1 hq (by assumption) | exact h1 hq (a1 (by assumption)) | exact a1 (by assumption) | exact s1 (by assumption) (by omega))
    (first
       | (go_at_call 62; go_fit (use_rshl _ s k r (by omega) (by omega) HZ.out.1); rintro e V ⟨rfl, hq⟩; replace hb := below_next hb hq; replace hC := hC.below hq)
       | (go_at_call 18; go_fit (rform_any _ n r (by omega) z o HZ.out.2); rintro e V ⟨rfl, hq⟩; replace hb := below_next hb hq; replace hC := hC.below hq; obtain ⟨hC0, hC1, hC2, hC3⟩ := hC.facts))
  go_wp2
  exact ret_whole rfl rfl (hC.set_ _ _) ⟨rfl, below_set2 hb (by omega) _ _ _ _⟩
end Go.Proofs.YtemlhloipjbecaaGreatDoor
