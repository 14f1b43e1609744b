/- Room for more digits in a row: the library's Grow, by its contract. -/
import Derived.Test.YtemlhloipjbecaaDoorPlus
namespace Go.Proofs.YtemlhloipjbecaaDoor
open Go.RowKit Go.Shelf

theorem grow_any (w : World) (g cap n k : Nat) (ds : List Nat) (hd : Own64 w g cap ds) (hn : ds.length = n) (hmax : n ≤ 1000000000000) (hk : k ≤ 1000000000000) :
    Calls Tryd.prog 65 #[.slice (some ⟨g, 0, none⟩) n cap, .int .i64 k] w
      fun e w' => ∃ g' cap', e = .returned (.slice (some ⟨g', 0, none⟩) n cap') ∧ Own64 w' g' cap' ds ∧ w.grownBy w' (some g) ∧ (g' = g ∨ w.heap.size ≤ g') := by
  obtain ⟨i, hi, hz, hs, hb⟩ := info_parts info64
  have hcm := hd.max
  unfold maxLen at hcm
  by_cases hroom : n + k ≤ cap
  · refine (Any8.slices_Grow_room Tryd.laysGrow (some ⟨g, 0, none⟩) n cap k w (by omega) hcm (by omega) hroom).mono ?_
    rintro e w' ⟨rfl, rfl⟩
    exact ⟨g, cap, rfl, hd, World.grownBy.refl _ _, .inl rfl⟩
  · obtain ⟨T, L, hR, h1, h2, h3, h4⟩ := hd
    have hcs : ∀ a, (some (⟨g, 0, none⟩ : Addr)) = some a → ∀ j v, L[j]? = some v → w.cell? (a.add j) = some v := by
      intro a ha j v hj
      rw [← Option.some.inj ha, addr_add0, hR.cell]
      exact hj
    refine (Any8.slices_Grow_grow Tryd.laysGrow i _ hi hz (by omega) (some ⟨g, 0, none⟩) n cap k L w (by omega) (by omega) (by rw [hb]; omega) (by omega) (by rw [hs]; omega) (by intro h; cases h) hcs).mono ?_
    rintro e w' ⟨rfl, rfl⟩
    have hge := grownCap_ge w (n + k) cap 22
    have hle := grownCap_le_maxLen w (n + k) cap 22 (by unfold maxLen; omega)
    show ∃ g' cap', Ending.returned (.slice (some ⟨w.heap.size, 0, none⟩) n (grownCap w (n + k) cap 22)) = _ ∧
      Own64 (w.drew.alloc (.cells (L.toArray ++ Builtin.zeroCells (Value.cells (.int .u64 0)) (n + k - cap) ++ Builtin.zeroCells (Value.cells (.int .u64 0)) (grownCap w (n + k) cap 22 - (n + k))) 22)) g' cap' ds ∧ _ ∧ _
    have hZ1 := size_zeroCells (Value.cells (.int .u64 0)) (n + k - cap)
    have hZ2 := size_zeroCells (Value.cells (.int .u64 0)) (grownCap w (n + k) cap 22 - (n + k))
    rw [show (Value.cells (.int .u64 0)).size = 1 from rfl, Nat.mul_one] at hZ1 hZ2
    generalize Builtin.zeroCells (Value.cells (.int .u64 0)) (n + k - cap) = Z1 at *
    generalize Builtin.zeroCells (Value.cells (.int .u64 0)) (grownCap w (n + k) cap 22 - (n + k)) = Z2 at *
    generalize grownCap w (n + k) cap 22 = G at *
    have hL : L.toArray ++ Z1 ++ Z2 = (L ++ Z1.toList ++ Z2.toList).toArray := by apply Array.ext'; simp
    rw [hL]
    refine ⟨w.heap.size, G, rfl, ⟨22, L ++ Z1.toList ++ Z2.toList, heap_alloc_new w.drew _, by omega, ?_, hle, ?_⟩, ⟨rfl, rfl, rfl, by simp, fun k hk _ => Below.heap_alloc w.drew _ k hk⟩, .inr (Nat.le_refl _)⟩
    · have e1 : Z1.toList.length = Z1.size := Array.length_toList
      have e2 : Z2.toList.length = Z2.size := Array.length_toList
      rw [List.length_append, List.length_append, e1, e2]; omega
    · rw [List.append_assoc, List.take_append_of_le_length (by omega)]; exact h4
end Go.Proofs.YtemlhloipjbecaaDoor
