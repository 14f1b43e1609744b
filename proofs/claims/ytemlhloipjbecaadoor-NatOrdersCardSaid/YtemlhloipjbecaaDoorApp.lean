/- Rows of digits that grow: append of one digit, and room for more. -/
import Derived.Test.YtemlhloipjbecaaDoorUp
import Derived.Laws.AppendOwn
import Derived.Shelf.Spec.SlicesGrow
namespace Go.Proofs.YtemlhloipjbecaaDoor
open Go.RowKit Go.Shelf

/-- Block g holds the digits ds at its head, with room for cap of them in all. -/
def Own64 (w : World) (g cap : Nat) (ds : List Nat) : Prop := ∃ T L, Rw w g T L ∧ ds.length ≤ cap ∧ cap = L.length ∧ cap ≤ maxLen ∧ L.take ds.length = ds.map dg
section
variable {w w' : World} {g cap : Nat}
theorem Own64.lt {ds : List Nat} (h : Own64 w g cap ds) : g < w.heap.size := by obtain ⟨_, _, h, _⟩ := h; exact h.lt
theorem Own64.le {ds : List Nat} (h : Own64 w g cap ds) : ds.length ≤ cap := by obtain ⟨_, _, _, h, _⟩ := h; exact h
theorem Own64.max {ds : List Nat} (h : Own64 w g cap ds) : cap ≤ maxLen := by obtain ⟨_, _, _, _, _, h, _⟩ := h; exact h
theorem Own64.ds {ds : List Nat} (h : Own64 w g cap ds) : Ds w g 0 ds := by
  obtain ⟨T, L, h, h1, h2, h3, h4⟩ := h
  intro i hi
  rw [Nat.zero_add, h.cell]
  have : (L.take ds.length)[i]? = (ds.map dg)[i]? := by rw [h4]
  rw [List.getElem?_take_of_lt hi] at this
  rw [this]
  simp [hi]
theorem Own64.grown {ds : List Nat} {row : Option Nat} (h : Own64 w g cap ds) (hg : w.grownBy w' row) (hne : some g ≠ row) : Own64 w' g cap ds := by
  obtain ⟨T, L, h, r⟩ := h
  exact ⟨T, L, h.grown hg hne, r⟩
theorem Own64.below {ds : List Nat} {B : Nat} (h : Own64 w g cap ds) (hb : Below B w w') (hlt : g < B) : Own64 w' g cap ds := by
  obtain ⟨T, L, h, r⟩ := h
  exact ⟨T, L, h.below hb hlt, r⟩
theorem Own64.alloc {ds : List Nat} (h : Own64 w g cap ds) (o : Obj) : Own64 (w.alloc o) g cap ds := by
  obtain ⟨T, L, h, r⟩ := h
  exact ⟨T, L, h.alloc o, r⟩
/-- The digits' block, parted. -/
theorem Own64.parts {ds : List Nat} (h : Own64 w g cap ds) : ∃ T post, Rw w g T ([] ++ ds.map dg ++ post) ∧ cap = ds.length + post.length ∧ cap ≤ maxLen := by
  obtain ⟨T, L, h, h1, h2, h3, h4⟩ := h
  refine ⟨T, L.drop ds.length, ?_, by simp; omega, h3⟩
  rw [List.nil_append, ← h4, List.take_append_drop]
  exact h
theorem Own64.of_parts {ds : List Nat} {T : TypeId} {post : List Value} (h : Rw w g T ([] ++ ds.map dg ++ post)) (hc : cap = ds.length + post.length) (hm : cap ≤ maxLen) : Own64 w g cap ds :=
  ⟨T, _, h, by omega, by simp [hc], hm, by simp⟩
theorem Own64.empty {T : TypeId} {L : List Value} (h : Rw w g T L) (hm : L.length ≤ maxLen) : Own64 w g L.length [] := ⟨T, L, h, Nat.zero_le _, rfl, hm, by simp [List.take_zero]⟩
theorem Own64.full {ds : List Nat} {T : TypeId} (h : Rw w g T (ds.map dg)) (hm : ds.length ≤ maxLen) : Own64 w g ds.length ds := ⟨T, _, h, Nat.le_refl _, by simp, hm, by rw [List.take_of_length_le (by simp)]⟩
end

theorem addr_add0 (g j : Nat) : (⟨g, 0, none⟩ : Addr).add j = ⟨g, j, none⟩ := by unfold Addr.add; split <;> simp_all
theorem oneCell_dg (d : Nat) : (dg d).oneCell' = true := rfl
theorem cells_dg (d : Nat) : (dg d).cells = #[dg d] := rfl

theorem run_append_digit (w : World) (ty : TypeId) (g cap : Nat) (ds : List Nat) (n : Nat) (hn : ds.length = n) (h : Own64 w g cap ds) (a : Addr) (x c : Nat) (hx : ∀ j u, [dg x][j]? = some u → w.cell? (a.add j) = some u) (hmax : n ≤ 10000000000000) :
    ∃ g' cap' w', (Builtin.append_ #[54, 54] ty #[.slice (some ⟨g, 0, none⟩) n cap, .slice (some a) 1 c]).run Tryd.prog w = .ok (.slice (some ⟨g', 0, none⟩) (n + 1) cap') w' ∧
      Own64 w' g' cap' (ds ++ [x]) ∧ w.grownBy w' (some g) ∧ (g' = g ∨ g' = w.heap.size) := by
  subst hn
  obtain ⟨i, hi, hz, hs, hb⟩ := info_parts info64
  obtain ⟨T, L, hR, h1, h2, h3, h4⟩ := h
  have h1c : ∀ u ∈ [dg x], u.oneCell' = true := by intro u hu; simp at hu; subst hu; rfl
  by_cases hroom : ds.length + 1 ≤ cap
  · have hf := run_firstCells_some (P := Tryd.prog) w i.size 1 a 1 c [dg x] (by simp [hs]) hx
    have hst := run_storeCells_at Tryd.prog g (ds.length * i.size) T [dg x] 0 L.toArray w hR (by simp [hs]; omega) h1c
    simp only [Nat.add_zero] at hst
    refine ⟨g, cap, w.setRow g (L.take ds.length ++ [dg x] ++ L.drop (ds.length + 1)).toArray, ?_, ⟨T, L.take ds.length ++ [dg x] ++ L.drop (ds.length + 1), ?_, by simpa using hroom, ?_, h3, ?_⟩, ?_, .inl rfl⟩
    · rw [hs, Nat.mul_one] at hst
      simp only [hs] at hf
      simp [Builtin.append_, run_underlying Tryd.underlying54, sizeOf, typeInfo, hi, Builtin.lenOf, hroom, hs, hf, Addr.add_lit, hst]
    · exact setRow_heap w g L.toArray _ T _ hR
    · simp; omega
    · rw [List.length_append, List.length_singleton, List.take_left' (by rw [List.length_append, List.length_take, List.length_singleton]; omega), h4]; simp
    · exact ⟨rfl, rfl, rfl, by simp, fun k _ hk => setRow_other w g k _ (fun e => hk (by rw [e]))⟩
  · have hcap : cap = ds.length := by omega
    have hold : ∀ j u, (ds.map dg)[j]? = some u → w.cell? ((⟨g, 0, none⟩ : Addr).add j) = some u := by
      intro j u hj
      rw [addr_add0, hR.cell, ← hj, ← h4, List.getElem?_take_of_lt]
      have := (List.getElem?_eq_some_iff.1 hj).1
      simpa using this
    have hr := run_append_grow (P := Tryd.prog) w 54 ty 22 i _ Tryd.underlying54 hi hz ⟨g, 0, none⟩ ds.length cap (ds.map dg) (by rw [List.length_map, hs, Nat.mul_one]) hold a 1 c [dg x] (by simp [hs]) hx (by omega) (by omega) (growslice_fits (by omega) (by rw [hb]; omega))
    have hZs := size_zeroCells (Value.cells (.int .u64 0)) (grownCap w (ds.length + 1) cap 22 - (ds.length + 1))
    have hge := grownCap_ge w (ds.length + 1) cap 22
    have hle := grownCap_le_maxLen w (ds.length + 1) cap 22 (by unfold maxLen; omega)
    rw [show (Value.cells (.int .u64 0)).size = 1 from rfl, Nat.mul_one] at hZs
    generalize Builtin.zeroCells (Value.cells (.int .u64 0)) (grownCap w (ds.length + 1) cap 22 - (ds.length + 1)) = Z at hr hZs
    generalize grownCap w (ds.length + 1) cap 22 = G at *
    have hL : (ds.map dg).toArray ++ [dg x].toArray ++ Z = (ds.map dg ++ [dg x] ++ Z.toList).toArray := by
      apply Array.ext'; simp
    rw [hL] at hr
    refine ⟨_, _, _, hr, ⟨22, ds.map dg ++ [dg x] ++ Z.toList, heap_alloc_new w.drew _, ?_, ?_, hle, ?_⟩, ⟨rfl, rfl, rfl, by simp, fun k hk _ => Below.heap_alloc w.drew _ k hk⟩, .inr rfl⟩
    · rw [List.length_append, List.length_singleton]; exact hge
    · have hz' : Z.toList.length = Z.size := Array.length_toList
      rw [List.length_append, List.length_append, List.length_map, List.length_singleton, hz']; omega
    · rw [List.length_append, List.length_singleton, List.take_left' (by simp)]; simp
end Go.Proofs.YtemlhloipjbecaaDoor
