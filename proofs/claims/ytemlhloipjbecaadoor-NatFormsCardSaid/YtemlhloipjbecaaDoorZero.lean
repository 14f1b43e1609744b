/- Noughts appended to an empty row, and a row appended to another one. -/
import Derived.Test.YtemlhloipjbecaaDoorAdd
namespace Go.Proofs.YtemlhloipjbecaaDoor
open Go.RowKit Go.Shelf

theorem zeroCells_one (k : Nat) : Builtin.zeroCells (Value.cells (.int .u64 0)) k = ((List.replicate k 0).map dg).toArray := by
  have h : Value.cells (.int .u64 0) = #[Value.int .u64 0] := rfl
  unfold Builtin.zeroCells
  rw [h]
  apply Array.ext'
  simp [Nat.mod_one, dg]
  apply List.ext_getElem <;> simp
theorem run_append_zeros (w : World) (ty : TypeId) (g cap : Nat) (h : Own64 w g cap []) (k : Nat) (hmax : k ≤ 10000000000000) :
    ∃ g' cap' w', (Builtin.append_ #[54, 3] ty #[.slice (some ⟨g, 0, none⟩) 0 cap, .int .i64 k]).run Tryd.prog w = .ok (.slice (some ⟨g', 0, none⟩) k cap') w' ∧
      Own64 w' g' cap' (List.replicate k 0) ∧ w.grownBy w' (some g) ∧ (g' = g ∨ w.heap.size ≤ g') := by
  obtain ⟨i, hi, hz, hs, hb⟩ := info_parts info64
  obtain ⟨T, L, hR, h1, h2, h3, h4⟩ := h
  have hw : IntKind.i64.wrap (k : Int) = (k : Int) := by rw [IntKind.wrap_i64]; omega
  have hk0 : ¬ ((k : Int) < 0) := by omega
  have hbig : ¬ (281474976710656 < (k : Int) * 8) := by omega
  by_cases hroom : k ≤ cap
  · have h1c : ∀ u ∈ (List.replicate k 0).map dg, u.oneCell' = true := by intro u hu; simp at hu; rw [hu.2]; rfl
    have hst := run_storeCells_at Tryd.prog g 0 T ((List.replicate k 0).map dg) 0 L.toArray w hR (by simp; omega) h1c
    simp only [Nat.add_zero, Nat.zero_add, List.take_zero, List.map_replicate, List.length_replicate] at hst
    simp only [List.map_replicate] at h1c ⊢
    refine ⟨g, cap, w.setRow g ([] ++ (List.replicate k 0).map dg ++ L.drop k).toArray, ?_, ⟨T, [] ++ (List.replicate k 0).map dg ++ L.drop k, ?_, by simpa using hroom, ?_, h3, ?_⟩, ?_, .inl rfl⟩
    · by_cases hkz : k = 0
      · subst hkz
        simp at hst
        have hw0 : IntKind.i64.wrap 0 = 0 := by rw [IntKind.wrap_i64]; omega
        simp [Builtin.append_, run_underlying Tryd.underlying54, run_underlying Tryd.underlying3, sizeOf, typeInfo, asInt, asIntOf, hi, hb, hw0, Addr.add_lit, hst]
      · simp [Builtin.append_, run_underlying Tryd.underlying54, run_underlying Tryd.underlying3, sizeOf, typeInfo, zeroValue, asInt, asIntOf, hi, hz, hs, hb, hw, hk0, hbig, hroom, hkz, zeroCells_one, Addr.add_lit, hst]
    · exact setRow_heap w g L.toArray _ T _ hR
    · simp; omega
    · rw [List.nil_append, List.take_left' (by simp)]
    · exact ⟨rfl, rfl, rfl, by simp, fun k _ hk => setRow_other w g k _ (fun e => hk (by rw [e]))⟩
  · have hf := run_firstCells_some (P := Tryd.prog) w.drew 1 0 ⟨g, 0, none⟩ 0 cap [] rfl (by simp)
    have hnc : ¬ (281474976710656 < Builtin.nextslicecap k cap * 8) := by
      have := growslice_fits (need := k) (old := cap) (bytes := 8) (by omega) (by omega)
      omega
    have hge := grownCap_ge w k cap 22
    have hle := grownCap_le_maxLen w k cap 22 (by unfold maxLen; omega)
    have hR' := Rw.new w.drew 22 ((List.replicate k 0).map dg ++ (List.replicate (grownCap w k cap 22 - k) 0).map dg)
    refine ⟨w.heap.size, grownCap w k cap 22, w.drew.alloc (.cells ((List.replicate k 0).map dg ++ (List.replicate (grownCap w k cap 22 - k) 0).map dg).toArray 22), ?_, ⟨_, _, hR', ?_, ?_, hle, ?_⟩, ⟨rfl, rfl, rfl, by simp, fun k hk _ => Below.heap_alloc w.drew _ k hk⟩, .inr (Nat.le_refl _)⟩
    · have h63 : ¬ (9223372036854775807 < (k : Int)) := by omega
      have hkz : ¬ k = 0 := by omega
      simp [Builtin.append_, run_underlying Tryd.underlying54, run_underlying Tryd.underlying3, sizeOf, typeInfo, zeroValue, asInt, asIntOf, hi, hz, hs, hb, hw, hk0, hbig, hroom, h63, hkz, zeroCells_one, hnc, Question.forced, hf, newRow, grownCap]
    · simpa using hge
    · simp; omega
    · rw [List.take_left' (by simp)]

/-- append(row, make(row, k)...) in a walk, the row empty. -/
theorem wpList_append_zeros {w : World} {ops : Array Oper} {rest : List Oper} {o : Oper} {a : Act} {Q : Exit → Act → World → Prop} (hgd : o.guard = none) (s y : Operand)
    (ho : o.op = .call { callee := .builtin .append, args := #[s, y], argTypes := #[54, 3] })
    (g cap : Nat) (hs : a.eval s = .slice (some ⟨g, 0, none⟩) 0 cap) (h : Own64 w g cap []) (k : Nat) (c : Int) (hc : c = (k : Int)) (hy : a.eval y = .int .i64 c) (hmax : k ≤ 10000000000000)
    (hk : ∀ g' cap' w', Own64 w' g' cap' (List.replicate k 0) → w.grownBy w' (some g) → (g' = g ∨ w.heap.size ≤ g') → wpList Tryd.prog ops Q rest (a.put o.dst (.slice (some ⟨g', 0, none⟩) k cap')) w') : wpList Tryd.prog ops Q (o :: rest) a w := by
  subst hc
  refine wpList_plain hgd fun K hK => ?_
  obtain ⟨g', cap', w', hr, h2, h3, h4⟩ := run_append_zeros w o.type g cap h k hmax
  unfold Oper.wp execOp
  simp only [ho, resolve, invoke, builtin, Sem.run_bind, Sem.run_pure, Result.andThen_ok, List.map_toArray, List.map_cons, List.map_nil, hs, hy, hr]
  exact hK _ _ (hk g' cap' w' h2 h3 h4)

/-- Another row's digits appended. -/
theorem run_append_row (w : World) (ty : TypeId) (g cap : Nat) (ds : List Nat) (n : Nat) (hn : ds.length = n) (h : Own64 w g cap ds) (a : Addr) (xs : List Nat) (m c : Nat) (hm : xs.length = m) (hx : ∀ j u, (xs.map dg)[j]? = some u → w.cell? (a.add j) = some u) (hmax : n ≤ 10000000000) (hmax2 : m ≤ 10000000000) :
    ∃ g' cap' w', (Builtin.append_ #[54, 54] ty #[.slice (some ⟨g, 0, none⟩) n cap, .slice (some a) m c]).run Tryd.prog w = .ok (.slice (some ⟨g', 0, none⟩) (n + m) cap') w' ∧
      Own64 w' g' cap' (ds ++ xs) ∧ w.grownBy w' (some g) ∧ (g' = g ∨ w.heap.size ≤ g') := by
  subst hn hm
  obtain ⟨i, hi, hz, hs, hb⟩ := info_parts info64
  obtain ⟨T, L, hR, h1, h2, h3, h4⟩ := h
  have h1c : ∀ u ∈ xs.map dg, u.oneCell' = true := by
    intro u hu
    obtain ⟨d, _, rfl⟩ := List.mem_map.1 hu
    rfl
  by_cases hroom : ds.length + xs.length ≤ cap
  · have hf := run_firstCells_some (P := Tryd.prog) w 1 xs.length a xs.length c (xs.map dg) (by simp) hx
    have hst := run_storeCells_at Tryd.prog g (ds.length * 1) T (xs.map dg) 0 L.toArray w hR (by simp; omega) h1c
    simp only [Nat.add_zero, Nat.mul_one, List.length_map] at hst
    refine ⟨g, cap, w.setRow g (L.take ds.length ++ xs.map dg ++ L.drop (ds.length + xs.length)).toArray, ?_, ⟨T, L.take ds.length ++ xs.map dg ++ L.drop (ds.length + xs.length), ?_, by simpa using hroom, ?_, h3, ?_⟩, ?_, .inl rfl⟩
    · simp [Builtin.append_, run_underlying Tryd.underlying54, sizeOf, typeInfo, hi, Builtin.lenOf, hroom, hs, hf, Addr.add_lit, hst]
    · exact setRow_heap w g L.toArray _ T _ hR
    · simp; omega
    · rw [List.length_append, List.take_left' (by rw [List.length_append, List.length_take, List.length_map]; omega), h4]; simp
    · exact ⟨rfl, rfl, rfl, by simp, fun k _ hk => setRow_other w g k _ (fun e => hk (by rw [e]))⟩
  · have hold : ∀ j u, (ds.map dg)[j]? = some u → w.cell? ((⟨g, 0, none⟩ : Addr).add j) = some u := by
      intro j u hj
      rw [addr_add0, hR.cell, ← hj, ← h4, List.getElem?_take_of_lt]
      have := (List.getElem?_eq_some_iff.1 hj).1
      simpa using this
    have hr := run_append_grow (P := Tryd.prog) w 54 ty 22 i _ Tryd.underlying54 hi hz ⟨g, 0, none⟩ ds.length cap (ds.map dg) (by rw [List.length_map, hs, Nat.mul_one]) hold a xs.length c (xs.map dg) (by simp [hs]) hx (by omega) (by omega) (growslice_fits (by omega) (by rw [hb]; omega))
    have hge := grownCap_ge w (ds.length + xs.length) cap 22
    have hle := grownCap_le_maxLen w (ds.length + xs.length) cap 22 (by unfold maxLen; omega)
    rw [zeroCells_one] at hr
    generalize grownCap w (ds.length + xs.length) cap 22 = G at *
    have hL : (ds.map dg).toArray ++ (xs.map dg).toArray ++ ((List.replicate (G - (ds.length + xs.length)) 0).map dg).toArray = (ds.map dg ++ xs.map dg ++ (List.replicate (G - (ds.length + xs.length)) 0).map dg).toArray := by
      apply Array.ext'; simp
    rw [hL] at hr
    refine ⟨_, _, _, hr, ⟨22, ds.map dg ++ xs.map dg ++ (List.replicate (G - (ds.length + xs.length)) 0).map dg, heap_alloc_new w.drew _, ?_, ?_, hle, ?_⟩, ⟨rfl, rfl, rfl, by simp, fun k hk _ => Below.heap_alloc w.drew _ k hk⟩, .inr (Nat.le_refl _)⟩
    · rw [List.length_append]; exact hge
    · simp; omega
    · rw [List.length_append, List.take_left' (by simp)]; simp
/-- append(row, row...) in a walk. -/
theorem wpList_append_row {w : World} {ops : Array Oper} {rest : List Oper} {o : Oper} {a : Act} {Q : Exit → Act → World → Prop} (hgd : o.guard = none) (s y : Operand)
    (ho : o.op = .call { callee := .builtin .append, args := #[s, y], argTypes := #[54, 54] })
    (g cap : Nat) (ds : List Nat) (n : Nat) (hs : a.eval s = .slice (some ⟨g, 0, none⟩) n cap) (hn : ds.length = n) (h : Own64 w g cap ds) (b : Nat) (xs : List Nat) (m c : Nat) (hy : a.eval y = .slice (some ⟨b, 0, none⟩) m c) (hm : xs.length = m) (hx : Ds w b 0 xs)
    (hmax : n ≤ 10000000000) (hmax2 : m ≤ 10000000000)
    (hk : ∀ g' cap' w', Own64 w' g' cap' (ds ++ xs) → w.grownBy w' (some g) → (g' = g ∨ w.heap.size ≤ g') → wpList Tryd.prog ops Q rest (a.put o.dst (.slice (some ⟨g', 0, none⟩) (n + m) cap')) w') : wpList Tryd.prog ops Q (o :: rest) a w := by
  refine wpList_plain hgd fun K hK => ?_
  have hx' : ∀ j u, (xs.map dg)[j]? = some u → w.cell? ((⟨b, 0, none⟩ : Addr).add j) = some u := by
    intro j u hj
    obtain ⟨hj1, hj2⟩ := List.getElem?_eq_some_iff.1 hj
    rw [addr_add0, ← hj2]
    have := hx j (by simpa using hj1)
    rw [Nat.zero_add] at this
    simpa using this
  obtain ⟨g', cap', w', hr, h2, h3, h4⟩ := run_append_row w o.type g cap ds n hn h ⟨b, 0, none⟩ xs m c hm hx' hmax hmax2
  unfold Oper.wp execOp
  simp only [ho, resolve, invoke, builtin, Sem.run_bind, Sem.run_pure, Result.andThen_ok, List.map_toArray, List.map_cons, List.map_nil, hs, hy, hr]
  exact hK _ _ (hk g' cap' w' h2 h3 h4)
end Go.Proofs.YtemlhloipjbecaaDoor
