/- Rows of texts that grow: append of one text. -/
import Derived.Test.YtfgolecbchhokaaGreatDoorWRow
import Derived.Laws.AppendOwn
import Derived.Test.YtfgolecbchhokaaGreatDoorG3
namespace Go.Proofs.YtfgolecbchhokaaGreatDoor
open Go.RowKit Go.Shelf

/-- A text, as a cell. -/
def sv (s : ByteArray) : Value := .string s
/-- Block g holds the texts ds at its head, with room for cap of them in all. -/
def OwnS (w : World) (g cap : Nat) (ds : List ByteArray) : Prop := ∃ T L, Rw w g T L ∧ ds.length ≤ cap ∧ cap = L.length ∧ cap ≤ maxLen ∧ L.take ds.length = ds.map sv
section
variable {w w' : World} {g cap : Nat}
theorem OwnS.lt {ds : List ByteArray} (h : OwnS w g cap ds) : g < w.heap.size := by obtain ⟨_, _, h, _⟩ := h; exact h.lt
theorem OwnS.le {ds : List ByteArray} (h : OwnS w g cap ds) : ds.length ≤ cap := by obtain ⟨_, _, _, h, _⟩ := h; exact h
theorem OwnS.max {ds : List ByteArray} (h : OwnS w g cap ds) : cap ≤ maxLen := by obtain ⟨_, _, _, _, _, h, _⟩ := h; exact h
theorem OwnS.cell {ds : List ByteArray} (h : OwnS w g cap ds) (i : Nat) (hi : i < ds.length) : w.cell? ⟨g, 0 + i, none⟩ = some (.string ds[i]) := by
  obtain ⟨T, L, h, h1, h2, h3, h4⟩ := h
  rw [Nat.zero_add, h.cell]
  have : (L.take ds.length)[i]? = (ds.map sv)[i]? := by rw [h4]
  rw [List.getElem?_take_of_lt hi] at this
  rw [this]
  simp [hi, sv]
theorem OwnS.grown {ds : List ByteArray} {row : Option Nat} (h : OwnS w g cap ds) (hg : w.grownBy w' row) (hne : some g ≠ row) : OwnS w' g cap ds := by
  obtain ⟨T, L, h, r⟩ := h
  exact ⟨T, L, h.grown hg hne, r⟩
theorem OwnS.below {ds : List ByteArray} {B : Nat} (h : OwnS w g cap ds) (hb : Below B w w') (hlt : g < B) : OwnS w' g cap ds := by
  obtain ⟨T, L, h, r⟩ := h
  exact ⟨T, L, h.below hb hlt, r⟩
theorem OwnS.alloc {ds : List ByteArray} (h : OwnS w g cap ds) (o : Obj) : OwnS (w.alloc o) g cap ds := by
  obtain ⟨T, L, h, r⟩ := h
  exact ⟨T, L, h.alloc o, r⟩
/-- The digits' block, parted. -/
theorem OwnS.parts {ds : List ByteArray} (h : OwnS w g cap ds) : ∃ T post, Rw w g T ([] ++ ds.map sv ++ post) ∧ cap = ds.length + post.length ∧ cap ≤ maxLen := by
  obtain ⟨T, L, h, h1, h2, h3, h4⟩ := h
  refine ⟨T, L.drop ds.length, ?_, by simp; omega, h3⟩
  rw [List.nil_append, ← h4, List.take_append_drop]
  exact h
theorem OwnS.of_parts {ds : List ByteArray} {T : TypeId} {post : List Value} (h : Rw w g T ([] ++ ds.map sv ++ post)) (hc : cap = ds.length + post.length) (hm : cap ≤ maxLen) : OwnS w g cap ds :=
  ⟨T, _, h, by omega, by simp [hc], hm, by simp⟩
theorem OwnS.empty {T : TypeId} {L : List Value} (h : Rw w g T L) (hm : L.length ≤ maxLen) : OwnS w g L.length [] := ⟨T, L, h, Nat.zero_le _, rfl, hm, by simp [List.take_zero]⟩
theorem OwnS.full {ds : List ByteArray} {T : TypeId} (h : Rw w g T (ds.map sv)) (hm : ds.length ≤ maxLen) : OwnS w g ds.length ds := ⟨T, _, h, Nat.le_refl _, by simp, hm, by rw [List.take_of_length_le (by simp)]⟩
end

theorem infoS : (Tryz.prog.info? 9).map (fun i => (i.zero, i.size, i.bytes)) = some (some (.string ⟨#[]⟩), 1, 16) := by kernel_rfl

set_option maxRecDepth 100000 in
theorem run_append_str (w : World) (ty : TypeId) (g cap : Nat) (ds : List ByteArray) (n : Nat) (hn : ds.length = n) (h : OwnS w g cap ds) (a : Addr) (x : ByteArray) (c : Nat) (hx : ∀ j u, [sv x][j]? = some u → w.cell? (a.add j) = some u) (hmax : n ≤ 1000000000000) :
    ∃ g' cap' w', (Builtin.append_ #[85, 85] ty #[.slice (some ⟨g, 0, none⟩) n cap, .slice (some a) 1 c]).run Tryz.prog w = .ok (.slice (some ⟨g', 0, none⟩) (n + 1) cap') w' ∧
      OwnS w' g' cap' (ds ++ [x]) ∧ w.grownBy w' (some g) ∧ (g' = g ∨ g' = w.heap.size) := by
  subst hn
  obtain ⟨i, hi, hz, hs, hb⟩ := info_parts infoS
  obtain ⟨T, L, hR, h1, h2, h3, h4⟩ := h
  have h1c : ∀ u ∈ [sv x], u.oneCell' = true := by intro u hu; simp at hu; subst hu; rfl
  by_cases hroom : ds.length + 1 ≤ cap
  · have hf := run_firstCells_some (P := Tryz.prog) w i.size 1 a 1 c [sv x] (by simp [hs]) hx
    have hst := run_storeCells_at Tryz.prog g (ds.length * i.size) T [sv x] 0 L.toArray w hR (by simp [hs]; omega) h1c
    simp only [Nat.add_zero] at hst
    refine ⟨g, cap, w.setRow g (L.take ds.length ++ [sv x] ++ L.drop (ds.length + 1)).toArray, ?_, ⟨T, L.take ds.length ++ [sv x] ++ L.drop (ds.length + 1), ?_, by simpa using hroom, ?_, h3, ?_⟩, ?_, .inl rfl⟩
    · rw [hs, Nat.mul_one] at hst
      simp only [hs] at hf
      simp [Builtin.append_, run_underlying Tryz.underlying85, sizeOf, typeInfo, hi, Builtin.lenOf, hroom, hs, hf, Addr.add_lit, hst]
    · exact setRow_heap w g L.toArray _ T _ hR
    · simp; omega
    · rw [List.length_append, List.length_singleton, List.take_left' (by rw [List.length_append, List.length_take, List.length_singleton]; omega), h4]; simp
    · exact ⟨rfl, rfl, rfl, by simp, fun k _ hk => setRow_other w g k _ (fun e => hk (by rw [e]))⟩
  · have hcap : cap = ds.length := by omega
    have hold : ∀ j u, (ds.map sv)[j]? = some u → w.cell? ((⟨g, 0, none⟩ : Addr).add j) = some u := by
      intro j u hj
      rw [addr_add0, hR.cell, ← hj, ← h4, List.getElem?_take_of_lt]
      have := (List.getElem?_eq_some_iff.1 hj).1
      simpa using this
    have hr := run_append_grow (P := Tryz.prog) w 85 ty 9 i _ Tryz.underlying85 hi hz ⟨g, 0, none⟩ ds.length cap (ds.map sv) (by rw [List.length_map, hs, Nat.mul_one]) hold a 1 c [sv x] (by simp [hs]) hx (by omega) (by omega) (growslice_fits (by omega) (by rw [hb]; omega))
    have hZs := size_zeroCells (Value.cells (.string ⟨#[]⟩)) (grownCap w (ds.length + 1) cap 9 - (ds.length + 1))
    have hge := grownCap_ge w (ds.length + 1) cap 9
    have hle := grownCap_le_maxLen w (ds.length + 1) cap 9 (by unfold maxLen; omega)
    rw [show (Value.cells (.string ⟨#[]⟩)).size = 1 from rfl, Nat.mul_one] at hZs
    generalize Builtin.zeroCells (Value.cells (.string ⟨#[]⟩)) (grownCap w (ds.length + 1) cap 9 - (ds.length + 1)) = Z at hr hZs
    generalize grownCap w (ds.length + 1) cap 9 = G at *
    have hL : (ds.map sv).toArray ++ [sv x].toArray ++ Z = (ds.map sv ++ [sv x] ++ Z.toList).toArray := by
      apply Array.ext'; simp
    rw [hL] at hr
    refine ⟨_, _, _, hr, ⟨9, ds.map sv ++ [sv x] ++ Z.toList, heap_alloc_new w.drew _, ?_, ?_, hle, ?_⟩, ⟨rfl, rfl, rfl, by simp, fun k hk _ => Below.heap_alloc w.drew _ k hk⟩, .inr rfl⟩
    · rw [List.length_append, List.length_singleton]; exact hge
    · have hz' : Z.toList.length = Z.size := Array.length_toList
      rw [List.length_append, List.length_append, List.length_map, List.length_singleton, hz']; omega
    · rw [List.length_append, List.length_singleton, List.take_left' (by simp)]; simp
/-- append(s, x) in a walk. -/
theorem wpList_append_str {w : World} {ops : Array Oper} {rest : List Oper} {o : Oper} {a : Act} {Q : Exit → Act → World → Prop} (hgd : o.guard = none) (s y : Operand)
    (ho : o.op = .call { callee := .builtin .append, args := #[s, y], argTypes := #[85, 85] })
    (g cap : Nat) (ds : List ByteArray) (n : Nat) (hs : a.eval s = .slice (some ⟨g, 0, none⟩) n cap) (hn : ds.length = n) (h : OwnS w g cap ds) (b : Addr) (x : ByteArray) (c : Nat) (hy : a.eval y = .slice (some b) 1 c)
    (hx : ∀ j u, [sv x][j]? = some u → w.cell? (b.add j) = some u) (hmax : n ≤ 1000000000000)
    (hk : ∀ g' cap' w', OwnS w' g' cap' (ds ++ [x]) → w.grownBy w' (some g) → (g' = g ∨ g' = w.heap.size) → wpList Tryz.prog ops Q rest (a.put o.dst (.slice (some ⟨g', 0, none⟩) (n + 1) cap')) w') : wpList Tryz.prog ops Q (o :: rest) a w := by
  refine wpList_plain hgd fun K hK => ?_
  obtain ⟨g', cap', w', hr, h2, h3, h4⟩ := run_append_str w o.type g cap ds n hn h b x c hx hmax
  unfold Oper.wp execOp
  simp only [ho, resolve, invoke, builtin, Sem.run_bind, Sem.run_pure, Result.andThen_ok, List.map_toArray, List.map_cons, List.map_nil, hs, hy, hr]
  exact hK _ _ (hk g' cap' w' h2 h3 h4)
theorem one_str (w : World) (x : ByteArray) : ∀ j u, [sv x][j]? = some u → (w.alloc (.cells #[.string x] 9)).cell? ((⟨w.heap.size, 0, none⟩ : Addr).add j) = some u := by
  intro j u hj
  have h := (Rw.new w 9 [sv x]).cell j
  rw [addr_add0]
  exact h.trans hj
/-- Behind what lies at the block's start. -/
theorem OwnS.rows {w : World} {g cap : Nat} {l : List ByteArray} (h : OwnS w g cap l) : ∀ i (h : i < l.length), ∃ lb lo, some (⟨g, 0, none⟩ : Addr) = some ⟨lb, lo, none⟩ ∧ lb < w.heap.size ∧ w.cell? ⟨lb, lo + i, none⟩ = some (.string l[i]) :=
  fun i hi => ⟨g, 0, rfl, h.lt, h.cell i hi⟩
end Go.Proofs.YtfgolecbchhokaaGreatDoor
