/- Blocks that hold an Int: what stands in them behind a call, an alloc, a store; and a function's answer out of such a block. No function is walked in this text. -/
import Derived.Test.YtfgolecbchhokaaGreatDoorWNum
import Derived.Deep.RegionHeld3
namespace Go.Proofs.YtfgolecbchhokaaGreatDoor
open Go.RowKit Go.Shelf

/-- Block b holds these cells, none of them frozen. -/
def Bk (W : World) (b : Nat) (cs : Array Value) : Prop := W.heap[b]? = some (.cells cs 23 (0, 0))
section
variable {W W' : World} {b : Nat} {x y : Value} {cs : Array Value} {n : Bool} {s : ByteArray}
theorem Bk.lt (h : Bk W b cs) : b < W.heap.size := by
  rcases Nat.lt_or_ge b W.heap.size with hlt | hge
  · exact hlt
  · unfold Bk at h; rw [Array.getElem?_eq_none hge] at h; cases h
theorem Bk.new (w : World) (cs : Array Value) : Bk (w.alloc (.cells cs 23)) w.heap.size cs := heap_alloc_new w _
theorem Bk.alloc (h : Bk W b cs) (o : Obj) : Bk (W.alloc o) b cs := (Below.heap_alloc W o b h.lt).trans h
theorem Bk.below (h : Bk W b cs) (hq : Below W.heap.size W W') : Bk W' b cs := (hq.block b h.lt).trans h
theorem Bk.drew (h : Bk W b cs) : Bk W.drew b cs := h
theorem Bk.set_ (h : Bk W b #[x, y]) (u v : Value) : Bk ((W.setCell ⟨b, 0, none⟩ u).setCell ⟨b, 1, none⟩ v) b #[u, v] := by
  unfold Bk at h ⊢
  simp [World.setCell, Array.getElem?_modify, h]
theorem Bk.far (h : Bk W b cs) {p : Addr} (hp : b ≠ p.block) (u : Value) : Bk (W.setCell p u) b cs := (Below.heap_setCell W p u b hp).trans h
theorem Bk.facts (h : Bk W b #[x, y]) : W.cell? ⟨b, 0, none⟩ = some x ∧ W.cell? ⟨b, 1, none⟩ = some y ∧ W.frozen? ⟨b, 0, none⟩ = false ∧ W.frozen? ⟨b, 1, none⟩ = false := by
  unfold Bk at h
  refine ⟨?_, ?_, ?_, ?_⟩
  · rw [cell_of_row W b 0 _ _ _ h]; rfl
  · rw [cell_of_row W b 1 _ _ _ h]; rfl
  · simp [World.frozen?, h]
  · simp [World.frozen?, h]
theorem Bk.cells (h : Bk W b #[x, y]) : W.cell? ⟨b, 0, none⟩ = some x ∧ W.cell? ⟨b, 1, none⟩ = some y := ⟨h.facts.1, h.facts.2.1⟩
/-- Behind a call: what stood in an Int's block stands there still. -/
theorem held (h : W.cell? ⟨b, 0, none⟩ = some x ∧ W.cell? ⟨b, 1, none⟩ = some y) (hq : Below W.heap.size W W') : W'.cell? ⟨b, 0, none⟩ = some x ∧ W'.cell? ⟨b, 1, none⟩ = some y := by
  have hl := block_lt_of_cell h.1
  have hl' : (⟨b, 1, none⟩ : Addr).block < W.heap.size := hl
  exact ⟨(hq.cell hl).trans h.1, (hq.cell hl').trans h.2⟩
/-- Behind a store elsewhere. -/
theorem held_set {r i : Nat} {v : Value} (h : W.cell? ⟨b, 0, none⟩ = some x ∧ W.cell? ⟨b, 1, none⟩ = some y) (hr : b ≠ r) : (W.setCell ⟨r, i, none⟩ v).cell? ⟨b, 0, none⟩ = some x ∧ (W.setCell ⟨r, i, none⟩ v).cell? ⟨b, 1, none⟩ = some y := by
  have hk : (W.setCell ⟨r, i, none⟩ v).heap[b]? = W.heap[b]? := Below.heap_setCell W _ v b hr
  exact ⟨(World.cell?_of_block (w := W) (a := ⟨b, 0, none⟩) hk).trans h.1, (World.cell?_of_block (w := W) (a := ⟨b, 1, none⟩) hk).trans h.2⟩
theorem held_set2 {r i j : Nat} {u v : Value} (h : W.cell? ⟨b, 0, none⟩ = some x ∧ W.cell? ⟨b, 1, none⟩ = some y) (hr : b ≠ r) :
    ((W.setCell ⟨r, i, none⟩ u).setCell ⟨r, j, none⟩ v).cell? ⟨b, 0, none⟩ = some x ∧ ((W.setCell ⟨r, i, none⟩ u).setCell ⟨r, j, none⟩ v).cell? ⟨b, 1, none⟩ = some y := held_set (held_set h hr) hr
theorem held_alloc {o : Obj} (h : W.cell? ⟨b, 0, none⟩ = some x ∧ W.cell? ⟨b, 1, none⟩ = some y) : (W.alloc o).cell? ⟨b, 0, none⟩ = some x ∧ (W.alloc o).cell? ⟨b, 1, none⟩ = some y :=
  ⟨cell_past h.1 o, cell_past h.2 o⟩
end
theorem held2 {W W' : World} {b c : Nat} {x y x2 y2 : Value} (h : (W.cell? ⟨b, 0, none⟩ = some x ∧ W.cell? ⟨b, 1, none⟩ = some y) ∧ (W.cell? ⟨c, 0, none⟩ = some x2 ∧ W.cell? ⟨c, 1, none⟩ = some y2)) (hq : Below W.heap.size W W') : (W'.cell? ⟨b, 0, none⟩ = some x ∧ W'.cell? ⟨b, 1, none⟩ = some y) ∧ (W'.cell? ⟨c, 0, none⟩ = some x2 ∧ W'.cell? ⟨c, 1, none⟩ = some y2) :=
  ⟨held (h.1) hq, held (h.2) hq⟩
theorem held2_set2 {W : World} {b c : Nat} {x y x2 y2 : Value} {r i j : Nat} {u v : Value} (h : (W.cell? ⟨b, 0, none⟩ = some x ∧ W.cell? ⟨b, 1, none⟩ = some y) ∧ (W.cell? ⟨c, 0, none⟩ = some x2 ∧ W.cell? ⟨c, 1, none⟩ = some y2)) (hr : b ≠ r ∧ c ≠ r) : (((W.setCell ⟨r, i, none⟩ u).setCell ⟨r, j, none⟩ v).cell? ⟨b, 0, none⟩ = some x ∧ ((W.setCell ⟨r, i, none⟩ u).setCell ⟨r, j, none⟩ v).cell? ⟨b, 1, none⟩ = some y) ∧ (((W.setCell ⟨r, i, none⟩ u).setCell ⟨r, j, none⟩ v).cell? ⟨c, 0, none⟩ = some x2 ∧ ((W.setCell ⟨r, i, none⟩ u).setCell ⟨r, j, none⟩ v).cell? ⟨c, 1, none⟩ = some y2) :=
  ⟨held_set2 (h.1) (hr.1), held_set2 (h.2) (hr.2)⟩
theorem held2_alloc {W : World} {b c : Nat} {x y x2 y2 : Value} {o : Obj} (h : (W.cell? ⟨b, 0, none⟩ = some x ∧ W.cell? ⟨b, 1, none⟩ = some y) ∧ (W.cell? ⟨c, 0, none⟩ = some x2 ∧ W.cell? ⟨c, 1, none⟩ = some y2)) : ((W.alloc o).cell? ⟨b, 0, none⟩ = some x ∧ (W.alloc o).cell? ⟨b, 1, none⟩ = some y) ∧ ((W.alloc o).cell? ⟨c, 0, none⟩ = some x2 ∧ (W.alloc o).cell? ⟨c, 1, none⟩ = some y2) :=
  ⟨held_alloc (h.1), held_alloc (h.2)⟩
theorem held3 {W W' : World} {b c d : Nat} {x y x2 y2 x3 y3 : Value} (h : (W.cell? ⟨b, 0, none⟩ = some x ∧ W.cell? ⟨b, 1, none⟩ = some y) ∧ (W.cell? ⟨c, 0, none⟩ = some x2 ∧ W.cell? ⟨c, 1, none⟩ = some y2) ∧ (W.cell? ⟨d, 0, none⟩ = some x3 ∧ W.cell? ⟨d, 1, none⟩ = some y3)) (hq : Below W.heap.size W W') : (W'.cell? ⟨b, 0, none⟩ = some x ∧ W'.cell? ⟨b, 1, none⟩ = some y) ∧ (W'.cell? ⟨c, 0, none⟩ = some x2 ∧ W'.cell? ⟨c, 1, none⟩ = some y2) ∧ (W'.cell? ⟨d, 0, none⟩ = some x3 ∧ W'.cell? ⟨d, 1, none⟩ = some y3) :=
  ⟨held (h.1) hq, held (h.2.1) hq, held (h.2.2) hq⟩
theorem held3_set2 {W : World} {b c d : Nat} {x y x2 y2 x3 y3 : Value} {r i j : Nat} {u v : Value} (h : (W.cell? ⟨b, 0, none⟩ = some x ∧ W.cell? ⟨b, 1, none⟩ = some y) ∧ (W.cell? ⟨c, 0, none⟩ = some x2 ∧ W.cell? ⟨c, 1, none⟩ = some y2) ∧ (W.cell? ⟨d, 0, none⟩ = some x3 ∧ W.cell? ⟨d, 1, none⟩ = some y3)) (hr : b ≠ r ∧ c ≠ r ∧ d ≠ r) : (((W.setCell ⟨r, i, none⟩ u).setCell ⟨r, j, none⟩ v).cell? ⟨b, 0, none⟩ = some x ∧ ((W.setCell ⟨r, i, none⟩ u).setCell ⟨r, j, none⟩ v).cell? ⟨b, 1, none⟩ = some y) ∧ (((W.setCell ⟨r, i, none⟩ u).setCell ⟨r, j, none⟩ v).cell? ⟨c, 0, none⟩ = some x2 ∧ ((W.setCell ⟨r, i, none⟩ u).setCell ⟨r, j, none⟩ v).cell? ⟨c, 1, none⟩ = some y2) ∧ (((W.setCell ⟨r, i, none⟩ u).setCell ⟨r, j, none⟩ v).cell? ⟨d, 0, none⟩ = some x3 ∧ ((W.setCell ⟨r, i, none⟩ u).setCell ⟨r, j, none⟩ v).cell? ⟨d, 1, none⟩ = some y3) :=
  ⟨held_set2 (h.1) (hr.1), held_set2 (h.2.1) (hr.2.1), held_set2 (h.2.2) (hr.2.2)⟩
theorem held3_alloc {W : World} {b c d : Nat} {x y x2 y2 x3 y3 : Value} {o : Obj} (h : (W.cell? ⟨b, 0, none⟩ = some x ∧ W.cell? ⟨b, 1, none⟩ = some y) ∧ (W.cell? ⟨c, 0, none⟩ = some x2 ∧ W.cell? ⟨c, 1, none⟩ = some y2) ∧ (W.cell? ⟨d, 0, none⟩ = some x3 ∧ W.cell? ⟨d, 1, none⟩ = some y3)) : ((W.alloc o).cell? ⟨b, 0, none⟩ = some x ∧ (W.alloc o).cell? ⟨b, 1, none⟩ = some y) ∧ ((W.alloc o).cell? ⟨c, 0, none⟩ = some x2 ∧ (W.alloc o).cell? ⟨c, 1, none⟩ = some y2) ∧ ((W.alloc o).cell? ⟨d, 0, none⟩ = some x3 ∧ (W.alloc o).cell? ⟨d, 1, none⟩ = some y3) :=
  ⟨held_alloc (h.1), held_alloc (h.2.1), held_alloc (h.2.2)⟩
theorem below_set2 {B : Nat} {w W : World} (h : Below B w W) {b : Nat} (hb : B ≤ b) (i j : Nat) (u v : Value) : Below B w ((W.setCell ⟨b, i, none⟩ u).setCell ⟨b, j, none⟩ v) := (h.setCell hb u).setCell hb v
theorem infoI : (Tryz.prog.info? 23).map (·.size) = some 2 := by kernel_rfl
theorem fb_empty (m : Nat) : (fb m).toList.isEmpty = decide (m = 0) := by
  rw [ByteArray.toList_eq, fb_toList]
  by_cases h : m = 0
  · subst h; rfl
  · rw [decide_eq_false h]
    cases hl : formL m with
    | nil => exact absurd (formL_inj (hl.trans formL_zero.symm)) h
    | cons _ _ => rfl
/-- A function's one answer, an Int, out of its block. -/
theorem ret_whole {fn : Func} {p : Tmp} {tmps : Array Value} {W : World} {r : Nat} {n : Bool} {s : ByteArray} {Q : Ending → World → Prop} (h : fn.results = #[.cell p 23]) (hp : tmps.getD p undef = .pointer (some ⟨r, 0, none⟩))
    (hr : Bk W r #[.bool n, .string s]) (hQ : Q (.returned (wi n s)) W) : bodyPost Tryz.prog fn Q Exit.ret { tmps := tmps, defers := [] } W :=
  bodyPost_ret (results_cell_row h _ W r _ _ _ _ hp hr Tryz.underlying23 rfl infoI) rfl hQ
/-- The blocks of a function with one Int in and one out. -/
theorem blocks2 (w : World) (a b : Array Value) : Bk ((w.alloc (.cells a 23)).alloc (.cells b 23)) w.heap.size a ∧ Bk ((w.alloc (.cells a 23)).alloc (.cells b 23)) (w.heap.size + 1) b ∧
    Below w.heap.size w ((w.alloc (.cells a 23)).alloc (.cells b 23)) := by
  refine ⟨(Bk.new w a).alloc _, ?_, ((Below.refl _ _).alloc (Nat.le_refl _) _).alloc (by rw [World.size_alloc]; omega) _⟩
  have := Bk.new (w.alloc (.cells a 23)) b
  rwa [World.size_alloc] at this
theorem blocks3 (w : World) (a b c : Array Value) : Bk (((w.alloc (.cells a 23)).alloc (.cells b 23)).alloc (.cells c 23)) w.heap.size a ∧ Bk (((w.alloc (.cells a 23)).alloc (.cells b 23)).alloc (.cells c 23)) (w.heap.size + 1) b ∧
    Bk (((w.alloc (.cells a 23)).alloc (.cells b 23)).alloc (.cells c 23)) (w.heap.size + 1 + 1) c ∧ Below w.heap.size w (((w.alloc (.cells a 23)).alloc (.cells b 23)).alloc (.cells c 23)) := by
  obtain ⟨h1, h2, h3⟩ := blocks2 w a b
  refine ⟨h1.alloc _, h2.alloc _, ?_, h3.alloc (by rw [World.size_alloc, World.size_alloc]; omega) _⟩
  have := Bk.new ((w.alloc (.cells a 23)).alloc (.cells b 23)) c
  rwa [World.size_alloc, World.size_alloc] at this
theorem blocks1 (w : World) (a : Array Value) : Bk (w.alloc (.cells a 23)) w.heap.size a ∧ Below w.heap.size w (w.alloc (.cells a 23)) :=
  ⟨Bk.new w a, (Below.refl _ _).alloc (Nat.le_refl _) _⟩
theorem blocks4 (w : World) (a b c d : Array Value) : Bk ((((w.alloc (.cells a 23)).alloc (.cells b 23)).alloc (.cells c 23)).alloc (.cells d 23)) w.heap.size a ∧ Bk ((((w.alloc (.cells a 23)).alloc (.cells b 23)).alloc (.cells c 23)).alloc (.cells d 23)) (w.heap.size + 1) b ∧
    Bk ((((w.alloc (.cells a 23)).alloc (.cells b 23)).alloc (.cells c 23)).alloc (.cells d 23)) (w.heap.size + 1 + 1) c ∧ Bk ((((w.alloc (.cells a 23)).alloc (.cells b 23)).alloc (.cells c 23)).alloc (.cells d 23)) (w.heap.size + 1 + 1 + 1) d ∧ Below w.heap.size w ((((w.alloc (.cells a 23)).alloc (.cells b 23)).alloc (.cells c 23)).alloc (.cells d 23)) := by
  obtain ⟨h1, h2, h3, h4⟩ := blocks3 w a b c
  refine ⟨h1.alloc _, h2.alloc _, h3.alloc _, ?_, h4.alloc (by rw [World.size_alloc, World.size_alloc, World.size_alloc]; omega) _⟩
  have := Bk.new (((w.alloc (.cells a 23)).alloc (.cells b 23)).alloc (.cells c 23)) d
  rwa [World.size_alloc, World.size_alloc, World.size_alloc] at this
theorem results_two {fn : Func} {p q u : Tmp} {tmps : Array Value} {W : World} {r1 r2 : Nat} {cs ds : Array Value} {v : Value} (h : fn.results = #[.cell p 23, .cell q 23, .tmp u]) (hp : tmps.getD p undef = .pointer (some ⟨r1, 0, none⟩)) (hq : tmps.getD q undef = .pointer (some ⟨r2, 0, none⟩)) (hu : tmps.getD u undef = v)
    (h1 : Bk W r1 cs) (h2 : Bk W r2 ds) (hc : cs.size = 2) (hd : ds.size = 2) : (results fn tmps).run Tryz.prog W = .ok (.tuple #[.agg cs, .agg ds, v]) W := by
  have hp' : tmps[p]?.getD undef = .pointer (some ⟨r1, 0, none⟩) := by simpa using hp
  have hq' : tmps[q]?.getD undef = .pointer (some ⟨r2, 0, none⟩) := by simpa using hq
  have hu' : tmps[u]?.getD undef = v := by simpa using hu
  have e1 := run_loadVar_row (P := Tryz.prog) W r1 _ 23 cs _ _ h1 Tryz.underlying23 rfl (by rw [hc]; exact infoI)
  have e2 := run_loadVar_row (P := Tryz.prog) W r2 _ 23 ds _ _ h2 Tryz.underlying23 rfl (by rw [hd]; exact infoI)
  simp [results, h, hp', hq', hu', asAddr, e1, e2]
/-- A function's three answers: two Ints out of their blocks, and a third one. -/
theorem ret_two {fn : Func} {p q u : Tmp} {tmps : Array Value} {W : World} {r1 r2 : Nat} {x y x' y' v : Value} {Q : Ending → World → Prop} (h : fn.results = #[.cell p 23, .cell q 23, .tmp u]) (hp : tmps.getD p undef = .pointer (some ⟨r1, 0, none⟩)) (hq : tmps.getD q undef = .pointer (some ⟨r2, 0, none⟩)) (hu : tmps.getD u undef = v)
    (h1 : Bk W r1 #[x, y]) (h2 : Bk W r2 #[x', y']) (hQ : Q (.returned (.tuple #[.agg #[x, y], .agg #[x', y'], v])) W) : bodyPost Tryz.prog fn Q Exit.ret { tmps := tmps, defers := [] } W :=
  bodyPost_ret (results_two h hp hq hu h1 h2 rfl rfl) rfl hQ
theorem two_set {W : World} {c d : Nat} {x y x' y' : Value} (hC : Bk W c #[x, y]) (hD : Bk W d #[x', y']) (hne : c ≠ d) (u v u' v' : Value) : Bk ((((W.setCell ⟨c, 0, none⟩ u).setCell ⟨c, 1, none⟩ v).setCell ⟨d, 0, none⟩ u').setCell ⟨d, 1, none⟩ v') c #[u, v] ∧ Bk ((((W.setCell ⟨c, 0, none⟩ u).setCell ⟨c, 1, none⟩ v).setCell ⟨d, 0, none⟩ u').setCell ⟨d, 1, none⟩ v') d #[u', v'] :=
  ⟨((hC.set_ u v).far hne u').far hne v', ((hD.far (Ne.symm hne) u).far (Ne.symm hne) v).set_ u' v'⟩
theorem below_set4 {B : Nat} {w W : World} (h : Below B w W) {c d : Nat} (hc : B ≤ c) (hd : B ≤ d) (u v u' v' : Value) : Below B w ((((W.setCell ⟨c, 0, none⟩ u).setCell ⟨c, 1, none⟩ v).setCell ⟨d, 0, none⟩ u').setCell ⟨d, 1, none⟩ v') :=
  below_set2 (below_set2 h hc _ _ _ _) hd _ _ _ _
end Go.Proofs.YtfgolecbchhokaaGreatDoor
