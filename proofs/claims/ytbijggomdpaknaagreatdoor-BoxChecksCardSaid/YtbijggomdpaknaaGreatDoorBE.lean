/- Layer 1, laid together: BX6, BX7. -/
import Derived.Test.YtbijggomdpaknaaGreatDoorBA
import Derived.Test.YtbijggomdpaknaaGreatDoorBXApp
import Derived.Deep.CutBlock
/- Package box: halves kept; slices.Clone; walked. -/
namespace Go.Proofs.YtbijggomdpaknaaGreatDoor
open Go.RowKit Go.Shelf

theorem flat_set : ∀ (l : List SV) (a : Nat) (y : SV), flat (l.set a y) = ((flat l).set (2 * a) y.1).set (2 * a + 1) y.2
  | [], a, y => rfl
  | x :: l, 0, y => rfl
  | x :: l, a + 1, y => by
    show x.1 :: x.2 :: flat (l.set a y) = ((x.1 :: x.2 :: flat l).set (2 * a + 1 + 1) y.1).set (2 * a + 1 + 1 + 1) y.2
    rw [flat_set l a y]
    rfl
/-- A block that begins with these numbers. -/
def Rp (w : World) (g : Nat) (l : List NV) : Prop := ∃ T L, Rw w g T L ∧ L.take (l.length * 3) = ncells l
section
variable {w w' : World} {g : Nat} {l : List NV}
theorem Rn.rp (h : Rn w g l) : Rp w g l := by
  obtain ⟨T, h⟩ := h
  exact ⟨T, _, h, by rw [← ncells_len]; exact List.take_of_length_le (Nat.le_refl _)⟩
theorem Rp.lt (h : Rp w g l) : g < w.heap.size := by obtain ⟨_, _, h, _⟩ := h; exact h.lt
theorem Rp.below (h : Rp w g l) (hq : Below w.heap.size w w') : Rp w' g l := by obtain ⟨T, L, h, k⟩ := h; exact ⟨T, L, h.below hq h.lt, k⟩
theorem Rp.alloc (h : Rp w g l) (o : Obj) : Rp (w.alloc o) g l := by obtain ⟨T, L, h, k⟩ := h; exact ⟨T, L, h.alloc o, k⟩
theorem Rp.drew (h : Rp w g l) : Rp w.drew g l := h
theorem Rp.far (h : Rp w g l) {p : Addr} (hp : g ≠ p.block) (u : Value) : Rp (w.setCell p u) g l := by obtain ⟨T, L, h, k⟩ := h; exact ⟨T, L, h.far hp u, k⟩
theorem Rp.fr {w : World} {g : Nat} {l : List NV} (h : Rp w g l) (A k : Nat) (u : Value) (hp : g ≠ A := by omega) : Rp (w.setCell ⟨A, k, none⟩ u) g l := h.far (p := ⟨A, k, none⟩) hp u
theorem Rp.grown {row : Option Nat} (h : Rp w g l) (hb : w.grownBy w' row) (hg : some g ≠ row) : Rp w' g l := by obtain ⟨T, L, h, k⟩ := h; exact ⟨T, L, h.grown hb hg, k⟩
theorem Rp.facts (h : Rp w g l) (i : Nat) (hi : i < l.length) : w.cell? ⟨g, i * 3, none⟩ = some (.bool l[i].1) ∧ w.cell? ⟨g, i * 3 + 1, none⟩ = some (.string l[i].2.1) ∧ w.cell? ⟨g, i * 3 + 2, none⟩ = some (.int .i64 l[i].2.2) ∧
    w.frozen? ⟨g, i * 3, none⟩ = false ∧ w.frozen? ⟨g, i * 3 + 1, none⟩ = false ∧ w.frozen? ⟨g, i * 3 + 2, none⟩ = false := by
  obtain ⟨T, L, h, k⟩ := h
  obtain ⟨h1, h2, h3⟩ := ncells_get l i hi
  have hL : ∀ j, j < l.length * 3 → L[j]? = (ncells l)[j]? := fun j hj => by rw [← k, List.getElem?_take_of_lt hj]
  exact ⟨by rw [h.cell, hL _ (by omega)]; exact h1, by rw [h.cell, hL _ (by omega)]; exact h2, by rw [h.cell, hL _ (by omega)]; exact h3, h.frozen _, h.frozen _, h.frozen _⟩
theorem Rp.nat (h : Rp w g l) : NAt w (some ⟨g, 0, none⟩) l := by
  intro i hi
  obtain ⟨h1, h2, h3, -⟩ := h.facts i hi
  exact ⟨g, 0, rfl, h.lt, by rw [Nat.zero_add]; exact h1, by rw [Nat.zero_add]; exact h2, by rw [Nat.zero_add]; exact h3⟩
theorem Rp.set_ (h : Rp w g l) (i : Nat) (x : NV) : Rp (((w.setCell ⟨g, i * 3, none⟩ (.bool x.1)).setCell ⟨g, i * 3 + 1, none⟩ (.string x.2.1)).setCell ⟨g, i * 3 + 2, none⟩ (.int .i64 x.2.2)) g (l.set i x) := by
  obtain ⟨T, L, h, k⟩ := h
  refine ⟨T, _, ((h.set_ _ _).set_ _ _).set_ _ _, ?_⟩
  rw [ncells_set, List.length_set, List.take_set, List.take_set, List.take_set, k]
theorem own_rp {B n : Nat} {e : TypeId} {v : Value} {q : List SV} (hn : q.length = n) (h0 : 0 < n) (h : w.ownsRow B e 6 v n (ncells (flat q))) : ∃ g c, v = .slice (some ⟨g, 0, none⟩) n c ∧ B ≤ g ∧ n ≤ c ∧ Rp w g (flat q) := by
  rcases h.2 with ⟨_, h1⟩ | ⟨g, cap, cur, rfl, hB, hg, hc, _, _, ht⟩
  · omega
  · exact ⟨g, cap, rfl, hB, hc, e, cur.toList, hg, by rw [flat_len, hn, show 2 * n * 3 = n * 6 by omega]; exact ht⟩
end
theorem grown_of {w W : World} {g : Nat} (h : Below w.heap.size w W) : w.grownBy W (some g) := ⟨h.os, h.tape, h.output, h.size, fun k hk _ => h.block k hk⟩
theorem infoHv : (Tryz.prog.info? 70).map (·.size) = some 8 := by kernel_rfl
theorem ret_halved {fn : Func} {p : Tmp} {tmps : Array Value} {W : World} {r : Nat} {c0 c1 c2 c3 c4 c5 c6 c7 : Value} {Q : Ending → World → Prop} (h : fn.results = #[.cell p 70]) (hp : tmps.getD p undef = .pointer (some ⟨r, 0, none⟩))
    (hr : Rw W r 70 [c0, c1, c2, c3, c4, c5, c6, c7]) (hQ : Q (.returned (.agg #[c0, c1, c2, c3, c4, c5, c6, c7])) W) : bodyPost Tryz.prog fn Q Exit.ret { tmps := tmps, defers := [] } W :=
  bodyPost_ret (results_cell_row h _ W r _ _ _ _ hp hr Tryz.underlying70 rfl infoHv) rfl hQ
/-- A half to be, as a value. -/
def hagg (x : SV) (a : Nat) (ad : Option Addr) (n c : Nat) : Value := .agg #[.bool x.1.1, .string x.1.2.1, .int .i64 x.1.2.2, .bool x.2.1, .string x.2.2.1, .int .i64 x.2.2.2, .int .i64 a, .slice ad n c]
theorem Rw.facts8 {w : World} {b : Nat} {T : TypeId} {c0 c1 c2 c3 c4 c5 c6 c7 : Value} (h : Rw w b T [c0, c1, c2, c3, c4, c5, c6, c7]) : w.cell? ⟨b, 0, none⟩ = some c0 ∧ w.cell? ⟨b, 1, none⟩ = some c1 ∧ w.cell? ⟨b, 2, none⟩ = some c2 ∧ w.cell? ⟨b, 3, none⟩ = some c3 ∧ w.cell? ⟨b, 4, none⟩ = some c4 ∧ w.cell? ⟨b, 5, none⟩ = some c5 ∧ w.cell? ⟨b, 6, none⟩ = some c6 ∧ w.cell? ⟨b, 7, none⟩ = some c7 ∧
    w.frozen? ⟨b, 0, none⟩ = false ∧ w.frozen? ⟨b, 1, none⟩ = false ∧ w.frozen? ⟨b, 2, none⟩ = false ∧ w.frozen? ⟨b, 3, none⟩ = false ∧ w.frozen? ⟨b, 4, none⟩ = false ∧ w.frozen? ⟨b, 5, none⟩ = false ∧ w.frozen? ⟨b, 6, none⟩ = false ∧ w.frozen? ⟨b, 7, none⟩ = false :=
  ⟨h.cell 0, h.cell 1, h.cell 2, h.cell 3, h.cell 4, h.cell 5, h.cell 6, h.cell 7, h.frozen 0, h.frozen 1, h.frozen 2, h.frozen 3, h.frozen 4, h.frozen 5, h.frozen 6, h.frozen 7⟩
set_option maxRecDepth 100000 in
set_option maxHeartbeats 1600000 in
theorem balong_any (w : World) (ad : Option Addr) (l : List SV) (n c a : Nat) (hn : l.length = n) (hl : SAt w ad l) (ha : a < l.length) :
    Calls Tryz.prog 48 #[.slice ad n c, .int .i64 a] w (Ret (hagg l[a] a ad n c) w) := by
  obtain ⟨lb, lo, rfl, hlb, ⟨c0, c1, c2⟩, c3, c4, c5⟩ := hl a ha
  generalize l[a] = x at *
  obtain ⟨⟨m, s, d⟩, n1, t, e⟩ := x
  have hR := Rw.new w 70 [.bool false, .string ⟨#[]⟩, .int .i64 0, .bool false, .string ⟨#[]⟩, .int .i64 0, .int .i64 0, .slice none 0 0]
  have hb := (Below.refl w.heap.size w).alloc (Nat.le_refl _) (Obj.cells #[Value.bool false, Value.string { data := #[] }, Value.int IntKind.i64 0, Value.bool false, Value.string { data := #[] }, Value.int IntKind.i64 0, Value.int IntKind.i64 0, Value.slice none 0 0] 70)
  simp only at c0 c1 c2 c3 c4 c5
  rw [← hb.cell hlb] at c0 c1 c2 c3 c4 c5
  have ha0 : (0 : Int) ≤ (a : Int) := by omega
  have han : (a : Int) < n := by omega
  show Calls Tryz.prog 48 #[.slice (some ⟨lb, lo, none⟩) n c, .int .i64 a] w (Ret (.agg #[.bool m, .string s, .int .i64 d, .bool n1, .string t, .int .i64 e, .int .i64 a, .slice (some ⟨lb, lo, none⟩) n c]) w)
  clear hl
  go_enter Tryz.func48, Tryz.ntmps48
  go_upto_region 1 with fail
  generalize (w.alloc (Obj.cells #[Value.bool false, Value.string { data := #[] }, Value.int IntKind.i64 0, Value.bool false, Value.string { data := #[] }, Value.int IntKind.i64 0, Value.int IntKind.i64 0, Value.slice none 0 0] 70)) = W0 at *
  obtain ⟨R0, R1, R2, R3, R4, R5, R6, R7, F0, F1, F2, F3, F4, F5, F6, F7⟩ := hR.facts8
  go_wp2
  have hR2 := (((((((hR.set_ 0 (.bool m)).set_ 1 (.string s)).set_ 2 (.int .i64 d)).set_ 3 (.bool n1)).set_ 4 (.string t)).set_ 5 (.int .i64 e)).set_ 6 (.int .i64 a)).set_ 7 (.slice (some ⟨lb, lo, none⟩) n c)
  refine ret_halved rfl rfl hR2 ⟨rfl, ?_⟩
  exact (((((((hb.setCell (Nat.le_refl _) _).setCell (Nat.le_refl _) _).setCell (Nat.le_refl _) _).setCell (Nat.le_refl _) _).setCell (Nat.le_refl _) _).setCell (Nat.le_refl _) _).setCell (Nat.le_refl _) _).setCell (Nat.le_refl _) _
set_option maxRecDepth 100000 in
set_option maxHeartbeats 1600000 in
theorem bkeepL_any (w : World) (g a n c : Nat) (l : List SV) (hn : l.length = n) (ha : a < n) (hL : Rp w g (flat l)) (x : SV) (hx : O3 x) :
    Calls Tryz.prog 49 #[hagg x a (some ⟨g, 0, none⟩) n c] w (fun e w' => e = .returned (.tuple #[]) ∧ Rp w' g (flat (l.set a (lowH x))) ∧ w.grownBy w' (some g)) := by
  have hc := fun W => c_mid W x hx
  have hy : lowH x = (x.1, canonN (mS x)) := rfl
  rw [hy]
  clear hy hx
  generalize canonN (mS x) = y at *
  obtain ⟨⟨m, s, d⟩, n1, t, e⟩ := x
  obtain ⟨m3, s3, d3⟩ := y
  replace hc : ∀ W, Calls Tryz.prog 58 #[.agg #[.bool m, .string s, .int .i64 d, .bool n1, .string t, .int .i64 e]] W (Ret (.agg #[.bool m3, .string s3, .int .i64 d3]) W) := hc
  have hR := Rw.new w 70 [.bool m, .string s, .int .i64 d, .bool n1, .string t, .int .i64 e, .int .i64 a, .slice (some ⟨g, 0, none⟩) n c]
  have hb := (Below.refl w.heap.size w).alloc (Nat.le_refl _) (Obj.cells #[Value.bool m, Value.string s, Value.int IntKind.i64 d, Value.bool n1, Value.string t, Value.int IntKind.i64 e, Value.int IntKind.i64 a, Value.slice (some ⟨g, 0, none⟩) n c] 70)
  have hg := hL.lt
  replace hL := hL.below hb
  have ha0 : (0 : Int) ≤ (a : Int) := by omega
  have han : (a : Int) < n := by omega
  show Calls Tryz.prog 49 #[.agg #[.bool m, .string s, .int .i64 d, .bool n1, .string t, .int .i64 e, .int .i64 a, .slice (some ⟨g, 0, none⟩) n c]] w _
  go_enter Tryz.func49, Tryz.ntmps49
  go_upto_region 1 with fail
  generalize (w.alloc (Obj.cells #[Value.bool m, Value.string s, Value.int IntKind.i64 d, Value.bool n1, Value.string t, Value.int IntKind.i64 e, Value.int IntKind.i64 a, Value.slice (some ⟨g, 0, none⟩) n c] 70)) = W0 at *
  obtain ⟨R0, R1, R2, R3, R4, R5, R6, R7, F0, F1, F2, F3, F4, F5, F6, F7⟩ := hR.facts8
  go_wp2_with fail
  clear R0 R1 R2 R3 R4 R5 R6 R7 F0 F1 F2 F3 F4 F5 F6 F7
  refine (hc _).mono ?_
  rintro e' V ⟨rfl, hq⟩
  replace hb := below_next hb hq
  replace hR := hR.below hq hR.lt
  replace hL := hL.below hq
  clear hq hc
  obtain ⟨R0, R1, R2, R3, R4, R5, R6, R7, F0, F1, F2, F3, F4, F5, F6, F7⟩ := hR.facts8
  go_upto_region 2 with fail
  clear R0 R1 R2 R3 R4 R5 R6 R7 F0 F1 F2 F3 F4 F5 F6 F7
  replace hb := ((hb.setCell (p := ⟨w.heap.size, 3, none⟩) (Nat.le_refl _) (.bool m3)).setCell (p := ⟨w.heap.size, 4, none⟩) (Nat.le_refl _) (.string s3)).setCell (p := ⟨w.heap.size, 5, none⟩) (Nat.le_refl _) (.int .i64 d3)
  replace hR : Rw (((V.setCell ⟨w.heap.size, 3, none⟩ (.bool m3)).setCell ⟨w.heap.size, 4, none⟩ (.string s3)).setCell ⟨w.heap.size, 5, none⟩ (.int .i64 d3)) w.heap.size 70 [Value.bool m, Value.string s, Value.int IntKind.i64 d, Value.bool m3, Value.string s3, Value.int IntKind.i64 d3, .int .i64 a, .slice (some ⟨g, 0, none⟩) n c] := ((hR.set_ 3 (.bool m3)).set_ 4 (.string s3)).set_ 5 (.int .i64 d3)
  replace hL := ((hL.far (p := ⟨w.heap.size, 3, none⟩) (by show g ≠ w.heap.size; omega) (.bool m3)).far (p := ⟨w.heap.size, 4, none⟩) (by show g ≠ w.heap.size; omega) (.string s3)).far (p := ⟨w.heap.size, 5, none⟩) (by show g ≠ w.heap.size; omega) (.int .i64 d3)
  generalize (((V.setCell ⟨w.heap.size, 3, none⟩ (.bool m3)).setCell ⟨w.heap.size, 4, none⟩ (.string s3)).setCell ⟨w.heap.size, 5, none⟩ (.int .i64 d3)) = V2 at *
  obtain ⟨R0, R1, R2, R3, R4, R5, R6, R7, F0, F1, F2, F3, F4, F5, F6, F7⟩ := hR.facts8
  obtain ⟨P0, P1, P2, P3, P4, P5⟩ := hL.facts (2 * a) (by rw [flat_len]; omega)
  obtain ⟨S0, S1, S2, S3, S4, S5⟩ := hL.facts (2 * a + 1) (by rw [flat_len]; omega)
  rw [show 2 * a * 3 = a * 6 by omega] at P0 P1 P2 P3 P4 P5
  rw [show (2 * a + 1) * 3 = a * 6 + 3 by omega] at S0 S1 S2 S3 S4 S5
  go_wp2
  have hL2 := (hL.set_ (2 * a) (m, s, d)).set_ (2 * a + 1) (m3, s3, d3)
  rw [show 2 * a * 3 = a * 6 by omega, show (2 * a + 1) * 3 = a * 6 + 3 by omega] at hL2
  rw [show a * 6 + 3 + 1 = a * 6 + 4 by omega, show a * 6 + 3 + 2 = a * 6 + 5 by omega] at hL2
  have hL3 := flat_set l a ((m, s, d), m3, s3, d3)
  simp only at hL3 hL2
  rw [← hL3] at hL2
  clear hL3
  have hG := grown_setCell (p := ⟨g, a * 6 + 5, none⟩) (grown_setCell (p := ⟨g, a * 6 + 4, none⟩) (grown_setCell (p := ⟨g, a * 6 + 3, none⟩) (grown_setCell (p := ⟨g, a * 6 + 2, none⟩) (grown_setCell (p := ⟨g, a * 6 + 1, none⟩) (grown_setCell (p := ⟨g, a * 6, none⟩) (grown_of hb) rfl (.bool m)) rfl (.string s)) rfl (.int .i64 d)) rfl (.bool m3)) rfl (.string s3)) rfl (.int .i64 d3)
  go_end0
  refine ⟨rfl, ?_, ?_⟩
  · exact hL2
  · exact hG
set_option maxRecDepth 100000 in
set_option maxHeartbeats 1600000 in
theorem bkeepU_any (w : World) (g a n c : Nat) (l : List SV) (hn : l.length = n) (ha : a < n) (hL : Rp w g (flat l)) (x : SV) (hx : O3 x) :
    Calls Tryz.prog 50 #[hagg x a (some ⟨g, 0, none⟩) n c] w (fun e w' => e = .returned (.tuple #[]) ∧ Rp w' g (flat (l.set a (upH x))) ∧ w.grownBy w' (some g)) := by
  have hc := fun W => c_mid W x hx
  have hy : upH x = (canonN (mS x), x.2) := rfl
  rw [hy]
  clear hy hx
  generalize canonN (mS x) = y at *
  obtain ⟨⟨m, s, d⟩, n1, t, e⟩ := x
  obtain ⟨m3, s3, d3⟩ := y
  replace hc : ∀ W, Calls Tryz.prog 58 #[.agg #[.bool m, .string s, .int .i64 d, .bool n1, .string t, .int .i64 e]] W (Ret (.agg #[.bool m3, .string s3, .int .i64 d3]) W) := hc
  have hR := Rw.new w 70 [.bool m, .string s, .int .i64 d, .bool n1, .string t, .int .i64 e, .int .i64 a, .slice (some ⟨g, 0, none⟩) n c]
  have hb := (Below.refl w.heap.size w).alloc (Nat.le_refl _) (Obj.cells #[Value.bool m, Value.string s, Value.int IntKind.i64 d, Value.bool n1, Value.string t, Value.int IntKind.i64 e, Value.int IntKind.i64 a, Value.slice (some ⟨g, 0, none⟩) n c] 70)
  have hg := hL.lt
  replace hL := hL.below hb
  have ha0 : (0 : Int) ≤ (a : Int) := by omega
  have han : (a : Int) < n := by omega
  show Calls Tryz.prog 50 #[.agg #[.bool m, .string s, .int .i64 d, .bool n1, .string t, .int .i64 e, .int .i64 a, .slice (some ⟨g, 0, none⟩) n c]] w _
  go_enter Tryz.func50, Tryz.ntmps50
  go_upto_region 1 with fail
  generalize (w.alloc (Obj.cells #[Value.bool m, Value.string s, Value.int IntKind.i64 d, Value.bool n1, Value.string t, Value.int IntKind.i64 e, Value.int IntKind.i64 a, Value.slice (some ⟨g, 0, none⟩) n c] 70)) = W0 at *
  obtain ⟨R0, R1, R2, R3, R4, R5, R6, R7, F0, F1, F2, F3, F4, F5, F6, F7⟩ := hR.facts8
  go_wp2_with fail
  clear R0 R1 R2 R3 R4 R5 R6 R7 F0 F1 F2 F3 F4 F5 F6 F7
  refine (hc _).mono ?_
  rintro e' V ⟨rfl, hq⟩
  replace hb := below_next hb hq
  replace hR := hR.below hq hR.lt
  replace hL := hL.below hq
  clear hq hc
  obtain ⟨R0, R1, R2, R3, R4, R5, R6, R7, F0, F1, F2, F3, F4, F5, F6, F7⟩ := hR.facts8
  go_upto_region 2 with fail
  clear R0 R1 R2 R3 R4 R5 R6 R7 F0 F1 F2 F3 F4 F5 F6 F7
  replace hb := ((hb.setCell (p := ⟨w.heap.size, 0, none⟩) (Nat.le_refl _) (.bool m3)).setCell (p := ⟨w.heap.size, 1, none⟩) (Nat.le_refl _) (.string s3)).setCell (p := ⟨w.heap.size, 2, none⟩) (Nat.le_refl _) (.int .i64 d3)
  replace hR : Rw (((V.setCell ⟨w.heap.size, 0, none⟩ (.bool m3)).setCell ⟨w.heap.size, 1, none⟩ (.string s3)).setCell ⟨w.heap.size, 2, none⟩ (.int .i64 d3)) w.heap.size 70 [Value.bool m3, Value.string s3, Value.int IntKind.i64 d3, Value.bool n1, Value.string t, Value.int IntKind.i64 e, .int .i64 a, .slice (some ⟨g, 0, none⟩) n c] := ((hR.set_ 0 (.bool m3)).set_ 1 (.string s3)).set_ 2 (.int .i64 d3)
  replace hL := ((hL.far (p := ⟨w.heap.size, 0, none⟩) (by show g ≠ w.heap.size; omega) (.bool m3)).far (p := ⟨w.heap.size, 1, none⟩) (by show g ≠ w.heap.size; omega) (.string s3)).far (p := ⟨w.heap.size, 2, none⟩) (by show g ≠ w.heap.size; omega) (.int .i64 d3)
  generalize (((V.setCell ⟨w.heap.size, 0, none⟩ (.bool m3)).setCell ⟨w.heap.size, 1, none⟩ (.string s3)).setCell ⟨w.heap.size, 2, none⟩ (.int .i64 d3)) = V2 at *
  obtain ⟨R0, R1, R2, R3, R4, R5, R6, R7, F0, F1, F2, F3, F4, F5, F6, F7⟩ := hR.facts8
  obtain ⟨P0, P1, P2, P3, P4, P5⟩ := hL.facts (2 * a) (by rw [flat_len]; omega)
  obtain ⟨S0, S1, S2, S3, S4, S5⟩ := hL.facts (2 * a + 1) (by rw [flat_len]; omega)
  rw [show 2 * a * 3 = a * 6 by omega] at P0 P1 P2 P3 P4 P5
  rw [show (2 * a + 1) * 3 = a * 6 + 3 by omega] at S0 S1 S2 S3 S4 S5
  go_wp2
  have hL2 := (hL.set_ (2 * a) (m3, s3, d3)).set_ (2 * a + 1) (n1, t, e)
  rw [show 2 * a * 3 = a * 6 by omega, show (2 * a + 1) * 3 = a * 6 + 3 by omega] at hL2
  rw [show a * 6 + 3 + 1 = a * 6 + 4 by omega, show a * 6 + 3 + 2 = a * 6 + 5 by omega] at hL2
  have hL3 := flat_set l a ((m3, s3, d3), n1, t, e)
  simp only at hL3 hL2
  rw [← hL3] at hL2
  clear hL3
  have hG := grown_setCell (p := ⟨g, a * 6 + 5, none⟩) (grown_setCell (p := ⟨g, a * 6 + 4, none⟩) (grown_setCell (p := ⟨g, a * 6 + 3, none⟩) (grown_setCell (p := ⟨g, a * 6 + 2, none⟩) (grown_setCell (p := ⟨g, a * 6 + 1, none⟩) (grown_setCell (p := ⟨g, a * 6, none⟩) (grown_of hb) rfl (.bool m3)) rfl (.string s3)) rfl (.int .i64 d3)) rfl (.bool n1)) rfl (.string t)) rfl (.int .i64 e)
  go_end0
  refine ⟨rfl, ?_, ?_⟩
  · exact hL2
  · exact hG
set_option maxRecDepth 100000 in
set_option maxHeartbeats 1600000 in
theorem cloneS_any (w : World) (g : Nat) (l : List SV) (n c : Nat) (hn : l.length = n) (h0 : 0 < n) (hmax : n ≤ 1000) (hL : SAt w (some ⟨g, 0, none⟩) l) :
    Calls Tryz.prog 47 #[.slice (some ⟨g, 0, none⟩) n c] w (fun e w' => ∃ g2 c2, e = .returned (.slice (some ⟨g2, 0, none⟩) n c2) ∧ w.heap.size ≤ g2 ∧ n ≤ c2 ∧ Rp w' g2 (flat l) ∧ Below w.heap.size w w') := by
  obtain ⟨i, hi, hz, hs, hbt⟩ := info_parts infoSz
  have hb := (Below.refl w.heap.size w).alloc (Nat.le_refl _) (Obj.cells #[] 41)
  have hown : (w.alloc (Obj.cells #[] 41)).ownsRow w.heap.size 41 6 (.slice (some ⟨w.heap.size, 0, none⟩) 0 0) 0 (ncells []) :=
    ⟨rfl, .inr ⟨w.heap.size, 0, #[], rfl, Nat.le_refl _, Rw.new w 41 [], Nat.le_refl _, Nat.zero_le _, rfl, rfl⟩⟩
  have hN := (hL.alloc (Obj.cells #[] 41)).nums
  have heq : ∀ W, Sem.run Tryz.prog (binOp BinOp.eql 23 (.slice (some ⟨g, 0, none⟩) n c) (.slice none 0 0)) W = .ok (.bool false) W := fun W => by kernel_rfl
  go_enter Tryz.func47, Tryz.ntmps47
  have hlen : (flat l).length * 3 = n * 6 := by rw [flat_len, hn]; omega
  go_wp2_with (first | (at_builtin; refine wpList_append_nat Tryz.underlying23 hi hz hs hbt rfl (by decide) (by decide) rfl (.tmp 5) (.tmp 6) rfl (m := n) rfl hown hb.size rfl hN hlen (by omega) ?_))
  intro v' w' ho hg
  have hq := Below.grown hb hg hb.size (fun k hk => by simp only [Value.ownBlock, Option.some.injEq] at hk; omega)
  obtain ⟨g2, c2, rfl, h1, h2, h3⟩ := own_rp hn h0 ho
  clear heq hown hN ho hg
  go_wp2
  go_ret
  exact ⟨g2, c2, rfl, h1, h2, h3, hq⟩
/-- Two halves, both in new memory. -/
def HalfR (w : World) (l1 l2 : List SV) (n : Nat) : Ending → World → Prop := fun e w' => ∃ g1 g2 c1 c2, e = .returned (.tuple #[.slice (some ⟨g1, 0, none⟩) n c1, .slice (some ⟨g2, 0, none⟩) n c2, .int .i64 0]) ∧ w.heap.size ≤ g1 ∧ w.heap.size ≤ g2 ∧ n ≤ c1 ∧ n ≤ c2 ∧ Rp w' g1 (flat l1) ∧ Rp w' g2 (flat l2) ∧ Below w.heap.size w w'
set_option maxRecDepth 100000 in
set_option maxHeartbeats 1600000 in
theorem bhalve_no (w : World) (ad : Option Addr) (n c : Nat) (z : Int) (hz : z < 0 ∨ (n : Int) ≤ z) :
    Calls Tryz.prog 21 #[.slice ad n c, .int .i64 z] w (Ret (.tuple #[.slice none 0 0, .slice none 0 0, .int .i64 1]) w) := by
  by_cases h : z < 0
  · go_enter Tryz.func21, Tryz.ntmps21
    go_wp2
    go_ret3
    exact ⟨rfl, Below.refl _ _⟩
  · have h2 : (n : Int) ≤ z := by omega
    go_enter Tryz.func21, Tryz.ntmps21
    go_wp2
    go_ret3
    exact ⟨rfl, Below.refl _ _⟩
set_option maxRecDepth 100000 in
set_option maxHeartbeats 1600000 in
theorem bhalve_any (w : World) (ad : Option Addr) (l : List SV) (n c a : Nat) (hn : l.length = n) (ha : a < n) (hmax : n ≤ 1000) (hl : SAt w ad l) (hs : ∀ x ∈ l, O2 x) :
    Calls Tryz.prog 21 #[.slice ad n c, .int .i64 a] w (HalfR w (halfB false (l.map fS) a) (halfB true (l.map fS) a) n) := by
  have hc := bform_any w ad l n c hn hmax hl hs
  have hlen : (l.map fS).length = n := by rw [List.length_map, hn]
  have hal : a < l.length := by omega
  have hga : (l.map fS)[a]? = some (fS l[a]) := by rw [List.getElem?_map, List.getElem?_eq_getElem hal]; rfl
  have hx : O3 (fS l[a]) := (hs _ (List.getElem_mem _)).form
  have e1 : halfB false (l.map fS) a = (l.map fS).set a (lowH (fS l[a])) := by unfold halfB; rw [List.getD_eq_getElem?_getD, hga]; rfl
  have e2 : halfB true (l.map fS) a = (l.map fS).set a (upH (fS l[a])) := by unfold halfB; rw [List.getD_eq_getElem?_getD, hga]; rfl
  rw [e1, e2]
  clear e1 e2 hl hs
  generalize fS l[a] = x at *
  generalize l.map fS = m at *
  clear hal hn
  have ham : a < m.length := by omega
  have hmx : m[a] = x := by rw [List.getElem?_eq_getElem ham] at hga; injection hga
  have hz1 : ¬(a : Int) < 0 := by omega
  have hz2 : ¬(n : Int) ≤ a := by omega
  go_enter Tryz.func21, Tryz.ntmps21
  go_upto_region 3 with fail
  go_wp2_with fail
  refine hc.mono ?_
  rintro e W ⟨g1, rfl, hg1, hR1, hb⟩
  clear hc
  have hL1 := hR1.rp
  have hc := cloneS_any W g1 m n n hlen (by omega) hmax (SAt.of_flat hL1.nat)
  go_wp2_with fail
  refine hc.mono ?_
  rintro e W2 ⟨g2, c2, rfl, hg2, hc2, hL2, hq⟩
  clear hc hR1
  have hne : g2 ≠ g1 := by have := hL1.lt; omega
  have hg2' : w.heap.size ≤ g2 := Nat.le_trans hb.size hg2
  replace hb := below_next hb hq
  replace hL1 := hL1.below hq
  clear hq hg2
  have hc := balong_any W2 (some ⟨g1, 0, none⟩) m n n a hlen (SAt.of_flat hL1.nat) ham
  rw [hmx] at hc
  go_wp2_with fail
  refine hc.mono ?_
  rintro e W3 ⟨rfl, hq⟩
  replace hb := below_next hb hq
  replace hL1 := hL1.below hq
  replace hL2 := hL2.below hq
  clear hq hc
  have hc := bkeepL_any W3 g1 a n n m hlen ha hL1 x hx
  go_wp2_with fail
  refine hc.mono ?_
  rintro e W4 ⟨rfl, hL1', hq⟩
  replace hb := Below.grown hb hq hb.size (fun k hk => by injection hk with hk; omega)
  replace hL2 := hL2.grown hq (by intro h; injection h with h; exact hne h)
  clear hq hc hL1
  have hc := balong_any W4 (some ⟨g2, 0, none⟩) m n c2 a hlen (SAt.of_flat hL2.nat) ham
  rw [hmx] at hc
  go_wp2_with fail
  refine hc.mono ?_
  rintro e W5 ⟨rfl, hq⟩
  replace hb := below_next hb hq
  replace hL1' := hL1'.below hq
  replace hL2 := hL2.below hq
  clear hq hc
  have hc := bkeepU_any W5 g2 a n c2 m hlen ha hL2 x hx
  go_wp2_with fail
  refine hc.mono ?_
  rintro e W6 ⟨rfl, hL2', hq⟩
  replace hb := Below.grown hb hq hb.size (fun k hk => by injection hk with hk; omega)
  replace hL1' := hL1'.grown hq (by intro h; injection h with h; exact hne h.symm)
  clear hq hc hL2
  go_wp2
  go_ret3
  exact ⟨g1, g2, n, c2, rfl, hg1, hg2', Nat.le_refl _, hc2, hL1', hL2', hb⟩
end Go.Proofs.YtbijggomdpaknaaGreatDoor
/- Package box: Part; walked. -/
namespace Go.Proofs.YtbijggomdpaknaaGreatDoor
open Go.RowKit Go.Shelf
/-- A row of whole numbers, as a slice holds it. -/
def RI (w : World) (ad : Option Addr) (ns : List Int) : Prop := ∀ i (h : i < ns.length), ∃ b off, ad = some ⟨b, off, none⟩ ∧ b < w.heap.size ∧ w.cell? ⟨b, off + i, none⟩ = some (.int .i64 ns[i])
theorem RI.below {w w' : World} {ad : Option Addr} {ns : List Int} (h : RI w ad ns) (hb : Below w.heap.size w w') : RI w' ad ns := fun i hi => by
  obtain ⟨b, off, e, hlt, hc⟩ := h i hi
  exact ⟨b, off, e, Nat.lt_of_lt_of_le hlt hb.size, by rw [hb.cell hlt]; exact hc⟩
theorem goes_bpart1 (aa : Array Value) (W : World) : Sem.run Tryz.prog (callFunc 51 aa) W = .ok (.enter 51 aa) W := by kernel_rfl
/-- Is a halving below 0, or of no axis? -/
def wrongB (n : Nat) (z : Int) : Bool := decide (z < 0) || decide (n ≤ z.toNat / 2)
set_option maxRecDepth 100000 in
set_option maxHeartbeats 1600000 in
theorem bpart1_any (w : World) (z : Int) (hz : z < 9223372036854775808) (P n c : Nat) (hmax : n ≤ 1000) (ad : Option Addr) (hP : w.cell? ⟨P, 0, none⟩ = some (.slice ad n c)) :
    Calls Tryz.prog 51 (#[.int .i64 z] ++ #[.pointer (some ⟨P, 0, none⟩)]) w (Ret (.bool (wrongB n z)) w) := by
  show Calls Tryz.prog 51 #[.int .i64 z, .pointer (some ⟨P, 0, none⟩)] w (Ret (.bool (wrongB n z)) w)
  by_cases h0 : z < 0
  · have hv := Lib.hid (show wrongB n z = true by unfold wrongB; rw [decide_eq_true h0]; rfl)
    go_enter Tryz.func51, Tryz.ntmps51
    go_wp2
    go_ret
    exact ⟨by rw [hv.out]; rfl, Below.refl _ _⟩
  · obtain ⟨k, rfl⟩ : ∃ k : Nat, z = k := ⟨z.toNat, by omega⟩
    have hd : (k : Int).tdiv 2 = ((k / 2 : Nat) : Int) := rfl
    by_cases h1 : n ≤ k / 2
    · have hv := Lib.hid (show wrongB n k = true by unfold wrongB; rw [decide_eq_false h0, Int.toNat_natCast, decide_eq_true h1]; rfl)
      have h2 : (n : Int) ≤ (k : Int) / 2 := by omega
      go_enter Tryz.func51, Tryz.ntmps51
      go_wp2
      go_ret
      exact ⟨by rw [hv.out]; rfl, Below.refl _ _⟩
    · have hv := Lib.hid (show wrongB n k = false by unfold wrongB; rw [decide_eq_false h0, Int.toNat_natCast, decide_eq_false h1]; rfl)
      have h2 : ¬(n : Int) ≤ (k : Int) / 2 := by omega
      go_enter Tryz.func51, Tryz.ntmps51
      go_wp2
      go_ret
      exact ⟨by rw [hv.out]; rfl, Below.refl _ _⟩
theorem any_takeI {p : Int → Bool} {l : List Int} {i : Nat} (h : i < l.length) (h1 : (l.take i).any p = false) (h2 : p l[i] = false) : (l.take (i + 1)).any p = false := by
  rw [List.take_succ_eq_append_getElem h, List.any_append, h1]
  simp [h2]
set_option maxRecDepth 100000 in
set_option maxHeartbeats 1600000 in
theorem indexI_any (p : Int → Bool) (f : Nat) (caps : Array Value) (hgo : ∀ (aa : Array Value) (W : World), Sem.run Tryz.prog (callFunc f aa) W = .ok (.enter f aa) W) (w : World) (ad : Option Addr) (n c : Nat) (l : List Int) (hl : l.length = n) (hmax : n ≤ 1000000) (hp : RI w ad l)
    (hcall : ∀ W, Below w.heap.size w W → ∀ x ∈ l, Calls Tryz.prog f (#[.int .i64 x] ++ caps) W (Ret (.bool (p x)) W)) :
    Calls Tryz.prog 83 #[.slice ad n c, .func (.func f) #[] caps] w (fun e w' => ∃ r : Int, e = .returned (.int .i64 r) ∧ decide (0 ≤ r) = l.any p ∧ Below w.heap.size w w') := by
  go_enter Tryz.func83, Tryz.ntmps83
  go_wp2
  go_loopw [8] (fun iv wr => ∃ i : Nat, iv = .int .i64 i ∧ i ≤ n ∧ (l.take i).any p = false ∧ Below w.heap.size w wr) (fun iv _ => n - (RowKit.intOf iv).toNat)
  case atStart => exact ⟨0, rfl, Nat.zero_le _, rfl, Below.refl _ _⟩
  case round =>
    obtain ⟨i, rfl, hi, hno, hb⟩ := hrel
    by_cases hik : i < n
    · have hil : i < l.length := by omega
      obtain ⟨lb, lo, rfl, hlb, c0⟩ := hp.below hb i hil
      have hc := hcall wr hb l[i] (List.getElem_mem hil)
      have hst := any_takeI hil hno
      have hany : p l[i] = true → l.any p = true := fun h => List.any_eq_true.2 ⟨l[i], List.getElem_mem hil, h⟩
      generalize l[i] = x at *
      obtain ⟨q, hq⟩ : ∃ q, p x = q := ⟨_, rfl⟩
      rw [hq] at hc hany hst
      clear hcall hp
      go_wp2_with fail
      refine hc.mono ?_
      rintro e W1 ⟨rfl, hq1⟩
      have hb1 := below_next hb hq1
      clear hc hq1 c0
      cases q with
      | true =>
        have HA := Lib.hid (hany rfl)
        clear hany hst
        go_wp2
        go_ret
        exact ⟨(i : Int), rfl, by rw [HA.out]; simp, hb1⟩
      | false =>
        have HS := Lib.hid (hst rfl)
        clear hany hst
        go_wp2
        exact ⟨⟨i + 1, rfl, hik, HS.out, hb1⟩, by simp [RowKit.intOf]; omega⟩
    · obtain rfl : i = n := by omega
      rw [List.take_of_length_le (by omega)] at hno
      have HN := Lib.hid hno
      clear hno hcall hp
      go_wp2
      go_ret
      exact ⟨-1, rfl, by rw [HN.out]; decide, hb⟩
set_option maxRecDepth 100000 in
set_option maxHeartbeats 1600000 in
theorem containsI_any (p : Int → Bool) (f : Nat) (caps : Array Value) (hgo : ∀ (aa : Array Value) (W : World), Sem.run Tryz.prog (callFunc f aa) W = .ok (.enter f aa) W) (w : World) (ad : Option Addr) (n c : Nat) (l : List Int) (hl : l.length = n) (hmax : n ≤ 1000000) (hp : RI w ad l)
    (hcall : ∀ W, Below w.heap.size w W → ∀ x ∈ l, Calls Tryz.prog f (#[.int .i64 x] ++ caps) W (Ret (.bool (p x)) W)) :
    Calls Tryz.prog 52 #[.slice ad n c, .func (.func f) #[] caps] w (Ret (.bool (l.any p)) w) := by
  have hc := indexI_any p f caps hgo w ad n c l hl hmax hp hcall
  clear hcall hgo
  go_enter Tryz.func52, Tryz.ntmps52
  go_wp2_with fail
  refine hc.mono ?_
  rintro e W1 ⟨r, rfl, hr, hq⟩
  go_wp2
  go_ret
  exact ⟨rfl, hq⟩
/-- The half of the half, as the halvings tell. -/
def partB (m : List SV) (hs : List Int) : List SV := hs.foldl (fun b z => halfB (decide (z.toNat % 2 = 1)) b (z.toNat / 2)) m
theorem halfB_len (up : Bool) (m : List SV) (a : Nat) : (halfB up m a).length = m.length := by unfold halfB; exact List.length_set
theorem partB_len (m : List SV) (hs : List Int) : (partB m hs).length = m.length := by
  unfold partB
  induction hs generalizing m with
  | nil => rfl
  | cons z hs ih => rw [List.foldl_cons, ih, halfB_len]
theorem partB_take {m : List SV} {hs : List Int} {k : Nat} (h : k < hs.length) : partB m (hs.take (k + 1)) = halfB (decide (hs[k].toNat % 2 = 1)) (partB m (hs.take k)) (hs[k].toNat / 2) := by
  unfold partB
  rw [List.take_succ_eq_append_getElem h, List.foldl_append]
  rfl
theorem GS.half {B E : Nat} {x : SV} (h : GS B E x) (up : Bool) (hB : B + 1 ≤ 375) (hE : E + 1 ≤ 3000) : GS (B + 1) (E + 1) (halfS up x) := by
  unfold halfS
  split
  · exact ⟨h.mid.gd hB hE, h.2.finer⟩
  · exact ⟨h.1.finer, h.mid.gd hB hE⟩
theorem half_small {B E : Nat} {m : List SV} (h : ∀ x ∈ m, GS B E x) (up : Bool) (a : Nat) (ha : a < m.length) (hB : B + 1 ≤ 375) (hE : E + 1 ≤ 3000) : ∀ x ∈ halfB up m a, GS (B + 1) (E + 1) x := by
  intro x hx
  unfold halfB at hx
  rcases List.mem_or_eq_of_mem_set hx with hx | rfl
  · exact (h x hx).finer
  · rw [List.getD_eq_getElem?_getD, List.getElem?_eq_getElem ha]
    exact (h _ (List.getElem_mem ha)).half up hB hE
/-- A part, in new memory. -/
def PartR (w : World) (l : List SV) (n : Nat) : Ending → World → Prop := fun e w' => ∃ g c, e = .returned (.tuple #[.slice (some ⟨g, 0, none⟩) n c, .int .i64 0]) ∧ w.heap.size ≤ g ∧ n ≤ c ∧ Rp w' g (flat l) ∧ Below w.heap.size w w'
set_option maxRecDepth 100000 in
set_option maxHeartbeats 1600000 in
theorem bpart_no (w : World) (ad : Option Addr) (n c : Nat) (hmax : n ≤ 1000) (bd : Option Addr) (hs : List Int) (n' c' : Nat) (hn' : hs.length = n') (hmax' : n' ≤ 1000) (hh : RI w bd hs) (hz : ∀ z ∈ hs, z < 9223372036854775808) (hw : hs.any (wrongB n) = true) :
    Calls Tryz.prog 22 #[.slice ad n c, .slice bd n' c'] w (Ret (.tuple #[.slice none 0 0, .int .i64 1]) w) := by
  have hP := Rw.new w 23 [.slice ad n c]
  have hb := (Below.refl w.heap.size w).alloc (Nat.le_refl _) (Obj.cells #[Value.slice ad n c] 23)
  go_enter Tryz.func22, Tryz.ntmps22
  go_upto_region 1 with fail
  generalize (w.alloc (Obj.cells #[Value.slice ad n c] 23)) = W1 at *
  have hc := containsI_any (wrongB n) 51 #[.pointer (some ⟨w.heap.size, 0, none⟩)] goes_bpart1 W1 bd n' c' hs hn' (by omega) (hh.below hb) (fun W hq x hx => bpart1_any W x (hz x hx) w.heap.size n c hmax ad ((hP.below hq hP.lt).cell 0))
  rw [hw] at hc
  clear hh hz hw
  go_wp2_with fail
  refine hc.mono ?_
  rintro e W ⟨rfl, hq⟩
  go_wp2
  go_ret2
  exact ⟨rfl, below_next hb hq⟩
set_option maxRecDepth 100000 in
set_option maxHeartbeats 1600000 in
theorem bpart_any (w : World) (ad : Option Addr) (l : List SV) (n c : Nat) (hn : l.length = n) (hmax : n ≤ 1000) (hl : SAt w ad l) {B E : Nat} (hsm : ∀ x ∈ l, GS B E x) (hB : B ≤ 300) (hE : E ≤ 2000) (bd : Option Addr) (hs : List Int) (n' c' : Nat) (hn' : hs.length = n') (hmax' : n' ≤ 60) (hh : RI w bd hs) (hz : ∀ z ∈ hs, z < 9223372036854775808) (hw : hs.any (wrongB n) = false) :
    Calls Tryz.prog 22 #[.slice ad n c, .slice bd n' c'] w (PartR w (partB (l.map fS) hs) n) := by
  have hP := Rw.new w 23 [.slice ad n c]
  have hb := (Below.refl w.heap.size w).alloc (Nat.le_refl _) (Obj.cells #[Value.slice ad n c] 23)
  go_enter Tryz.func22, Tryz.ntmps22
  go_upto_region 1 with fail
  generalize (w.alloc (Obj.cells #[Value.slice ad n c] 23)) = W1 at *
  have hc := containsI_any (wrongB n) 51 #[.pointer (some ⟨w.heap.size, 0, none⟩)] goes_bpart1 W1 bd n' c' hs hn' (by omega) (hh.below hb) (fun W hq x hx => bpart1_any W x (hz x hx) w.heap.size n c hmax ad ((hP.below hq hP.lt).cell 0))
  have hwr : ∀ k (h : k < hs.length), 0 ≤ hs[k] ∧ hs[k].toNat / 2 < n := fun k h => by
    have := List.any_eq_false.1 hw hs[k] (List.getElem_mem h)
    unfold wrongB at this
    simp only [Bool.or_eq_true, decide_eq_true_eq] at this
    omega
  rw [hw] at hc
  have hok : ∀ x ∈ l.map fS, GS B E x := fun x hx => by
    obtain ⟨y, hy, rfl⟩ := List.mem_map.1 hx
    exact (hsm y hy).form (by omega) (by omega)
  have hlen : (l.map fS).length = n := by rw [List.length_map, hn]
  have HC := Lib.hid (And.intro hwr (And.intro hok (And.intro hlen hz)))
  clear hwr hok hlen hw hz
  go_wp2_with fail
  refine hc.mono ?_
  rintro e W ⟨rfl, hq⟩
  replace hb := below_next hb hq
  replace hP := hP.below hq hP.lt
  clear hc hq
  have hc := bform_any W ad l n c hn hmax (hl.below hb) (fun x h => (hsm x h).o2)
  clear hl hsm hn
  generalize l.map fS = m at *
  have hP0 := hP.cell 0
  simp only [List.getElem?_cons_zero] at hP0
  go_wp2_with fail
  refine hc.mono ?_
  rintro e W2 ⟨g, rfl, hg, hR, hq⟩
  have hgw : w.heap.size ≤ g := Nat.le_trans hb.size hg
  replace hb := below_next hb hq
  clear hc hq hP0 hP hg
  have hR0 := hR.rp
  clear hR
  go_wp2
  go_loopw [19] (fun iv wr => ∃ k : Nat, k ≤ n' ∧ iv = .int .i64 k ∧ Rp wr g (flat (partB m (hs.take k))) ∧ (∀ x ∈ partB m (hs.take k), GS (B + k) (E + k) x) ∧ Below w.heap.size w wr) (fun iv _ => n' - intY iv)
  case atStart => exact ⟨0, Nat.zero_le _, rfl, hR0, fun x hx => HC.out.2.1 x hx, hb⟩
  case round =>
    clear hR0 hb
    obtain ⟨k, hk, rfl, hR, hgs, hb⟩ := hrel
    by_cases hlt : k < n'
    · have hkl : k < hs.length := by omega
      obtain ⟨lb, lo, rfl, hlb, c0⟩ := hh k hkl
      have hw2 := HC.out.1 k hkl
      have hzk := HC.out.2.2.2 _ (List.getElem_mem hkl)
      have hbl : (partB m (hs.take k)).length = n := by rw [partB_len]; exact HC.out.2.2.1
      have hnx := partB_take (m := m) hkl
      generalize partB m (hs.take k) = b at *
      generalize hs[k] = z at *
      obtain ⟨q, rfl⟩ : ∃ q : Nat, z = q := ⟨z.toNat, by omega⟩
      simp only [Int.toNat_natCast] at hnx hw2
      obtain ⟨a, ha⟩ : ∃ a, q / 2 = a := ⟨_, rfl⟩
      have hq2 : (q : Int) / 2 = (a : Int) := by omega
      have hq3 : (q : Int).tdiv 2 = (a : Int) := by rw [← hq2]; rfl
      rw [ha] at hnx hw2
      have hab : a < b.length := by omega
      have hsm2 := half_small hgs (decide (q % 2 = 1)) a hab (by omega) (by omega)
      have hcal := balong_any wr (some ⟨g, 0, none⟩) b n n a hbl (SAt.of_flat hR.nat) hab
      have hx : O3 b[a] := (hgs _ (List.getElem_mem hab)).o2.o3
      have hset : halfB (decide (q % 2 = 1)) b a = b.set a (halfS (decide (q % 2 = 1)) b[a]) := by
        unfold halfB
        rw [List.getD_eq_getElem?_getD, List.getElem?_eq_getElem hab]
        rfl
      generalize b[a] = x at *
      have HX := Lib.hid (And.intro hnx (And.intro hsm2 hset))
      clear hnx hsm2 hset hgs
      rw [← hb.cell hlb] at c0
      go_wp2_with fail
      refine hcal.mono ?_
      rintro e V ⟨rfl, hq⟩
      replace hb := below_next hb hq
      replace hR := hR.below hq
      clear hq hcal c0
      have hgV := hR.lt
      obtain ⟨⟨xm, xs, xd⟩, xn, xt, xe⟩ := x
      have hX := Rw.new V 70 [.bool xm, .string xs, .int .i64 xd, .bool xn, .string xt, .int .i64 xe, .int .i64 a, .slice (some ⟨g, 0, none⟩) n n]
      replace hb := hb.alloc hb.size (Obj.cells #[Value.bool xm, Value.string xs, Value.int IntKind.i64 xd, Value.bool xn, Value.string xt, Value.int IntKind.i64 xe, Value.int IntKind.i64 a, Value.slice (some ⟨g, 0, none⟩) n n] 70)
      replace hR := hR.alloc (Obj.cells #[Value.bool xm, Value.string xs, Value.int IntKind.i64 xd, Value.bool xn, Value.string xt, Value.int IntKind.i64 xe, Value.int IntKind.i64 a, Value.slice (some ⟨g, 0, none⟩) n n] 70)
      unfold hagg
      simp only
      go_upto_region 9 with fail
      generalize (V.alloc (Obj.cells #[Value.bool xm, Value.string xs, Value.int IntKind.i64 xd, Value.bool xn, Value.string xt, Value.int IntKind.i64 xe, Value.int IntKind.i64 a, Value.slice (some ⟨g, 0, none⟩) n n] 70)) = V2 at *
      clear hq2 hq3 ha
      by_cases hodd : q % 2 = 1
      · have hr2 : (q : Int) % 2 = 1 := by omega
        have hr3 : (q : Int).tmod 2 = 1 := by rw [← hr2]; rfl
        have hcal := bkeepU_any V2 g a n n b hbl hw2.2 hR ((xm, xs, xd), xn, xt, xe) hx
        have hdec : decide (q % 2 = 1) = true := by rw [decide_eq_true]; omega
        rw [hdec] at HX
        obtain ⟨R0, R1, R2, R3, R4, R5, R6, R7, -⟩ := hX.facts8
        go_wp2_with fail
        clear R0 R1 R2 R3 R4 R5 R6 R7
        refine hcal.mono ?_
        rintro e V3 ⟨rfl, hR3, hq⟩
        replace hb := Below.grown hb hq hb.size (fun j hj => by injection hj with hj; omega)
        have hR4 : Rp V3 g (flat (partB m (hs.take (k + 1)))) := by rw [HX.out.1, HX.out.2.2]; exact hR3
        have hg4 : ∀ x ∈ partB m (hs.take (k + 1)), GS (B + (k + 1)) (E + (k + 1)) x := by rw [HX.out.1]; exact HX.out.2.1
        have HY := Lib.hid hg4
        clear hR3 hg4 hcal hR hX hq HX
        go_wp2
        exact ⟨⟨k + 1, hlt, rfl, hR4, HY.out, hb⟩, by simp [intY]; omega⟩
      · have hr2 : (q : Int) % 2 = 0 := by omega
        have hr3 : (q : Int).tmod 2 = 0 := by rw [← hr2]; rfl
        have hcal := bkeepL_any V2 g a n n b hbl hw2.2 hR ((xm, xs, xd), xn, xt, xe) hx
        have hdec : decide (q % 2 = 1) = false := by rw [decide_eq_false]; omega
        rw [hdec] at HX
        obtain ⟨R0, R1, R2, R3, R4, R5, R6, R7, -⟩ := hX.facts8
        go_wp2_with fail
        clear R0 R1 R2 R3 R4 R5 R6 R7
        refine hcal.mono ?_
        rintro e V3 ⟨rfl, hR3, hq⟩
        replace hb := Below.grown hb hq hb.size (fun j hj => by injection hj with hj; omega)
        have hR4 : Rp V3 g (flat (partB m (hs.take (k + 1)))) := by rw [HX.out.1, HX.out.2.2]; exact hR3
        have hg4 : ∀ x ∈ partB m (hs.take (k + 1)), GS (B + (k + 1)) (E + (k + 1)) x := by rw [HX.out.1]; exact HX.out.2.1
        have HY := Lib.hid hg4
        clear hR3 hg4 hcal hR hX hq HX
        go_wp2
        exact ⟨⟨k + 1, hlt, rfl, hR4, HY.out, hb⟩, by simp [intY]; omega⟩
    · obtain rfl : k = n' := by omega
      rw [List.take_of_length_le (by omega)] at hR
      go_wp2
      go_ret2
      exact ⟨g, n, rfl, hgw, Nat.le_refl _, hR, hb⟩
end Go.Proofs.YtbijggomdpaknaaGreatDoor
