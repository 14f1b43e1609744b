/- The law of order: it answers true for all. -/
import Derived.Test.YtemlhloipjbecaaGreatDoorWHeld
import Derived.Test.YtemlhloipjbecaaGreatDoorWLaw0
import Derived.Test.YtemlhloipjbecaaGreatDoorWSg
import Derived.Deep.DeepCutAuto
import Derived.Deep.DeepFit
import Derived.Test.YtemlhloipjbecaaGreatDoorWDag2
namespace Go.Proofs.YtemlhloipjbecaaGreatDoor
open Go.RowKit Go.Shelf

set_option maxRecDepth 100000 in
set_option maxHeartbeats 8000000 in
theorem worder_gt (w : World) (m n q : Bool) (s t u : ByteArray) (ha : 0 < wv m s - wv n t) :
    Calls Tryz.prog 9 #[wi m s, wi n t, wi q u] w (Ret (.bool true) w) := by
  have hsz : (((w.alloc (Obj.cells #[Value.bool m, Value.string s] 23)).alloc (Obj.cells #[Value.bool n, Value.string t] 23)).alloc (Obj.cells #[Value.bool q, Value.string u] 23)).heap.size = w.heap.size + 1 + 1 + 1 := by rw [World.size_alloc, World.size_alloc, World.size_alloc]
  obtain ⟨r, hr⟩ : ∃ r, (decide (200 < s.size) || decide (200 < t.size) || decide (200 < u.size)) = r := ⟨_, rfl⟩
  have HR := Lib.hid hr; clear hr
  unfold wi
  go_enter Tryz.func9, Tryz.ntmps9
  go_wp2_with fail
  obtain ⟨hA, hB, hC, hb⟩ := blocks3 w #[Value.bool m, Value.string s] #[Value.bool n, Value.string t] #[Value.bool q, Value.string u]
  generalize (((w.alloc (Obj.cells #[Value.bool m, Value.string s] 23)).alloc (Obj.cells #[Value.bool n, Value.string t] 23)).alloc (Obj.cells #[Value.bool q, Value.string u] 23)) = W0 at *
  have hu := clong3 W0 200 m n q s t u r HR.out
  rw [hsz] at hu
  refine hu.mono ?_
  rintro e W1 ⟨rfl, hq⟩
  replace hb := below_next (hb.alloc hb.size (Obj.cells #[Value.bool m, Value.string s, Value.bool n, Value.string t, Value.bool q, Value.string u] 23)) hq
  replace hA := (hA.alloc (Obj.cells #[Value.bool m, Value.string s, Value.bool n, Value.string t, Value.bool q, Value.string u] 23)).below hq
  replace hB := (hB.alloc (Obj.cells #[Value.bool m, Value.string s, Value.bool n, Value.string t, Value.bool q, Value.string u] 23)).below hq
  replace hC := (hC.alloc (Obj.cells #[Value.bool m, Value.string s, Value.bool n, Value.string t, Value.bool q, Value.string u] 23)).below hq
  clear hu hq hsz
  cases r
  case true =>
    clear HR
    go_wp2_with fail
    refine (wawake_any _).mono ?_
    rintro e W2 ⟨rfl, hq⟩
    replace hb := below_next hb hq
    go_wp2
    go_ret
    exact ⟨rfl, hb⟩
  have hss := HR.out
  clear HR
  have hs0 : s.size ≤ 200 ∧ t.size ≤ 200 ∧ u.size ≤ 200 := by simpa [not_or, and_assoc] using hss
  clear hss
  obtain ⟨hs1, hs2, hs3⟩ := hs0
  obtain ⟨hA0, hA1⟩ := hA.cells
  obtain ⟨hB0, hB1⟩ := hB.cells
  obtain ⟨hC0, hC1⟩ := hC.cells
  obtain ⟨o, ho⟩ : ∃ o, sg (wv m s - wv n t) = o := ⟨_, rfl⟩
  obtain ⟨k, hk⟩ : ∃ k, sg (wv q u) = k := ⟨_, rfl⟩
  have ho2 := sg_range (wv m s - wv n t)
  have hk2 := sg_range (wv q u)
  rw [ho] at ho2
  rw [hk] at hk2
  obtain ⟨zx, ox, ex, vx, sx⟩ := plus_nmw m q s u (k := 200) hs1 hs3
  obtain ⟨zy, oy, ey, vy, sy⟩ := plus_nmw n q t u (k := 200) hs2 hs3
  obtain ⟨zu, ou, eu, vu, su⟩ := times_nmw m q s u (k := 200) (l := 200) hs1 hs3
  obtain ⟨zv, ov, ev, vv, sv'⟩ := times_nmw n q t u (k := 200) (l := 200) hs2 hs3
  have c1 : sg (wv n t - wv m s) = -o := by rw [← ho, ← sg_neg]; congr 1; omega
  have c2 : sg (wv zx ox - wv zy oy) = o := by rw [vx, vy, ← ho]; congr 1; omega
  have c3 : sg (wv zu ou - wv zv ov) = o * k := by rw [vu, vv, ← Int.sub_mul, sg_mul, ho, hk]
  have hw1 : IntKind.i64.wrap (-o) = -o := by rw [IntKind.wrap_i64]; omega
  have hw2 : IntKind.i64.wrap (o * k) = o * k := by
    obtain ⟨a, b⟩ := ho2
    have h3 : o = -1 ∨ o = 0 ∨ o = 1 := by omega
    rw [IntKind.wrap_i64]
    rcases h3 with rfl | rfl | rfl <;> omega
  have HE := Lib.hid (And.intro ex (And.intro ey (And.intro eu ev)))
  have HC := Lib.hid (And.intro ho (And.intro hk (And.intro c1 (And.intro c2 c3))))
  clear ex ey eu ev vx vy vu vv ho hk c1 c2 c3
  go_wp2_with fail
  refine (wcmp_any _ m n s t (by omega) (by omega) o HC.out.1).mono ?_
  rintro e W ⟨rfl, hq⟩
  replace hb := below_next hb hq
  replace hA := hA.below hq
  replace hB := hB.below hq
  replace hC := hC.below hq
  clear hq hA0 hA1 hB0 hB1 hC0 hC1
  go_wp2_with fail
  have hin : Below w.heap.size w W.drew ∧ (W.drew.cell? ⟨w.heap.size, 0, none⟩ = some (.bool m) ∧ W.drew.cell? ⟨w.heap.size, 1, none⟩ = some (.string s)) ∧ (W.drew.cell? ⟨w.heap.size + 1, 0, none⟩ = some (.bool n) ∧ W.drew.cell? ⟨w.heap.size + 1, 1, none⟩ = some (.string t)) ∧ (W.drew.cell? ⟨w.heap.size + 1 + 1, 0, none⟩ = some (.bool q) ∧ W.drew.cell? ⟨w.heap.size + 1 + 1, 1, none⟩ = some (.string u)) := ⟨hb.drew, hA.drew.cells, hB.drew.cells, hC.drew.cells⟩
  clear hb hA hB hC
  refine region_dag (fun w' => Below w.heap.size w w' ∧ (w'.cell? ⟨w.heap.size, 0, none⟩ = some (.bool m) ∧ w'.cell? ⟨w.heap.size, 1, none⟩ = some (.string s)) ∧ (w'.cell? ⟨w.heap.size + 1, 0, none⟩ = some (.bool n) ∧ w'.cell? ⟨w.heap.size + 1, 1, none⟩ = some (.string t)) ∧ (w'.cell? ⟨w.heap.size + 1 + 1, 0, none⟩ = some (.bool q) ∧ w'.cell? ⟨w.heap.size + 1 + 1, 1, none⟩ = some (.string u))) (fun fu li ac Wn => (fu = 35 ∧ li = #[false, false, false, false, false, false, false, false, false, false, false, false, false, false, false, false, false, false, false, false, false, false, false, false, false, false, false, false, false, false, false, false, false, false, false] ∧ ac = { tmps := #[Value.agg #[Value.bool m, Value.string s], Value.agg #[Value.bool n, Value.string t], Value.agg #[Value.bool q, Value.string u], Value.pointer (some { block := w.heap.size, off := 0 }), Value.pointer (some { block := w.heap.size + 1, off := 0 }), Value.pointer (some { block := w.heap.size + 1 + 1, off := 0 }), Value.bool false, Value.int IntKind.i64 o, Value.agg #[Value.bool m, Value.string s], Value.agg #[Value.bool n, Value.string t], Value.agg #[Value.bool q, Value.string u], Value.slice (some { block := w.heap.size + 1 + 1 + 1, off := 0 }) 3 3, Value.bool false, undef, Value.agg #[Value.bool m, Value.string s], Value.agg #[Value.bool n, Value.string t], Value.int IntKind.i64 o, undef, undef, undef, undef, undef, undef, undef, undef, undef, undef, undef, undef, undef, undef, undef, undef, undef, undef, undef, undef, undef, undef, undef, undef, undef, undef, undef, undef, undef, undef, undef, undef, undef, undef, undef, undef, undef, undef, undef, undef, undef, undef, undef, undef, undef, undef, undef, undef, undef, undef, undef, undef, undef, undef, undef, undef, undef, undef, undef, undef, undef, undef], defers := [] } ∧ (fun w' => Below w.heap.size w w' ∧ (w'.cell? ⟨w.heap.size, 0, none⟩ = some (.bool m) ∧ w'.cell? ⟨w.heap.size, 1, none⟩ = some (.string s)) ∧ (w'.cell? ⟨w.heap.size + 1, 0, none⟩ = some (.bool n) ∧ w'.cell? ⟨w.heap.size + 1, 1, none⟩ = some (.string t)) ∧ (w'.cell? ⟨w.heap.size + 1 + 1, 0, none⟩ = some (.bool q) ∧ w'.cell? ⟨w.heap.size + 1 + 1, 1, none⟩ = some (.string u))) Wn) ∨ (fu = 30 ∧ li = #[true, true, true, true, true, false, false, false, false, false, false, false, false, false, false, false, false, false, false, false, false, false, false, false, false, false, false, false, false, false, false, false, false, false, false] ∧ ∃ (x17 : Value) (x18 : Value) (x20 : Value), ac = { tmps := #[Value.agg #[Value.bool m, Value.string s], Value.agg #[Value.bool n, Value.string t], Value.agg #[Value.bool q, Value.string u], Value.pointer (some { block := w.heap.size, off := 0 }), Value.pointer (some { block := w.heap.size + 1, off := 0 }), Value.pointer (some { block := w.heap.size + 1 + 1, off := 0 }), Value.bool false, Value.int IntKind.i64 o, Value.agg #[Value.bool m, Value.string s], Value.agg #[Value.bool n, Value.string t], Value.agg #[Value.bool q, Value.string u], Value.slice (some { block := w.heap.size + 1 + 1 + 1, off := 0 }) 3 3, Value.bool false, undef, Value.agg #[Value.bool m, Value.string s], Value.agg #[Value.bool n, Value.string t], Value.int IntKind.i64 o, x17, x18, Value.int IntKind.i64 (-o), x20, Value.int IntKind.i64 (-o), undef, undef, undef, undef, undef, undef, undef, undef, undef, undef, undef, undef, undef, undef, undef, undef, undef, undef, undef, undef, undef, undef, undef, undef, undef, undef, undef, undef, undef, undef, undef, undef, undef, undef, undef, undef, undef, undef, undef, undef, undef, undef, undef, undef, undef, undef, undef, undef, undef, undef, undef, undef, undef, undef, undef, undef, undef], defers := [] } ∧ (fun w' => Below w.heap.size w w' ∧ (w'.cell? ⟨w.heap.size, 0, none⟩ = some (.bool m) ∧ w'.cell? ⟨w.heap.size, 1, none⟩ = some (.string s)) ∧ (w'.cell? ⟨w.heap.size + 1, 0, none⟩ = some (.bool n) ∧ w'.cell? ⟨w.heap.size + 1, 1, none⟩ = some (.string t)) ∧ (w'.cell? ⟨w.heap.size + 1 + 1, 0, none⟩ = some (.bool q) ∧ w'.cell? ⟨w.heap.size + 1 + 1, 1, none⟩ = some (.string u))) Wn) ∨ (fu = 22 ∧ li = #[true, true, true, true, true, true, true, true, true, true, false, true, true, false, false, false, true, false, false, false, false, false, false, false, false, false, false, false, false, false, false, false, false, false, false] ∧ ∃ (x17 : Value) (x18 : Value) (x19 : Value) (x20 : Value) (x21 : Value) (x22 : Value) (x24 : Value) (x25 : Value) (g26 : Nat), ac = { tmps := #[Value.agg #[Value.bool m, Value.string s], Value.agg #[Value.bool n, Value.string t], Value.agg #[Value.bool q, Value.string u], Value.pointer (some { block := w.heap.size, off := 0 }), Value.pointer (some { block := w.heap.size + 1, off := 0 }), Value.pointer (some { block := w.heap.size + 1 + 1, off := 0 }), Value.bool false, Value.int IntKind.i64 o, Value.agg #[Value.bool m, Value.string s], Value.agg #[Value.bool n, Value.string t], Value.agg #[Value.bool q, Value.string u], Value.slice (some { block := w.heap.size + 1 + 1 + 1, off := 0 }) 3 3, Value.bool false, undef, Value.agg #[Value.bool m, Value.string s], Value.agg #[Value.bool n, Value.string t], Value.int IntKind.i64 o, x17, x18, x19, x20, x21, x22, Value.bool false, x24, x25, Value.slice (some { block := g26, off := 0 }) 2 2, undef, Value.agg #[Value.bool n, Value.string t], Value.agg #[Value.bool q, Value.string u], undef, undef, undef, Value.int IntKind.i64 o, undef, undef, undef, undef, undef, undef, undef, undef, undef, undef, undef, undef, undef, undef, undef, undef, undef, undef, undef, undef, undef, undef, undef, undef, undef, undef, undef, undef, undef, undef, undef, undef, undef, undef, undef, undef, undef, undef, undef, undef, undef, undef, undef, undef, undef], defers := [] } ∧ (fun w' => Below w.heap.size w w' ∧ (w'.cell? ⟨w.heap.size, 0, none⟩ = some (.bool m) ∧ w'.cell? ⟨w.heap.size, 1, none⟩ = some (.string s)) ∧ (w'.cell? ⟨w.heap.size + 1, 0, none⟩ = some (.bool n) ∧ w'.cell? ⟨w.heap.size + 1, 1, none⟩ = some (.string t)) ∧ (w'.cell? ⟨w.heap.size + 1 + 1, 0, none⟩ = some (.bool q) ∧ w'.cell? ⟨w.heap.size + 1 + 1, 1, none⟩ = some (.string u))) Wn ∧ IAt Wn (some ⟨g26, 0, none⟩) [(m, s), (q, u)]) ∨ (fu = 22 ∧ li = #[true, true, true, true, true, true, true, true, true, false, false, true, true, true, false, false, true, false, false, false, false, false, false, false, false, false, false, false, false, false, false, false, false, false, false] ∧ ∃ (x17 : Value) (x18 : Value) (x19 : Value) (x20 : Value) (x21 : Value) (x22 : Value) (x28 : Value) (x29 : Value) (g30 : Nat), ac = { tmps := #[Value.agg #[Value.bool m, Value.string s], Value.agg #[Value.bool n, Value.string t], Value.agg #[Value.bool q, Value.string u], Value.pointer (some { block := w.heap.size, off := 0 }), Value.pointer (some { block := w.heap.size + 1, off := 0 }), Value.pointer (some { block := w.heap.size + 1 + 1, off := 0 }), Value.bool false, Value.int IntKind.i64 o, Value.agg #[Value.bool m, Value.string s], Value.agg #[Value.bool n, Value.string t], Value.agg #[Value.bool q, Value.string u], Value.slice (some { block := w.heap.size + 1 + 1 + 1, off := 0 }) 3 3, Value.bool false, undef, Value.agg #[Value.bool m, Value.string s], Value.agg #[Value.bool n, Value.string t], Value.int IntKind.i64 o, x17, x18, x19, x20, x21, x22, Value.bool false, Value.agg #[Value.bool m, Value.string s], Value.agg #[Value.bool q, Value.string u], undef, undef, x28, x29, Value.slice (some { block := g30, off := 0 }) 2 2, undef, undef, Value.int IntKind.i64 o, undef, undef, undef, undef, undef, undef, undef, undef, undef, undef, undef, undef, undef, undef, undef, undef, undef, undef, undef, undef, undef, undef, undef, undef, undef, undef, undef, undef, undef, undef, undef, undef, undef, undef, undef, undef, undef, undef, undef, undef, undef, undef, undef, undef, undef], defers := [] } ∧ (fun w' => Below w.heap.size w w' ∧ (w'.cell? ⟨w.heap.size, 0, none⟩ = some (.bool m) ∧ w'.cell? ⟨w.heap.size, 1, none⟩ = some (.string s)) ∧ (w'.cell? ⟨w.heap.size + 1, 0, none⟩ = some (.bool n) ∧ w'.cell? ⟨w.heap.size + 1, 1, none⟩ = some (.string t)) ∧ (w'.cell? ⟨w.heap.size + 1 + 1, 0, none⟩ = some (.bool q) ∧ w'.cell? ⟨w.heap.size + 1 + 1, 1, none⟩ = some (.string u))) Wn ∧ IAt Wn (some ⟨g30, 0, none⟩) [(n, t), (q, u)]) ∨ (fu = 21 ∧ li = #[true, true, true, true, true, true, true, true, true, true, true, true, true, false, false, false, true, false, false, false, false, false, false, false, false, false, false, false, false, false, false, false, false, false, false] ∧ ∃ (x17 : Value) (x18 : Value) (x19 : Value) (x20 : Value) (x21 : Value) (x22 : Value) (x24 : Value) (x25 : Value) (x26 : Value), ac = { tmps := #[Value.agg #[Value.bool m, Value.string s], Value.agg #[Value.bool n, Value.string t], Value.agg #[Value.bool q, Value.string u], Value.pointer (some { block := w.heap.size, off := 0 }), Value.pointer (some { block := w.heap.size + 1, off := 0 }), Value.pointer (some { block := w.heap.size + 1 + 1, off := 0 }), Value.bool false, Value.int IntKind.i64 o, Value.agg #[Value.bool m, Value.string s], Value.agg #[Value.bool n, Value.string t], Value.agg #[Value.bool q, Value.string u], Value.slice (some { block := w.heap.size + 1 + 1 + 1, off := 0 }) 3 3, Value.bool false, undef, Value.agg #[Value.bool m, Value.string s], Value.agg #[Value.bool n, Value.string t], Value.int IntKind.i64 o, x17, x18, x19, x20, x21, x22, Value.bool false, x24, x25, x26, Value.agg #[Value.bool zx, Value.string ox], Value.agg #[Value.bool n, Value.string t], Value.agg #[Value.bool q, Value.string u], undef, undef, undef, Value.int IntKind.i64 o, undef, undef, undef, undef, undef, undef, undef, undef, undef, undef, undef, undef, undef, undef, undef, undef, undef, undef, undef, undef, undef, undef, undef, undef, undef, undef, undef, undef, undef, undef, undef, undef, undef, undef, undef, undef, undef, undef, undef, undef, undef, undef, undef, undef, undef], defers := [] } ∧ (fun w' => Below w.heap.size w w' ∧ (w'.cell? ⟨w.heap.size, 0, none⟩ = some (.bool m) ∧ w'.cell? ⟨w.heap.size, 1, none⟩ = some (.string s)) ∧ (w'.cell? ⟨w.heap.size + 1, 0, none⟩ = some (.bool n) ∧ w'.cell? ⟨w.heap.size + 1, 1, none⟩ = some (.string t)) ∧ (w'.cell? ⟨w.heap.size + 1 + 1, 0, none⟩ = some (.bool q) ∧ w'.cell? ⟨w.heap.size + 1 + 1, 1, none⟩ = some (.string u))) Wn) ∨ (fu = 21 ∧ li = #[true, true, true, true, true, true, true, true, true, true, false, true, true, true, false, false, true, false, false, false, false, false, false, false, false, false, false, false, false, false, false, false, false, false, false] ∧ ∃ (x17 : Value) (x18 : Value) (x19 : Value) (x20 : Value) (x21 : Value) (x22 : Value) (x24 : Value) (x25 : Value) (x28 : Value) (x29 : Value) (g26 : Nat) (g30 : Nat), ac = { tmps := #[Value.agg #[Value.bool m, Value.string s], Value.agg #[Value.bool n, Value.string t], Value.agg #[Value.bool q, Value.string u], Value.pointer (some { block := w.heap.size, off := 0 }), Value.pointer (some { block := w.heap.size + 1, off := 0 }), Value.pointer (some { block := w.heap.size + 1 + 1, off := 0 }), Value.bool false, Value.int IntKind.i64 o, Value.agg #[Value.bool m, Value.string s], Value.agg #[Value.bool n, Value.string t], Value.agg #[Value.bool q, Value.string u], Value.slice (some { block := w.heap.size + 1 + 1 + 1, off := 0 }) 3 3, Value.bool false, undef, Value.agg #[Value.bool m, Value.string s], Value.agg #[Value.bool n, Value.string t], Value.int IntKind.i64 o, x17, x18, x19, x20, x21, x22, Value.bool false, x24, x25, Value.slice (some { block := g26, off := 0 }) 2 2, undef, x28, x29, Value.slice (some { block := g30, off := 0 }) 2 2, undef, undef, Value.int IntKind.i64 o, undef, undef, undef, undef, undef, undef, undef, undef, undef, undef, undef, undef, undef, undef, undef, undef, undef, undef, undef, undef, undef, undef, undef, undef, undef, undef, undef, undef, undef, undef, undef, undef, undef, undef, undef, undef, undef, undef, undef, undef, undef, undef, undef, undef, undef], defers := [] } ∧ (fun w' => Below w.heap.size w w' ∧ (w'.cell? ⟨w.heap.size, 0, none⟩ = some (.bool m) ∧ w'.cell? ⟨w.heap.size, 1, none⟩ = some (.string s)) ∧ (w'.cell? ⟨w.heap.size + 1, 0, none⟩ = some (.bool n) ∧ w'.cell? ⟨w.heap.size + 1, 1, none⟩ = some (.string t)) ∧ (w'.cell? ⟨w.heap.size + 1 + 1, 0, none⟩ = some (.bool q) ∧ w'.cell? ⟨w.heap.size + 1 + 1, 1, none⟩ = some (.string u))) Wn ∧ IAt Wn (some ⟨g26, 0, none⟩) [(m, s), (q, u)] ∧ IAt Wn (some ⟨g30, 0, none⟩) [(n, t), (q, u)]) ∨ (fu = 20 ∧ li = #[true, true, true, true, true, true, true, true, true, true, true, true, true, true, false, false, true, false, false, false, false, false, false, false, false, false, false, false, false, false, false, false, false, false, false] ∧ ∃ (x17 : Value) (x18 : Value) (x19 : Value) (x20 : Value) (x21 : Value) (x22 : Value) (x24 : Value) (x25 : Value) (x26 : Value) (x28 : Value) (x29 : Value) (g30 : Nat), ac = { tmps := #[Value.agg #[Value.bool m, Value.string s], Value.agg #[Value.bool n, Value.string t], Value.agg #[Value.bool q, Value.string u], Value.pointer (some { block := w.heap.size, off := 0 }), Value.pointer (some { block := w.heap.size + 1, off := 0 }), Value.pointer (some { block := w.heap.size + 1 + 1, off := 0 }), Value.bool false, Value.int IntKind.i64 o, Value.agg #[Value.bool m, Value.string s], Value.agg #[Value.bool n, Value.string t], Value.agg #[Value.bool q, Value.string u], Value.slice (some { block := w.heap.size + 1 + 1 + 1, off := 0 }) 3 3, Value.bool false, undef, Value.agg #[Value.bool m, Value.string s], Value.agg #[Value.bool n, Value.string t], Value.int IntKind.i64 o, x17, x18, x19, x20, x21, x22, Value.bool false, x24, x25, x26, Value.agg #[Value.bool zx, Value.string ox], x28, x29, Value.slice (some { block := g30, off := 0 }) 2 2, undef, undef, Value.int IntKind.i64 o, undef, undef, undef, undef, undef, undef, undef, undef, undef, undef, undef, undef, undef, undef, undef, undef, undef, undef, undef, undef, undef, undef, undef, undef, undef, undef, undef, undef, undef, undef, undef, undef, undef, undef, undef, undef, undef, undef, undef, undef, undef, undef, undef, undef, undef], defers := [] } ∧ (fun w' => Below w.heap.size w w' ∧ (w'.cell? ⟨w.heap.size, 0, none⟩ = some (.bool m) ∧ w'.cell? ⟨w.heap.size, 1, none⟩ = some (.string s)) ∧ (w'.cell? ⟨w.heap.size + 1, 0, none⟩ = some (.bool n) ∧ w'.cell? ⟨w.heap.size + 1, 1, none⟩ = some (.string t)) ∧ (w'.cell? ⟨w.heap.size + 1 + 1, 0, none⟩ = some (.bool q) ∧ w'.cell? ⟨w.heap.size + 1 + 1, 1, none⟩ = some (.string u))) Wn ∧ IAt Wn (some ⟨g30, 0, none⟩) [(n, t), (q, u)]) ∨ (fu = 19 ∧ li = #[true, true, true, true, true, true, true, true, true, true, true, true, true, true, true, false, true, false, false, false, false, false, false, false, false, false, false, false, false, false, false, false, false, false, false] ∧ ∃ (x17 : Value) (x18 : Value) (x19 : Value) (x20 : Value) (x21 : Value) (x22 : Value) (x24 : Value) (x25 : Value) (x26 : Value) (x28 : Value) (x29 : Value) (x30 : Value), ac = { tmps := #[Value.agg #[Value.bool m, Value.string s], Value.agg #[Value.bool n, Value.string t], Value.agg #[Value.bool q, Value.string u], Value.pointer (some { block := w.heap.size, off := 0 }), Value.pointer (some { block := w.heap.size + 1, off := 0 }), Value.pointer (some { block := w.heap.size + 1 + 1, off := 0 }), Value.bool false, Value.int IntKind.i64 o, Value.agg #[Value.bool m, Value.string s], Value.agg #[Value.bool n, Value.string t], Value.agg #[Value.bool q, Value.string u], Value.slice (some { block := w.heap.size + 1 + 1 + 1, off := 0 }) 3 3, Value.bool false, undef, Value.agg #[Value.bool m, Value.string s], Value.agg #[Value.bool n, Value.string t], Value.int IntKind.i64 o, x17, x18, x19, x20, x21, x22, Value.bool false, x24, x25, x26, Value.agg #[Value.bool zx, Value.string ox], x28, x29, x30, Value.agg #[Value.bool zy, Value.string oy], undef, Value.int IntKind.i64 o, undef, undef, undef, undef, undef, undef, undef, undef, undef, undef, undef, undef, undef, undef, undef, undef, undef, undef, undef, undef, undef, undef, undef, undef, undef, undef, undef, undef, undef, undef, undef, undef, undef, undef, undef, undef, undef, undef, undef, undef, undef, undef, undef, undef, undef], defers := [] } ∧ (fun w' => Below w.heap.size w w' ∧ (w'.cell? ⟨w.heap.size, 0, none⟩ = some (.bool m) ∧ w'.cell? ⟨w.heap.size, 1, none⟩ = some (.string s)) ∧ (w'.cell? ⟨w.heap.size + 1, 0, none⟩ = some (.bool n) ∧ w'.cell? ⟨w.heap.size + 1, 1, none⟩ = some (.string t)) ∧ (w'.cell? ⟨w.heap.size + 1 + 1, 0, none⟩ = some (.bool q) ∧ w'.cell? ⟨w.heap.size + 1 + 1, 1, none⟩ = some (.string u))) Wn) ∨ (fu = 18 ∧ li = #[true, true, true, true, true, true, true, true, true, true, true, true, true, true, true, true, true, false, false, false, false, false, false, false, false, false, false, false, false, false, false, false, false, false, false] ∧ ∃ (x17 : Value) (x18 : Value) (x19 : Value) (x20 : Value) (x21 : Value) (x22 : Value) (x24 : Value) (x25 : Value) (x26 : Value) (x27 : Value) (x28 : Value) (x29 : Value) (x30 : Value) (x31 : Value), ac = { tmps := #[Value.agg #[Value.bool m, Value.string s], Value.agg #[Value.bool n, Value.string t], Value.agg #[Value.bool q, Value.string u], Value.pointer (some { block := w.heap.size, off := 0 }), Value.pointer (some { block := w.heap.size + 1, off := 0 }), Value.pointer (some { block := w.heap.size + 1 + 1, off := 0 }), Value.bool false, Value.int IntKind.i64 o, Value.agg #[Value.bool m, Value.string s], Value.agg #[Value.bool n, Value.string t], Value.agg #[Value.bool q, Value.string u], Value.slice (some { block := w.heap.size + 1 + 1 + 1, off := 0 }) 3 3, Value.bool false, undef, Value.agg #[Value.bool m, Value.string s], Value.agg #[Value.bool n, Value.string t], Value.int IntKind.i64 o, x17, x18, x19, x20, x21, x22, Value.bool false, x24, x25, x26, x27, x28, x29, x30, x31, Value.int IntKind.i64 o, Value.int IntKind.i64 o, undef, undef, undef, undef, undef, undef, undef, undef, undef, undef, undef, undef, undef, undef, undef, undef, undef, undef, undef, undef, undef, undef, undef, undef, undef, undef, undef, undef, undef, undef, undef, undef, undef, undef, undef, undef, undef, undef, undef, undef, undef, undef, undef, undef, undef], defers := [] } ∧ (fun w' => Below w.heap.size w w' ∧ (w'.cell? ⟨w.heap.size, 0, none⟩ = some (.bool m) ∧ w'.cell? ⟨w.heap.size, 1, none⟩ = some (.string s)) ∧ (w'.cell? ⟨w.heap.size + 1, 0, none⟩ = some (.bool n) ∧ w'.cell? ⟨w.heap.size + 1, 1, none⟩ = some (.string t)) ∧ (w'.cell? ⟨w.heap.size + 1 + 1, 0, none⟩ = some (.bool q) ∧ w'.cell? ⟨w.heap.size + 1 + 1, 1, none⟩ = some (.string u))) Wn) ∨ (fu = 8 ∧ li = #[true, true, true, true, true, true, true, true, true, true, true, true, true, true, true, true, true, true, true, true, true, true, true, false, true, true, false, false, false, true, true, false, false, false, false] ∧ ∃ (x17 : Value) (x18 : Value) (x19 : Value) (x20 : Value) (x21 : Value) (x22 : Value) (x23 : Value) (x24 : Value) (x25 : Value) (x26 : Value) (x27 : Value) (x28 : Value) (x29 : Value) (x30 : Value) (x31 : Value) (x32 : Value) (x33 : Value) (x34 : Value) (x35 : Value) (x37 : Value) (x38 : Value) (g39 : Nat), ac = { tmps := #[Value.agg #[Value.bool m, Value.string s], Value.agg #[Value.bool n, Value.string t], Value.agg #[Value.bool q, Value.string u], Value.pointer (some { block := w.heap.size, off := 0 }), Value.pointer (some { block := w.heap.size + 1, off := 0 }), Value.pointer (some { block := w.heap.size + 1 + 1, off := 0 }), Value.bool false, Value.int IntKind.i64 o, Value.agg #[Value.bool m, Value.string s], Value.agg #[Value.bool n, Value.string t], Value.agg #[Value.bool q, Value.string u], Value.slice (some { block := w.heap.size + 1 + 1 + 1, off := 0 }) 3 3, Value.bool false, undef, Value.agg #[Value.bool m, Value.string s], Value.agg #[Value.bool n, Value.string t], Value.int IntKind.i64 o, x17, x18, x19, x20, x21, x22, x23, x24, x25, x26, x27, x28, x29, x30, x31, x32, x33, x34, x35, Value.bool false, x37, x38, Value.slice (some { block := g39, off := 0 }) 2 2, undef, Value.agg #[Value.bool n, Value.string t], Value.agg #[Value.bool q, Value.string u], undef, undef, undef, Value.int IntKind.i64 o, Value.agg #[Value.bool q, Value.string u], undef, undef, undef, undef, undef, undef, undef, undef, undef, undef, undef, undef, undef, undef, undef, undef, undef, undef, undef, undef, undef, undef, undef, undef, undef, undef, undef, undef, undef, undef, undef], defers := [] } ∧ (fun w' => Below w.heap.size w w' ∧ (w'.cell? ⟨w.heap.size, 0, none⟩ = some (.bool m) ∧ w'.cell? ⟨w.heap.size, 1, none⟩ = some (.string s)) ∧ (w'.cell? ⟨w.heap.size + 1, 0, none⟩ = some (.bool n) ∧ w'.cell? ⟨w.heap.size + 1, 1, none⟩ = some (.string t)) ∧ (w'.cell? ⟨w.heap.size + 1 + 1, 0, none⟩ = some (.bool q) ∧ w'.cell? ⟨w.heap.size + 1 + 1, 1, none⟩ = some (.string u))) Wn ∧ IAt Wn (some ⟨g39, 0, none⟩) [(m, s), (q, u)]) ∨ (fu = 8 ∧ li = #[true, true, true, true, true, true, true, true, true, true, true, true, true, true, true, true, true, true, true, true, true, true, false, false, true, true, true, false, false, true, true, false, false, false, false] ∧ ∃ (x17 : Value) (x18 : Value) (x19 : Value) (x20 : Value) (x21 : Value) (x22 : Value) (x23 : Value) (x24 : Value) (x25 : Value) (x26 : Value) (x27 : Value) (x28 : Value) (x29 : Value) (x30 : Value) (x31 : Value) (x32 : Value) (x33 : Value) (x34 : Value) (x35 : Value) (x41 : Value) (x42 : Value) (g43 : Nat), ac = { tmps := #[Value.agg #[Value.bool m, Value.string s], Value.agg #[Value.bool n, Value.string t], Value.agg #[Value.bool q, Value.string u], Value.pointer (some { block := w.heap.size, off := 0 }), Value.pointer (some { block := w.heap.size + 1, off := 0 }), Value.pointer (some { block := w.heap.size + 1 + 1, off := 0 }), Value.bool false, Value.int IntKind.i64 o, Value.agg #[Value.bool m, Value.string s], Value.agg #[Value.bool n, Value.string t], Value.agg #[Value.bool q, Value.string u], Value.slice (some { block := w.heap.size + 1 + 1 + 1, off := 0 }) 3 3, Value.bool false, undef, Value.agg #[Value.bool m, Value.string s], Value.agg #[Value.bool n, Value.string t], Value.int IntKind.i64 o, x17, x18, x19, x20, x21, x22, x23, x24, x25, x26, x27, x28, x29, x30, x31, x32, x33, x34, x35, Value.bool false, Value.agg #[Value.bool m, Value.string s], Value.agg #[Value.bool q, Value.string u], undef, undef, x41, x42, Value.slice (some { block := g43, off := 0 }) 2 2, undef, undef, Value.int IntKind.i64 o, Value.agg #[Value.bool q, Value.string u], undef, undef, undef, undef, undef, undef, undef, undef, undef, undef, undef, undef, undef, undef, undef, undef, undef, undef, undef, undef, undef, undef, undef, undef, undef, undef, undef, undef, undef, undef, undef], defers := [] } ∧ (fun w' => Below w.heap.size w w' ∧ (w'.cell? ⟨w.heap.size, 0, none⟩ = some (.bool m) ∧ w'.cell? ⟨w.heap.size, 1, none⟩ = some (.string s)) ∧ (w'.cell? ⟨w.heap.size + 1, 0, none⟩ = some (.bool n) ∧ w'.cell? ⟨w.heap.size + 1, 1, none⟩ = some (.string t)) ∧ (w'.cell? ⟨w.heap.size + 1 + 1, 0, none⟩ = some (.bool q) ∧ w'.cell? ⟨w.heap.size + 1 + 1, 1, none⟩ = some (.string u))) Wn ∧ IAt Wn (some ⟨g43, 0, none⟩) [(n, t), (q, u)]) ∨ (fu = 7 ∧ li = #[true, true, true, true, true, true, true, true, true, true, true, true, true, true, true, true, true, true, true, true, true, true, true, true, true, true, false, false, false, true, true, false, false, false, false] ∧ ∃ (x17 : Value) (x18 : Value) (x19 : Value) (x20 : Value) (x21 : Value) (x22 : Value) (x23 : Value) (x24 : Value) (x25 : Value) (x26 : Value) (x27 : Value) (x28 : Value) (x29 : Value) (x30 : Value) (x31 : Value) (x32 : Value) (x33 : Value) (x34 : Value) (x35 : Value) (x37 : Value) (x38 : Value) (x39 : Value), ac = { tmps := #[Value.agg #[Value.bool m, Value.string s], Value.agg #[Value.bool n, Value.string t], Value.agg #[Value.bool q, Value.string u], Value.pointer (some { block := w.heap.size, off := 0 }), Value.pointer (some { block := w.heap.size + 1, off := 0 }), Value.pointer (some { block := w.heap.size + 1 + 1, off := 0 }), Value.bool false, Value.int IntKind.i64 o, Value.agg #[Value.bool m, Value.string s], Value.agg #[Value.bool n, Value.string t], Value.agg #[Value.bool q, Value.string u], Value.slice (some { block := w.heap.size + 1 + 1 + 1, off := 0 }) 3 3, Value.bool false, undef, Value.agg #[Value.bool m, Value.string s], Value.agg #[Value.bool n, Value.string t], Value.int IntKind.i64 o, x17, x18, x19, x20, x21, x22, x23, x24, x25, x26, x27, x28, x29, x30, x31, x32, x33, x34, x35, Value.bool false, x37, x38, x39, Value.agg #[Value.bool zu, Value.string ou], Value.agg #[Value.bool n, Value.string t], Value.agg #[Value.bool q, Value.string u], undef, undef, undef, Value.int IntKind.i64 o, Value.agg #[Value.bool q, Value.string u], undef, undef, undef, undef, undef, undef, undef, undef, undef, undef, undef, undef, undef, undef, undef, undef, undef, undef, undef, undef, undef, undef, undef, undef, undef, undef, undef, undef, undef, undef, undef], defers := [] } ∧ (fun w' => Below w.heap.size w w' ∧ (w'.cell? ⟨w.heap.size, 0, none⟩ = some (.bool m) ∧ w'.cell? ⟨w.heap.size, 1, none⟩ = some (.string s)) ∧ (w'.cell? ⟨w.heap.size + 1, 0, none⟩ = some (.bool n) ∧ w'.cell? ⟨w.heap.size + 1, 1, none⟩ = some (.string t)) ∧ (w'.cell? ⟨w.heap.size + 1 + 1, 0, none⟩ = some (.bool q) ∧ w'.cell? ⟨w.heap.size + 1 + 1, 1, none⟩ = some (.string u))) Wn) ∨ (fu = 7 ∧ li = #[true, true, true, true, true, true, true, true, true, true, true, true, true, true, true, true, true, true, true, true, true, true, true, false, true, true, true, false, false, true, true, false, false, false, false] ∧ ∃ (x17 : Value) (x18 : Value) (x19 : Value) (x20 : Value) (x21 : Value) (x22 : Value) (x23 : Value) (x24 : Value) (x25 : Value) (x26 : Value) (x27 : Value) (x28 : Value) (x29 : Value) (x30 : Value) (x31 : Value) (x32 : Value) (x33 : Value) (x34 : Value) (x35 : Value) (x37 : Value) (x38 : Value) (x41 : Value) (x42 : Value) (g39 : Nat) (g43 : Nat), ac = { tmps := #[Value.agg #[Value.bool m, Value.string s], Value.agg #[Value.bool n, Value.string t], Value.agg #[Value.bool q, Value.string u], Value.pointer (some { block := w.heap.size, off := 0 }), Value.pointer (some { block := w.heap.size + 1, off := 0 }), Value.pointer (some { block := w.heap.size + 1 + 1, off := 0 }), Value.bool false, Value.int IntKind.i64 o, Value.agg #[Value.bool m, Value.string s], Value.agg #[Value.bool n, Value.string t], Value.agg #[Value.bool q, Value.string u], Value.slice (some { block := w.heap.size + 1 + 1 + 1, off := 0 }) 3 3, Value.bool false, undef, Value.agg #[Value.bool m, Value.string s], Value.agg #[Value.bool n, Value.string t], Value.int IntKind.i64 o, x17, x18, x19, x20, x21, x22, x23, x24, x25, x26, x27, x28, x29, x30, x31, x32, x33, x34, x35, Value.bool false, x37, x38, Value.slice (some { block := g39, off := 0 }) 2 2, undef, x41, x42, Value.slice (some { block := g43, off := 0 }) 2 2, undef, undef, Value.int IntKind.i64 o, Value.agg #[Value.bool q, Value.string u], undef, undef, undef, undef, undef, undef, undef, undef, undef, undef, undef, undef, undef, undef, undef, undef, undef, undef, undef, undef, undef, undef, undef, undef, undef, undef, undef, undef, undef, undef, undef], defers := [] } ∧ (fun w' => Below w.heap.size w w' ∧ (w'.cell? ⟨w.heap.size, 0, none⟩ = some (.bool m) ∧ w'.cell? ⟨w.heap.size, 1, none⟩ = some (.string s)) ∧ (w'.cell? ⟨w.heap.size + 1, 0, none⟩ = some (.bool n) ∧ w'.cell? ⟨w.heap.size + 1, 1, none⟩ = some (.string t)) ∧ (w'.cell? ⟨w.heap.size + 1 + 1, 0, none⟩ = some (.bool q) ∧ w'.cell? ⟨w.heap.size + 1 + 1, 1, none⟩ = some (.string u))) Wn ∧ IAt Wn (some ⟨g39, 0, none⟩) [(m, s), (q, u)] ∧ IAt Wn (some ⟨g43, 0, none⟩) [(n, t), (q, u)]) ∨ (fu = 6 ∧ li = #[true, true, true, true, true, true, true, true, true, true, true, true, true, true, true, true, true, true, true, true, true, true, true, true, true, true, true, false, false, true, true, false, false, false, false] ∧ ∃ (x17 : Value) (x18 : Value) (x19 : Value) (x20 : Value) (x21 : Value) (x22 : Value) (x23 : Value) (x24 : Value) (x25 : Value) (x26 : Value) (x27 : Value) (x28 : Value) (x29 : Value) (x30 : Value) (x31 : Value) (x32 : Value) (x33 : Value) (x34 : Value) (x35 : Value) (x37 : Value) (x38 : Value) (x39 : Value) (x41 : Value) (x42 : Value) (g43 : Nat), ac = { tmps := #[Value.agg #[Value.bool m, Value.string s], Value.agg #[Value.bool n, Value.string t], Value.agg #[Value.bool q, Value.string u], Value.pointer (some { block := w.heap.size, off := 0 }), Value.pointer (some { block := w.heap.size + 1, off := 0 }), Value.pointer (some { block := w.heap.size + 1 + 1, off := 0 }), Value.bool false, Value.int IntKind.i64 o, Value.agg #[Value.bool m, Value.string s], Value.agg #[Value.bool n, Value.string t], Value.agg #[Value.bool q, Value.string u], Value.slice (some { block := w.heap.size + 1 + 1 + 1, off := 0 }) 3 3, Value.bool false, undef, Value.agg #[Value.bool m, Value.string s], Value.agg #[Value.bool n, Value.string t], Value.int IntKind.i64 o, x17, x18, x19, x20, x21, x22, x23, x24, x25, x26, x27, x28, x29, x30, x31, x32, x33, x34, x35, Value.bool false, x37, x38, x39, Value.agg #[Value.bool zu, Value.string ou], x41, x42, Value.slice (some { block := g43, off := 0 }) 2 2, undef, undef, Value.int IntKind.i64 o, Value.agg #[Value.bool q, Value.string u], undef, undef, undef, undef, undef, undef, undef, undef, undef, undef, undef, undef, undef, undef, undef, undef, undef, undef, undef, undef, undef, undef, undef, undef, undef, undef, undef, undef, undef, undef, undef], defers := [] } ∧ (fun w' => Below w.heap.size w w' ∧ (w'.cell? ⟨w.heap.size, 0, none⟩ = some (.bool m) ∧ w'.cell? ⟨w.heap.size, 1, none⟩ = some (.string s)) ∧ (w'.cell? ⟨w.heap.size + 1, 0, none⟩ = some (.bool n) ∧ w'.cell? ⟨w.heap.size + 1, 1, none⟩ = some (.string t)) ∧ (w'.cell? ⟨w.heap.size + 1 + 1, 0, none⟩ = some (.bool q) ∧ w'.cell? ⟨w.heap.size + 1 + 1, 1, none⟩ = some (.string u))) Wn ∧ IAt Wn (some ⟨g43, 0, none⟩) [(n, t), (q, u)]) ∨ (fu = 5 ∧ li = #[true, true, true, true, true, true, true, true, true, true, true, true, true, true, true, true, true, true, true, true, true, true, true, true, true, true, true, true, false, true, true, false, false, false, false] ∧ ∃ (x17 : Value) (x18 : Value) (x19 : Value) (x20 : Value) (x21 : Value) (x22 : Value) (x23 : Value) (x24 : Value) (x25 : Value) (x26 : Value) (x27 : Value) (x28 : Value) (x29 : Value) (x30 : Value) (x31 : Value) (x32 : Value) (x33 : Value) (x34 : Value) (x35 : Value) (x37 : Value) (x38 : Value) (x39 : Value) (x41 : Value) (x42 : Value) (x43 : Value), ac = { tmps := #[Value.agg #[Value.bool m, Value.string s], Value.agg #[Value.bool n, Value.string t], Value.agg #[Value.bool q, Value.string u], Value.pointer (some { block := w.heap.size, off := 0 }), Value.pointer (some { block := w.heap.size + 1, off := 0 }), Value.pointer (some { block := w.heap.size + 1 + 1, off := 0 }), Value.bool false, Value.int IntKind.i64 o, Value.agg #[Value.bool m, Value.string s], Value.agg #[Value.bool n, Value.string t], Value.agg #[Value.bool q, Value.string u], Value.slice (some { block := w.heap.size + 1 + 1 + 1, off := 0 }) 3 3, Value.bool false, undef, Value.agg #[Value.bool m, Value.string s], Value.agg #[Value.bool n, Value.string t], Value.int IntKind.i64 o, x17, x18, x19, x20, x21, x22, x23, x24, x25, x26, x27, x28, x29, x30, x31, x32, x33, x34, x35, Value.bool false, x37, x38, x39, Value.agg #[Value.bool zu, Value.string ou], x41, x42, x43, Value.agg #[Value.bool zv, Value.string ov], undef, Value.int IntKind.i64 o, Value.agg #[Value.bool q, Value.string u], undef, undef, undef, undef, undef, undef, undef, undef, undef, undef, undef, undef, undef, undef, undef, undef, undef, undef, undef, undef, undef, undef, undef, undef, undef, undef, undef, undef, undef, undef, undef], defers := [] } ∧ (fun w' => Below w.heap.size w w' ∧ (w'.cell? ⟨w.heap.size, 0, none⟩ = some (.bool m) ∧ w'.cell? ⟨w.heap.size, 1, none⟩ = some (.string s)) ∧ (w'.cell? ⟨w.heap.size + 1, 0, none⟩ = some (.bool n) ∧ w'.cell? ⟨w.heap.size + 1, 1, none⟩ = some (.string t)) ∧ (w'.cell? ⟨w.heap.size + 1 + 1, 0, none⟩ = some (.bool q) ∧ w'.cell? ⟨w.heap.size + 1 + 1, 1, none⟩ = some (.string u))) Wn) ∨ (fu = 4 ∧ li = #[true, true, true, true, true, true, true, true, true, true, true, true, true, true, true, true, true, true, true, true, true, true, true, true, true, true, true, true, true, true, true, false, false, false, false] ∧ ∃ (x17 : Value) (x18 : Value) (x19 : Value) (x20 : Value) (x21 : Value) (x22 : Value) (x23 : Value) (x24 : Value) (x25 : Value) (x26 : Value) (x27 : Value) (x28 : Value) (x29 : Value) (x30 : Value) (x31 : Value) (x32 : Value) (x33 : Value) (x34 : Value) (x35 : Value) (x37 : Value) (x38 : Value) (x39 : Value) (x40 : Value) (x41 : Value) (x42 : Value) (x43 : Value) (x44 : Value), ac = { tmps := #[Value.agg #[Value.bool m, Value.string s], Value.agg #[Value.bool n, Value.string t], Value.agg #[Value.bool q, Value.string u], Value.pointer (some { block := w.heap.size, off := 0 }), Value.pointer (some { block := w.heap.size + 1, off := 0 }), Value.pointer (some { block := w.heap.size + 1 + 1, off := 0 }), Value.bool false, Value.int IntKind.i64 o, Value.agg #[Value.bool m, Value.string s], Value.agg #[Value.bool n, Value.string t], Value.agg #[Value.bool q, Value.string u], Value.slice (some { block := w.heap.size + 1 + 1 + 1, off := 0 }) 3 3, Value.bool false, undef, Value.agg #[Value.bool m, Value.string s], Value.agg #[Value.bool n, Value.string t], Value.int IntKind.i64 o, x17, x18, x19, x20, x21, x22, x23, x24, x25, x26, x27, x28, x29, x30, x31, x32, x33, x34, x35, Value.bool false, x37, x38, x39, x40, x41, x42, x43, x44, Value.int IntKind.i64 (o * k), Value.int IntKind.i64 o, Value.agg #[Value.bool q, Value.string u], undef, undef, undef, undef, undef, undef, undef, undef, undef, undef, undef, undef, undef, undef, undef, undef, undef, undef, undef, undef, undef, undef, undef, undef, undef, undef, undef, undef, undef, undef, undef], defers := [] } ∧ (fun w' => Below w.heap.size w w' ∧ (w'.cell? ⟨w.heap.size, 0, none⟩ = some (.bool m) ∧ w'.cell? ⟨w.heap.size, 1, none⟩ = some (.string s)) ∧ (w'.cell? ⟨w.heap.size + 1, 0, none⟩ = some (.bool n) ∧ w'.cell? ⟨w.heap.size + 1, 1, none⟩ = some (.string t)) ∧ (w'.cell? ⟨w.heap.size + 1 + 1, 0, none⟩ = some (.bool q) ∧ w'.cell? ⟨w.heap.size + 1 + 1, 1, none⟩ = some (.string u))) Wn) ∨ (fu = 3 ∧ li = #[true, true, true, true, true, true, true, true, true, true, true, true, true, true, true, true, true, true, true, true, true, true, true, true, true, true, true, true, true, true, true, true, false, false, false] ∧ ∃ (x17 : Value) (x18 : Value) (x19 : Value) (x20 : Value) (x21 : Value) (x22 : Value) (x23 : Value) (x24 : Value) (x25 : Value) (x26 : Value) (x27 : Value) (x28 : Value) (x29 : Value) (x30 : Value) (x31 : Value) (x32 : Value) (x33 : Value) (x34 : Value) (x35 : Value) (x37 : Value) (x38 : Value) (x39 : Value) (x40 : Value) (x41 : Value) (x42 : Value) (x43 : Value) (x44 : Value) (x47 : Value), ac = { tmps := #[Value.agg #[Value.bool m, Value.string s], Value.agg #[Value.bool n, Value.string t], Value.agg #[Value.bool q, Value.string u], Value.pointer (some { block := w.heap.size, off := 0 }), Value.pointer (some { block := w.heap.size + 1, off := 0 }), Value.pointer (some { block := w.heap.size + 1 + 1, off := 0 }), Value.bool false, Value.int IntKind.i64 o, Value.agg #[Value.bool m, Value.string s], Value.agg #[Value.bool n, Value.string t], Value.agg #[Value.bool q, Value.string u], Value.slice (some { block := w.heap.size + 1 + 1 + 1, off := 0 }) 3 3, Value.bool false, undef, Value.agg #[Value.bool m, Value.string s], Value.agg #[Value.bool n, Value.string t], Value.int IntKind.i64 o, x17, x18, x19, x20, x21, x22, x23, x24, x25, x26, x27, x28, x29, x30, x31, x32, x33, x34, x35, Value.bool false, x37, x38, x39, x40, x41, x42, x43, x44, Value.int IntKind.i64 (o * k), Value.int IntKind.i64 o, x47, Value.int IntKind.i64 k, undef, undef, undef, undef, undef, undef, undef, undef, undef, undef, undef, undef, undef, undef, undef, undef, undef, undef, undef, undef, undef, undef, undef, undef, undef, undef, undef, undef, undef, undef], defers := [] } ∧ (fun w' => Below w.heap.size w w' ∧ (w'.cell? ⟨w.heap.size, 0, none⟩ = some (.bool m) ∧ w'.cell? ⟨w.heap.size, 1, none⟩ = some (.string s)) ∧ (w'.cell? ⟨w.heap.size + 1, 0, none⟩ = some (.bool n) ∧ w'.cell? ⟨w.heap.size + 1, 1, none⟩ = some (.string t)) ∧ (w'.cell? ⟨w.heap.size + 1 + 1, 0, none⟩ = some (.bool q) ∧ w'.cell? ⟨w.heap.size + 1 + 1, 1, none⟩ = some (.string u))) Wn)) (by kernel_rfl) ?_ ?_
  · exact Or.inl (⟨rfl, rfl, rfl, hin⟩)
  · clear hin
    intro fu li ac Wn hI IH
    rcases hI with ⟨rfl, rfl, rfl, hS⟩ | hI
    · refine dag_take (i := 0) (d := some 17) (v := ?v0n52) rfl rfl (by kernel_rfl) (by kernel_rfl) (by kernel_rfl) (fun _ _ _ h => h) (Or.inl ⟨by rfl, ?y0n52⟩) hS ?_
      case y0n52 => intro w hSw; (try dsimp only at hSw); go_simp; first | done | with_reducible rfl
      try simp only [Act.put, List.setIfInBounds_toArray, List.set_cons_zero, List.set_cons_succ]
      refine dag_take (i := 1) (d := some 18) (v := ?v1n53) rfl rfl (by kernel_rfl) (by kernel_rfl) (by kernel_rfl) (fun _ _ _ h => h) (Or.inl ⟨by rfl, ?y1n53⟩) hS ?_
      case y1n53 => intro w hSw; (try dsimp only at hSw); go_simp; first | done | with_reducible rfl
      try simp only [Act.put, List.setIfInBounds_toArray, List.set_cons_zero, List.set_cons_succ]
      refine dag_take (i := 3) (d := some 20) (v := ?v3n54) rfl rfl (by kernel_rfl) (by kernel_rfl) (by kernel_rfl) (fun _ _ _ h => h) (Or.inl ⟨by rfl, ?y3n54⟩) hS ?_
      case y3n54 => intro w hSw; (try dsimp only at hSw); go_simp; first | done | with_reducible rfl
      try simp only [Act.put, List.setIfInBounds_toArray, List.set_cons_zero, List.set_cons_succ]
      refine dag_take (i := 4) (d := some 21) (v := ?v4n55) rfl rfl (by kernel_rfl) (by kernel_rfl) (by kernel_rfl) (fun _ _ _ h => h) (Or.inl ⟨by rfl, ?y4n55⟩) hS ?_
      case y4n55 => intro w hSw; (try dsimp only at hSw); go_simp; first | done | with_reducible rfl
      try simp only [Act.put, List.setIfInBounds_toArray, List.set_cons_zero, List.set_cons_succ]
      refine wpAnyH_ready (rs := [2]) (by kernel_rfl) (by simp) ?_
      refine AllReadyH.cons rfl (fun Kc hK => ?_) AllReadyH.nil
      go_simp
      go_fit (wcmp_any _ n m t s (by omega) (by omega) (-o) HC.out.2.2.1)
      rintro e V ⟨rfl, hq⟩
      refine hK.out _ _ (hb3 hq hS) (fun hS' => ?_)
      exact IH.out _ _ _ _ (by omega) (Or.inr (Or.inl (⟨rfl, by kernel_rfl, _, _, _, rfl, hS'⟩)))
    rcases hI with ⟨rfl, rfl, x17, x18, x20, rfl, hS⟩ | hI
    · refine dag_take (i := 5) (d := some 22) (v := ?v5n56) rfl rfl (by kernel_rfl) (by kernel_rfl) (by kernel_rfl) (fun _ _ _ h => h) (Or.inl ⟨by rfl, ?y5n56⟩) hS ?_
      case y5n56 => intro w hSw; (try dsimp only at hSw); go_simp; first | done | with_reducible rfl
      try simp only [Act.put, List.setIfInBounds_toArray, List.set_cons_zero, List.set_cons_succ]
      refine dag_take (i := 6) (d := some 23) (v := ?v6n57) rfl rfl (by kernel_rfl) (by kernel_rfl) (by kernel_rfl) (fun _ _ _ h => h) (Or.inl ⟨by rfl, ?y6n57⟩) hS ?_
      case y6n57 => intro w hSw; (try dsimp only at hSw); go_simp; first | done | with_reducible rfl
      try simp only [Act.put, List.setIfInBounds_toArray, List.set_cons_zero, List.set_cons_succ]
      refine dag_take (i := 7) (d := some 24) (v := ?v7n58) rfl rfl (by kernel_rfl) (by kernel_rfl) (by kernel_rfl) (fun _ _ _ h => h) (Or.inl ⟨by rfl, ?y7n58⟩) hS ?_
      case y7n58 => intro w hSw; (try dsimp only at hSw); go_simp; first | done | with_reducible rfl
      try simp only [Act.put, List.setIfInBounds_toArray, List.set_cons_zero, List.set_cons_succ]
      refine dag_take (i := 8) (d := some 25) (v := ?v8n59) rfl rfl (by kernel_rfl) (by kernel_rfl) (by kernel_rfl) (fun _ _ _ h => h) (Or.inl ⟨by rfl, ?y8n59⟩) hS ?_
      case y8n59 => intro w hSw; (try dsimp only at hSw); go_simp; first | done | with_reducible rfl
      try simp only [Act.put, List.setIfInBounds_toArray, List.set_cons_zero, List.set_cons_succ]
      refine dag_take (i := 11) (d := some 28) (v := ?v11n60) rfl rfl (by kernel_rfl) (by kernel_rfl) (by kernel_rfl) (fun _ _ _ h => h) (Or.inl ⟨by rfl, ?y11n60⟩) hS ?_
      case y11n60 => intro w hSw; (try dsimp only at hSw); go_simp; first | done | with_reducible rfl
      try simp only [Act.put, List.setIfInBounds_toArray, List.set_cons_zero, List.set_cons_succ]
      refine dag_take (i := 12) (d := some 29) (v := ?v12n61) rfl rfl (by kernel_rfl) (by kernel_rfl) (by kernel_rfl) (fun _ _ _ h => h) (Or.inl ⟨by rfl, ?y12n61⟩) hS ?_
      case y12n61 => intro w hSw; (try dsimp only at hSw); go_simp; first | done | with_reducible rfl
      try simp only [Act.put, List.setIfInBounds_toArray, List.set_cons_zero, List.set_cons_succ]
      refine dag_take (i := 16) (d := some 33) (v := ?v16n62) rfl rfl (by kernel_rfl) (by kernel_rfl) (by kernel_rfl) (fun _ _ _ h => h) (Or.inl ⟨by rfl, ?y16n62⟩) hS ?_
      case y16n62 => intro w hSw; (try dsimp only at hSw); go_simp; first | done | with_reducible rfl
      try simp only [Act.put, List.setIfInBounds_toArray, List.set_cons_zero, List.set_cons_succ]
      refine wpAnyH_ready (rs := [9, 13]) (by kernel_rfl) (by simp) ?_
      refine AllReadyH.cons rfl (fun Kc hK => ?_) ?_
      · go_simp
        refine hK.out _ _ (ab3 hS) (fun hS' => ?_)
        exact IH.out _ _ _ _ (by omega) (Or.inr (Or.inr (Or.inl (⟨rfl, by kernel_rfl, _, _, _, _, _, _, _, _, _, rfl, hS', iat_new rfl rfl⟩))))
      refine AllReadyH.cons rfl (fun Kc hK => ?_) AllReadyH.nil
      go_simp
      refine hK.out _ _ (ab3 hS) (fun hS' => ?_)
      exact IH.out _ _ _ _ (by omega) (Or.inr (Or.inr (Or.inr (Or.inl (⟨rfl, by kernel_rfl, _, _, _, _, _, _, _, _, _, rfl, hS', iat_new rfl rfl⟩)))))
    rcases hI with ⟨rfl, rfl, x17, x18, x19, x20, x21, x22, x24, x25, g26, rfl, hS, hG26⟩ | hI
    · refine wpAnyH_ready (rs := [10, 13]) (by kernel_rfl) (by simp) ?_
      refine AllReadyH.cons rfl (fun Kc hK => ?_) ?_
      · go_simp
        go_fit (vadd2 _ _ m q s u (by omega) (by omega) hG26 zx ox HE.out.1)
        rintro e V ⟨rfl, hq⟩
        refine hK.out _ _ (hb3 hq hS) (fun hS' => ?_)
        exact IH.out _ _ _ _ (by omega) (Or.inr (Or.inr (Or.inr (Or.inr (Or.inl (⟨rfl, by kernel_rfl, _, _, _, _, _, _, _, _, _, rfl, hS'⟩))))))
      refine AllReadyH.cons rfl (fun Kc hK => ?_) AllReadyH.nil
      go_simp
      refine hK.out _ _ (ab3 hS) (fun hS' => ?_)
      exact IH.out _ _ _ _ (by omega) (Or.inr (Or.inr (Or.inr (Or.inr (Or.inr (Or.inl (⟨rfl, by kernel_rfl, _, _, _, _, _, _, _, _, _, _, _, _, rfl, hS', IAt.alloc _ hG26, iat_new rfl rfl⟩)))))))
    rcases hI with ⟨rfl, rfl, x17, x18, x19, x20, x21, x22, x28, x29, g30, rfl, hS, hG30⟩ | hI
    · refine wpAnyH_ready (rs := [9]) (by kernel_rfl) (by simp) ?_
      refine AllReadyH.cons rfl (fun Kc hK => ?_) AllReadyH.nil
      go_simp
      refine hK.out _ _ (ab3 hS) (fun hS' => ?_)
      exact IH.out _ _ _ _ (by omega) (Or.inr (Or.inr (Or.inr (Or.inr (Or.inr (Or.inl (⟨rfl, by kernel_rfl, _, _, _, _, _, _, _, _, _, _, _, _, rfl, hS', iat_new rfl rfl, IAt.alloc _ hG30⟩)))))))
    rcases hI with ⟨rfl, rfl, x17, x18, x19, x20, x21, x22, x24, x25, x26, rfl, hS⟩ | hI
    · refine wpAnyH_ready (rs := [13]) (by kernel_rfl) (by simp) ?_
      refine AllReadyH.cons rfl (fun Kc hK => ?_) AllReadyH.nil
      go_simp
      refine hK.out _ _ (ab3 hS) (fun hS' => ?_)
      exact IH.out _ _ _ _ (by omega) (Or.inr (Or.inr (Or.inr (Or.inr (Or.inr (Or.inr (Or.inl (⟨rfl, by kernel_rfl, _, _, _, _, _, _, _, _, _, _, _, _, rfl, hS', iat_new rfl rfl⟩))))))))
    rcases hI with ⟨rfl, rfl, x17, x18, x19, x20, x21, x22, x24, x25, x28, x29, g26, g30, rfl, hS, hG26, hG30⟩ | hI
    · refine wpAnyH_ready (rs := [10]) (by kernel_rfl) (by simp) ?_
      refine AllReadyH.cons rfl (fun Kc hK => ?_) AllReadyH.nil
      go_simp
      go_fit (vadd2 _ _ m q s u (by omega) (by omega) hG26 zx ox HE.out.1)
      rintro e V ⟨rfl, hq⟩
      refine hK.out _ _ (hb3 hq hS) (fun hS' => ?_)
      exact IH.out _ _ _ _ (by omega) (Or.inr (Or.inr (Or.inr (Or.inr (Or.inr (Or.inr (Or.inl (⟨rfl, by kernel_rfl, _, _, _, _, _, _, _, _, _, _, _, _, rfl, hS', hG30.below hq⟩))))))))
    rcases hI with ⟨rfl, rfl, x17, x18, x19, x20, x21, x22, x24, x25, x26, x28, x29, g30, rfl, hS, hG30⟩ | hI
    · refine wpAnyH_ready (rs := [14]) (by kernel_rfl) (by simp) ?_
      refine AllReadyH.cons rfl (fun Kc hK => ?_) AllReadyH.nil
      go_simp
      go_fit (vadd2 _ _ n q t u (by omega) (by omega) hG30 zy oy HE.out.2.1)
      rintro e V ⟨rfl, hq⟩
      refine hK.out _ _ (hb3 hq hS) (fun hS' => ?_)
      exact IH.out _ _ _ _ (by omega) (Or.inr (Or.inr (Or.inr (Or.inr (Or.inr (Or.inr (Or.inr (Or.inl (⟨rfl, by kernel_rfl, _, _, _, _, _, _, _, _, _, _, _, _, rfl, hS'⟩)))))))))
    rcases hI with ⟨rfl, rfl, x17, x18, x19, x20, x21, x22, x24, x25, x26, x28, x29, x30, rfl, hS⟩ | hI
    · refine wpAnyH_ready (rs := [15]) (by kernel_rfl) (by simp) ?_
      refine AllReadyH.cons rfl (fun Kc hK => ?_) AllReadyH.nil
      go_simp
      go_fit (wcmp_any _ zx zy ox oy (by omega) (by omega) o HC.out.2.2.2.1)
      rintro e V ⟨rfl, hq⟩
      refine hK.out _ _ (hb3 hq hS) (fun hS' => ?_)
      exact IH.out _ _ _ _ (by omega) (Or.inr (Or.inr (Or.inr (Or.inr (Or.inr (Or.inr (Or.inr (Or.inr (Or.inl (⟨rfl, by kernel_rfl, _, _, _, _, _, _, _, _, _, _, _, _, _, _, rfl, hS'⟩))))))))))
    rcases hI with ⟨rfl, rfl, x17, x18, x19, x20, x21, x22, x24, x25, x26, x27, x28, x29, x30, x31, rfl, hS⟩ | hI
    · refine dag_take (i := 17) (d := some 34) (v := ?v17n63) rfl rfl (by kernel_rfl) (by kernel_rfl) (by kernel_rfl) (fun _ _ _ h => h) (Or.inl ⟨by rfl, ?y17n63⟩) hS ?_
      case y17n63 => intro w hSw; (try dsimp only at hSw); go_simp; first | done | with_reducible rfl
      try simp only [Act.put, List.setIfInBounds_toArray, List.set_cons_zero, List.set_cons_succ]
      refine dag_take (i := 18) (d := some 35) (v := ?v18n64) rfl rfl (by kernel_rfl) (by kernel_rfl) (by kernel_rfl) (fun _ _ _ h => h) (Or.inl ⟨by rfl, ?y18n64⟩) hS ?_
      case y18n64 => intro w hSw; (try dsimp only at hSw); go_simp; first | done | with_reducible rfl
      try simp only [Act.put, List.setIfInBounds_toArray, List.set_cons_zero, List.set_cons_succ]
      refine dag_take (i := 19) (d := some 36) (v := ?v19n65) rfl rfl (by kernel_rfl) (by kernel_rfl) (by kernel_rfl) (fun _ _ _ h => h) (Or.inl ⟨by rfl, ?y19n65⟩) hS ?_
      case y19n65 => intro w hSw; (try dsimp only at hSw); go_simp; first | done | with_reducible rfl
      try simp only [Act.put, List.setIfInBounds_toArray, List.set_cons_zero, List.set_cons_succ]
      refine dag_take (i := 20) (d := some 37) (v := ?v20n66) rfl rfl (by kernel_rfl) (by kernel_rfl) (by kernel_rfl) (fun _ _ _ h => h) (Or.inl ⟨by rfl, ?y20n66⟩) hS ?_
      case y20n66 => intro w hSw; (try dsimp only at hSw); go_simp; first | done | with_reducible rfl
      try simp only [Act.put, List.setIfInBounds_toArray, List.set_cons_zero, List.set_cons_succ]
      refine dag_take (i := 21) (d := some 38) (v := ?v21n67) rfl rfl (by kernel_rfl) (by kernel_rfl) (by kernel_rfl) (fun _ _ _ h => h) (Or.inl ⟨by rfl, ?y21n67⟩) hS ?_
      case y21n67 => intro w hSw; (try dsimp only at hSw); go_simp; first | done | with_reducible rfl
      try simp only [Act.put, List.setIfInBounds_toArray, List.set_cons_zero, List.set_cons_succ]
      refine dag_take (i := 24) (d := some 41) (v := ?v24n68) rfl rfl (by kernel_rfl) (by kernel_rfl) (by kernel_rfl) (fun _ _ _ h => h) (Or.inl ⟨by rfl, ?y24n68⟩) hS ?_
      case y24n68 => intro w hSw; (try dsimp only at hSw); go_simp; first | done | with_reducible rfl
      try simp only [Act.put, List.setIfInBounds_toArray, List.set_cons_zero, List.set_cons_succ]
      refine dag_take (i := 25) (d := some 42) (v := ?v25n69) rfl rfl (by kernel_rfl) (by kernel_rfl) (by kernel_rfl) (fun _ _ _ h => h) (Or.inl ⟨by rfl, ?y25n69⟩) hS ?_
      case y25n69 => intro w hSw; (try dsimp only at hSw); go_simp; first | done | with_reducible rfl
      try simp only [Act.put, List.setIfInBounds_toArray, List.set_cons_zero, List.set_cons_succ]
      refine dag_take (i := 29) (d := some 46) (v := ?v29n70) rfl rfl (by kernel_rfl) (by kernel_rfl) (by kernel_rfl) (fun _ _ _ h => h) (Or.inl ⟨by rfl, ?y29n70⟩) hS ?_
      case y29n70 => intro w hSw; (try dsimp only at hSw); go_simp; first | done | with_reducible rfl
      try simp only [Act.put, List.setIfInBounds_toArray, List.set_cons_zero, List.set_cons_succ]
      refine dag_take (i := 30) (d := some 47) (v := ?v30n71) rfl rfl (by kernel_rfl) (by kernel_rfl) (by kernel_rfl) (fun _ _ _ h => h) (Or.inl ⟨by rfl, ?y30n71⟩) hS ?_
      case y30n71 => intro w hSw; (try dsimp only at hSw); go_simp; first | done | with_reducible rfl
      try simp only [Act.put, List.setIfInBounds_toArray, List.set_cons_zero, List.set_cons_succ]
      refine wpAnyH_ready (rs := [22, 26]) (by kernel_rfl) (by simp) ?_
      refine AllReadyH.cons rfl (fun Kc hK => ?_) ?_
      · go_simp
        refine hK.out _ _ (ab3 hS) (fun hS' => ?_)
        exact IH.out _ _ _ _ (by omega) (Or.inr (Or.inr (Or.inr (Or.inr (Or.inr (Or.inr (Or.inr (Or.inr (Or.inr (Or.inl (⟨rfl, by kernel_rfl, _, _, _, _, _, _, _, _, _, _, _, _, _, _, _, _, _, _, _, _, _, _, rfl, hS', iat_new rfl rfl⟩)))))))))))
      refine AllReadyH.cons rfl (fun Kc hK => ?_) AllReadyH.nil
      go_simp
      refine hK.out _ _ (ab3 hS) (fun hS' => ?_)
      exact IH.out _ _ _ _ (by omega) (Or.inr (Or.inr (Or.inr (Or.inr (Or.inr (Or.inr (Or.inr (Or.inr (Or.inr (Or.inr (Or.inl (⟨rfl, by kernel_rfl, _, _, _, _, _, _, _, _, _, _, _, _, _, _, _, _, _, _, _, _, _, _, rfl, hS', iat_new rfl rfl⟩))))))))))))
    rcases hI with ⟨rfl, rfl, x17, x18, x19, x20, x21, x22, x23, x24, x25, x26, x27, x28, x29, x30, x31, x32, x33, x34, x35, x37, x38, g39, rfl, hS, hG39⟩ | hI
    · refine wpAnyH_ready (rs := [23, 26]) (by kernel_rfl) (by simp) ?_
      refine AllReadyH.cons rfl (fun Kc hK => ?_) ?_
      · go_simp
        go_fit (vmul2 _ _ m q s u (by omega) (by omega) hG39 zu ou HE.out.2.2.1)
        rintro e V ⟨rfl, hq⟩
        refine hK.out _ _ (hb3 hq hS) (fun hS' => ?_)
        exact IH.out _ _ _ _ (by omega) (Or.inr (Or.inr (Or.inr (Or.inr (Or.inr (Or.inr (Or.inr (Or.inr (Or.inr (Or.inr (Or.inr (Or.inl (⟨rfl, by kernel_rfl, _, _, _, _, _, _, _, _, _, _, _, _, _, _, _, _, _, _, _, _, _, _, rfl, hS'⟩)))))))))))))
      refine AllReadyH.cons rfl (fun Kc hK => ?_) AllReadyH.nil
      go_simp
      refine hK.out _ _ (ab3 hS) (fun hS' => ?_)
      exact IH.out _ _ _ _ (by omega) (Or.inr (Or.inr (Or.inr (Or.inr (Or.inr (Or.inr (Or.inr (Or.inr (Or.inr (Or.inr (Or.inr (Or.inr (Or.inl (⟨rfl, by kernel_rfl, _, _, _, _, _, _, _, _, _, _, _, _, _, _, _, _, _, _, _, _, _, _, _, _, _, rfl, hS', IAt.alloc _ hG39, iat_new rfl rfl⟩))))))))))))))
    rcases hI with ⟨rfl, rfl, x17, x18, x19, x20, x21, x22, x23, x24, x25, x26, x27, x28, x29, x30, x31, x32, x33, x34, x35, x41, x42, g43, rfl, hS, hG43⟩ | hI
    · refine wpAnyH_ready (rs := [22]) (by kernel_rfl) (by simp) ?_
      refine AllReadyH.cons rfl (fun Kc hK => ?_) AllReadyH.nil
      go_simp
      refine hK.out _ _ (ab3 hS) (fun hS' => ?_)
      exact IH.out _ _ _ _ (by omega) (Or.inr (Or.inr (Or.inr (Or.inr (Or.inr (Or.inr (Or.inr (Or.inr (Or.inr (Or.inr (Or.inr (Or.inr (Or.inl (⟨rfl, by kernel_rfl, _, _, _, _, _, _, _, _, _, _, _, _, _, _, _, _, _, _, _, _, _, _, _, _, _, rfl, hS', iat_new rfl rfl, IAt.alloc _ hG43⟩))))))))))))))
    rcases hI with ⟨rfl, rfl, x17, x18, x19, x20, x21, x22, x23, x24, x25, x26, x27, x28, x29, x30, x31, x32, x33, x34, x35, x37, x38, x39, rfl, hS⟩ | hI
    · refine wpAnyH_ready (rs := [26]) (by kernel_rfl) (by simp) ?_
      refine AllReadyH.cons rfl (fun Kc hK => ?_) AllReadyH.nil
      go_simp
      refine hK.out _ _ (ab3 hS) (fun hS' => ?_)
      exact IH.out _ _ _ _ (by omega) (Or.inr (Or.inr (Or.inr (Or.inr (Or.inr (Or.inr (Or.inr (Or.inr (Or.inr (Or.inr (Or.inr (Or.inr (Or.inr (Or.inl (⟨rfl, by kernel_rfl, _, _, _, _, _, _, _, _, _, _, _, _, _, _, _, _, _, _, _, _, _, _, _, _, _, rfl, hS', iat_new rfl rfl⟩)))))))))))))))
    rcases hI with ⟨rfl, rfl, x17, x18, x19, x20, x21, x22, x23, x24, x25, x26, x27, x28, x29, x30, x31, x32, x33, x34, x35, x37, x38, x41, x42, g39, g43, rfl, hS, hG39, hG43⟩ | hI
    · refine wpAnyH_ready (rs := [23]) (by kernel_rfl) (by simp) ?_
      refine AllReadyH.cons rfl (fun Kc hK => ?_) AllReadyH.nil
      go_simp
      go_fit (vmul2 _ _ m q s u (by omega) (by omega) hG39 zu ou HE.out.2.2.1)
      rintro e V ⟨rfl, hq⟩
      refine hK.out _ _ (hb3 hq hS) (fun hS' => ?_)
      exact IH.out _ _ _ _ (by omega) (Or.inr (Or.inr (Or.inr (Or.inr (Or.inr (Or.inr (Or.inr (Or.inr (Or.inr (Or.inr (Or.inr (Or.inr (Or.inr (Or.inl (⟨rfl, by kernel_rfl, _, _, _, _, _, _, _, _, _, _, _, _, _, _, _, _, _, _, _, _, _, _, _, _, _, rfl, hS', hG43.below hq⟩)))))))))))))))
    rcases hI with ⟨rfl, rfl, x17, x18, x19, x20, x21, x22, x23, x24, x25, x26, x27, x28, x29, x30, x31, x32, x33, x34, x35, x37, x38, x39, x41, x42, g43, rfl, hS, hG43⟩ | hI
    · refine wpAnyH_ready (rs := [27]) (by kernel_rfl) (by simp) ?_
      refine AllReadyH.cons rfl (fun Kc hK => ?_) AllReadyH.nil
      go_simp
      go_fit (vmul2 _ _ n q t u (by omega) (by omega) hG43 zv ov HE.out.2.2.2)
      rintro e V ⟨rfl, hq⟩
      refine hK.out _ _ (hb3 hq hS) (fun hS' => ?_)
      exact IH.out _ _ _ _ (by omega) (Or.inr (Or.inr (Or.inr (Or.inr (Or.inr (Or.inr (Or.inr (Or.inr (Or.inr (Or.inr (Or.inr (Or.inr (Or.inr (Or.inr (Or.inl (⟨rfl, by kernel_rfl, _, _, _, _, _, _, _, _, _, _, _, _, _, _, _, _, _, _, _, _, _, _, _, _, _, rfl, hS'⟩))))))))))))))))
    rcases hI with ⟨rfl, rfl, x17, x18, x19, x20, x21, x22, x23, x24, x25, x26, x27, x28, x29, x30, x31, x32, x33, x34, x35, x37, x38, x39, x41, x42, x43, rfl, hS⟩ | hI
    · refine wpAnyH_ready (rs := [28]) (by kernel_rfl) (by simp) ?_
      refine AllReadyH.cons rfl (fun Kc hK => ?_) AllReadyH.nil
      go_simp
      go_fit (wcmp_any _ zu zv ou ov (by omega) (by omega) (o * k) HC.out.2.2.2.2)
      rintro e V ⟨rfl, hq⟩
      refine hK.out _ _ (hb3 hq hS) (fun hS' => ?_)
      exact IH.out _ _ _ _ (by omega) (Or.inr (Or.inr (Or.inr (Or.inr (Or.inr (Or.inr (Or.inr (Or.inr (Or.inr (Or.inr (Or.inr (Or.inr (Or.inr (Or.inr (Or.inr (Or.inl (⟨rfl, by kernel_rfl, _, _, _, _, _, _, _, _, _, _, _, _, _, _, _, _, _, _, _, _, _, _, _, _, _, _, _, rfl, hS'⟩)))))))))))))))))
    rcases hI with ⟨rfl, rfl, x17, x18, x19, x20, x21, x22, x23, x24, x25, x26, x27, x28, x29, x30, x31, x32, x33, x34, x35, x37, x38, x39, x40, x41, x42, x43, x44, rfl, hS⟩ | hI
    · refine wpAnyH_ready (rs := [31]) (by kernel_rfl) (by simp) ?_
      refine AllReadyH.cons rfl (fun Kc hK => ?_) AllReadyH.nil
      go_simp
      go_fit (wsign_any _ q u (by omega) k HC.out.2.1)
      rintro e V ⟨rfl, hq⟩
      refine hK.out _ _ (hb3 hq hS) (fun hS' => ?_)
      exact IH.out _ _ _ _ (by omega) (Or.inr (Or.inr (Or.inr (Or.inr (Or.inr (Or.inr (Or.inr (Or.inr (Or.inr (Or.inr (Or.inr (Or.inr (Or.inr (Or.inr (Or.inr (Or.inr (⟨rfl, by kernel_rfl, _, _, _, _, _, _, _, _, _, _, _, _, _, _, _, _, _, _, _, _, _, _, _, _, _, _, _, _, rfl, hS'⟩)))))))))))))))))
    obtain ⟨rfl, rfl, x17, x18, x19, x20, x21, x22, x23, x24, x25, x26, x27, x28, x29, x30, x31, x32, x33, x34, x35, x37, x38, x39, x40, x41, x42, x43, x44, x47, rfl, hS⟩ := hI
    refine dag_take (i := 32) (d := some 49) (v := ?v32n72) rfl rfl (by kernel_rfl) (by kernel_rfl) (by kernel_rfl) (fun _ _ _ h => h) (Or.inl ⟨by rfl, ?y32n72⟩) hS ?_
    case y32n72 => intro w hSw; (try dsimp only at hSw); go_simp; first | done | with_reducible rfl
    try simp only [Act.put, List.setIfInBounds_toArray, List.set_cons_zero, List.set_cons_succ]
    refine dag_take (i := 33) (d := some 50) (v := ?v33n73) rfl rfl (by kernel_rfl) (by kernel_rfl) (by kernel_rfl) (fun _ _ _ h => h) (Or.inl ⟨by rfl, ?y33n73⟩) hS ?_
    case y33n73 => intro w hSw; (try dsimp only at hSw); go_simp; first | done | with_reducible rfl
    try simp only [Act.put, List.setIfInBounds_toArray, List.set_cons_zero, List.set_cons_succ]
    refine dag_take (i := 34) (d := some 51) (v := ?v34n74) rfl rfl (by kernel_rfl) (by kernel_rfl) (by kernel_rfl) (fun _ _ _ h => h) (Or.inl ⟨by rfl, ?y34n74⟩) hS ?_
    case y34n74 => intro w hSw; (try dsimp only at hSw); go_simp; first | done | with_reducible rfl
    try simp only [Act.put, List.setIfInBounds_toArray, List.set_cons_zero, List.set_cons_succ]
    refine wpAnyH_done (by kernel_rfl) ?_ _
    clear IH
    obtain ⟨za, oa, ea, va, sa⟩ := form_nmw m s (k := 200) hs1
    obtain ⟨zb, ob, eb, vb, sb⟩ := form_nmw n t (k := 200) hs2
    obtain ⟨x, hx⟩ : ∃ x, sg (wv n t - wv q u) = x := ⟨_, rfl⟩
    obtain ⟨y, hy⟩ : ∃ y, sg (wv m s - wv q u) = y := ⟨_, rfl⟩
    have HX := Lib.hid (And.intro hx (And.intro hy (And.intro ea eb)))
    go_wp2_with fail
    generalize o * k = pk at HC ⊢
    have hin : (fun w' => Below w.heap.size w w' ∧ (w'.cell? ⟨w.heap.size, 0, none⟩ = some (.bool m) ∧ w'.cell? ⟨w.heap.size, 1, none⟩ = some (.string s)) ∧ (w'.cell? ⟨w.heap.size + 1, 0, none⟩ = some (.bool n) ∧ w'.cell? ⟨w.heap.size + 1, 1, none⟩ = some (.string t)) ∧ (w'.cell? ⟨w.heap.size + 1 + 1, 0, none⟩ = some (.bool q) ∧ w'.cell? ⟨w.heap.size + 1 + 1, 1, none⟩ = some (.string u))) Wn.drew := ⟨hS.1.drew, hS.2⟩
    clear hS HE hw1 hw2
    · have hb2 : sg (wv m s - wv n t) = 1 := by rcases sg_cases (wv m s - wv n t) with ⟨h1, h2⟩ | ⟨h1, h2⟩ | ⟨h1, h2⟩ <;> first | exact h2 | omega
      have ho : o = 1 := HC.out.1.symm.trans hb2
      have HO := ho
      clear hb2
      subst ho
      clear HC
      have hne : ¬ (za = zb ∧ oa = ob) := fun ⟨h1, h2⟩ => by rw [h1, h2, vb] at va; omega
      have hcs : (za = zb ∧ ¬ oa = ob) ∨ (za = true ∧ zb = false) ∨ (za = false ∧ zb = true) := by
        cases za <;> cases zb <;> simp_all
      clear hne va vb ea eb ho2
      clear hx hy ha
      rcases hcs with ⟨h1, h2⟩ | ⟨h1, h2⟩ | ⟨h1, h2⟩
      · subst h1
        have hno2 := two_lists h2
        refine region_dag (fun w' => Below w.heap.size w w' ∧ (w'.cell? ⟨w.heap.size, 0, none⟩ = some (.bool m) ∧ w'.cell? ⟨w.heap.size, 1, none⟩ = some (.string s)) ∧ (w'.cell? ⟨w.heap.size + 1, 0, none⟩ = some (.bool n) ∧ w'.cell? ⟨w.heap.size + 1, 1, none⟩ = some (.string t)) ∧ (w'.cell? ⟨w.heap.size + 1 + 1, 0, none⟩ = some (.bool q) ∧ w'.cell? ⟨w.heap.size + 1 + 1, 1, none⟩ = some (.string u))) (fun fu li ac Wn => (fu = 28 ∧ li = #[false, false, false, false, false, false, false, false, false, false, false, false, false, false, false, false, false, false, false, false, false, false, false, false, false, false, false, false] ∧ ac = { tmps := #[Value.agg #[Value.bool m, Value.string s], Value.agg #[Value.bool n, Value.string t], Value.agg #[Value.bool q, Value.string u], Value.pointer (some { block := w.heap.size, off := 0 }), Value.pointer (some { block := w.heap.size + 1, off := 0 }), Value.pointer (some { block := w.heap.size + 1 + 1, off := 0 }), Value.bool false, Value.int IntKind.i64 1, Value.agg #[Value.bool m, Value.string s], Value.agg #[Value.bool n, Value.string t], Value.agg #[Value.bool q, Value.string u], Value.slice (some { block := w.heap.size + 1 + 1 + 1, off := 0 }) 3 3, Value.bool false, undef, Value.agg #[Value.bool m, Value.string s], Value.agg #[Value.bool n, Value.string t], Value.int IntKind.i64 1, x17, x18, x19, x20, x21, x22, x23, x24, x25, x26, x27, x28, x29, x30, x31, x32, x33, x34, x35, Value.bool false, x37, x38, x39, x40, x41, x42, x43, x44, Value.int IntKind.i64 pk, Value.int IntKind.i64 1, x47, Value.int IntKind.i64 k, Value.int IntKind.i64 pk, Value.bool false, Value.bool false, undef, undef, undef, undef, undef, undef, undef, undef, undef, undef, undef, undef, undef, undef, undef, undef, undef, undef, undef, undef, undef, undef, undef, undef, undef, undef, undef], defers := [] } ∧ (fun w' => Below w.heap.size w w' ∧ (w'.cell? ⟨w.heap.size, 0, none⟩ = some (.bool m) ∧ w'.cell? ⟨w.heap.size, 1, none⟩ = some (.string s)) ∧ (w'.cell? ⟨w.heap.size + 1, 0, none⟩ = some (.bool n) ∧ w'.cell? ⟨w.heap.size + 1, 1, none⟩ = some (.string t)) ∧ (w'.cell? ⟨w.heap.size + 1 + 1, 0, none⟩ = some (.bool q) ∧ w'.cell? ⟨w.heap.size + 1 + 1, 1, none⟩ = some (.string u))) Wn) ∨ (fu = 8 ∧ li = #[true, true, true, true, true, true, true, true, true, true, true, true, true, true, true, true, true, true, true, true, false, false, false, false, false, false, false, false] ∧ ∃ (x52 : Value) (x53 : Value) (x54 : Value) (x55 : Value) (x56 : Value) (x57 : Value) (x58 : Value) (x59 : Value) (x60 : Value) (x61 : Value) (x62 : Value) (x63 : Value) (x64 : Value) (x65 : Value) (x67 : Value) (x69 : Value), ac = { tmps := #[Value.agg #[Value.bool m, Value.string s], Value.agg #[Value.bool n, Value.string t], Value.agg #[Value.bool q, Value.string u], Value.pointer (some { block := w.heap.size, off := 0 }), Value.pointer (some { block := w.heap.size + 1, off := 0 }), Value.pointer (some { block := w.heap.size + 1 + 1, off := 0 }), Value.bool false, Value.int IntKind.i64 1, Value.agg #[Value.bool m, Value.string s], Value.agg #[Value.bool n, Value.string t], Value.agg #[Value.bool q, Value.string u], Value.slice (some { block := w.heap.size + 1 + 1 + 1, off := 0 }) 3 3, Value.bool false, undef, Value.agg #[Value.bool m, Value.string s], Value.agg #[Value.bool n, Value.string t], Value.int IntKind.i64 1, x17, x18, x19, x20, x21, x22, x23, x24, x25, x26, x27, x28, x29, x30, x31, x32, x33, x34, x35, Value.bool false, x37, x38, x39, x40, x41, x42, x43, x44, Value.int IntKind.i64 pk, Value.int IntKind.i64 1, x47, Value.int IntKind.i64 k, Value.int IntKind.i64 pk, Value.bool false, Value.bool false, x52, x53, x54, x55, x56, x57, x58, x59, x60, x61, x62, x63, x64, x65, Value.bool true, x67, Value.bool false, x69, Value.agg #[Value.bool za, Value.string oa], Value.agg #[Value.bool n, Value.string t], undef, undef, undef, undef, undef, undef, undef], defers := [] } ∧ (fun w' => Below w.heap.size w w' ∧ (w'.cell? ⟨w.heap.size, 0, none⟩ = some (.bool m) ∧ w'.cell? ⟨w.heap.size, 1, none⟩ = some (.string s)) ∧ (w'.cell? ⟨w.heap.size + 1, 0, none⟩ = some (.bool n) ∧ w'.cell? ⟨w.heap.size + 1, 1, none⟩ = some (.string t)) ∧ (w'.cell? ⟨w.heap.size + 1 + 1, 0, none⟩ = some (.bool q) ∧ w'.cell? ⟨w.heap.size + 1 + 1, 1, none⟩ = some (.string u))) Wn) ∨ (fu = 7 ∧ li = #[true, true, true, true, true, true, true, true, true, true, true, true, true, true, true, true, true, true, true, true, true, false, false, false, false, false, false, false] ∧ ∃ (x52 : Value) (x53 : Value) (x54 : Value) (x55 : Value) (x56 : Value) (x57 : Value) (x58 : Value) (x59 : Value) (x60 : Value) (x61 : Value) (x62 : Value) (x63 : Value) (x64 : Value) (x65 : Value) (x67 : Value) (x69 : Value) (x71 : Value), ac = { tmps := #[Value.agg #[Value.bool m, Value.string s], Value.agg #[Value.bool n, Value.string t], Value.agg #[Value.bool q, Value.string u], Value.pointer (some { block := w.heap.size, off := 0 }), Value.pointer (some { block := w.heap.size + 1, off := 0 }), Value.pointer (some { block := w.heap.size + 1 + 1, off := 0 }), Value.bool false, Value.int IntKind.i64 1, Value.agg #[Value.bool m, Value.string s], Value.agg #[Value.bool n, Value.string t], Value.agg #[Value.bool q, Value.string u], Value.slice (some { block := w.heap.size + 1 + 1 + 1, off := 0 }) 3 3, Value.bool false, undef, Value.agg #[Value.bool m, Value.string s], Value.agg #[Value.bool n, Value.string t], Value.int IntKind.i64 1, x17, x18, x19, x20, x21, x22, x23, x24, x25, x26, x27, x28, x29, x30, x31, x32, x33, x34, x35, Value.bool false, x37, x38, x39, x40, x41, x42, x43, x44, Value.int IntKind.i64 pk, Value.int IntKind.i64 1, x47, Value.int IntKind.i64 k, Value.int IntKind.i64 pk, Value.bool false, Value.bool false, x52, x53, x54, x55, x56, x57, x58, x59, x60, x61, x62, x63, x64, x65, Value.bool true, x67, Value.bool false, x69, Value.agg #[Value.bool za, Value.string oa], x71, Value.agg #[Value.bool za, Value.string ob], undef, undef, undef, undef, undef, undef], defers := [] } ∧ (fun w' => Below w.heap.size w w' ∧ (w'.cell? ⟨w.heap.size, 0, none⟩ = some (.bool m) ∧ w'.cell? ⟨w.heap.size, 1, none⟩ = some (.string s)) ∧ (w'.cell? ⟨w.heap.size + 1, 0, none⟩ = some (.bool n) ∧ w'.cell? ⟨w.heap.size + 1, 1, none⟩ = some (.string t)) ∧ (w'.cell? ⟨w.heap.size + 1 + 1, 0, none⟩ = some (.bool q) ∧ w'.cell? ⟨w.heap.size + 1 + 1, 1, none⟩ = some (.string u))) Wn) ∨ (fu = 2 ∧ li = #[true, true, true, true, true, true, true, true, true, true, true, true, true, true, true, true, true, true, true, true, true, true, true, true, true, true, false, false] ∧ ∃ (x52 : Value) (x53 : Value) (x54 : Value) (x55 : Value) (x56 : Value) (x57 : Value) (x58 : Value) (x59 : Value) (x60 : Value) (x61 : Value) (x62 : Value) (x63 : Value) (x64 : Value) (x65 : Value) (x66 : Value) (x67 : Value) (x68 : Value) (x69 : Value) (x70 : Value) (x71 : Value) (x72 : Value) (x73 : Value) (x74 : Value) (x75 : Value), ac = { tmps := #[Value.agg #[Value.bool m, Value.string s], Value.agg #[Value.bool n, Value.string t], Value.agg #[Value.bool q, Value.string u], Value.pointer (some { block := w.heap.size, off := 0 }), Value.pointer (some { block := w.heap.size + 1, off := 0 }), Value.pointer (some { block := w.heap.size + 1 + 1, off := 0 }), Value.bool false, Value.int IntKind.i64 1, Value.agg #[Value.bool m, Value.string s], Value.agg #[Value.bool n, Value.string t], Value.agg #[Value.bool q, Value.string u], Value.slice (some { block := w.heap.size + 1 + 1 + 1, off := 0 }) 3 3, Value.bool false, undef, Value.agg #[Value.bool m, Value.string s], Value.agg #[Value.bool n, Value.string t], Value.int IntKind.i64 1, x17, x18, x19, x20, x21, x22, x23, x24, x25, x26, x27, x28, x29, x30, x31, x32, x33, x34, x35, Value.bool false, x37, x38, x39, x40, x41, x42, x43, x44, Value.int IntKind.i64 pk, Value.int IntKind.i64 1, x47, Value.int IntKind.i64 k, Value.int IntKind.i64 pk, Value.bool false, Value.bool false, x52, x53, x54, x55, x56, x57, x58, x59, x60, x61, x62, x63, x64, x65, x66, x67, x68, x69, x70, x71, x72, x73, x74, x75, Value.bool true, Value.bool true, undef], defers := [] } ∧ (fun w' => Below w.heap.size w w' ∧ (w'.cell? ⟨w.heap.size, 0, none⟩ = some (.bool m) ∧ w'.cell? ⟨w.heap.size, 1, none⟩ = some (.string s)) ∧ (w'.cell? ⟨w.heap.size + 1, 0, none⟩ = some (.bool n) ∧ w'.cell? ⟨w.heap.size + 1, 1, none⟩ = some (.string t)) ∧ (w'.cell? ⟨w.heap.size + 1 + 1, 0, none⟩ = some (.bool q) ∧ w'.cell? ⟨w.heap.size + 1 + 1, 1, none⟩ = some (.string u))) Wn)) (by kernel_rfl) ?_ ?_
        · exact Or.inl (⟨rfl, rfl, rfl, hin⟩)
        · clear hin
          intro fu li ac Wn hI IH
          rcases hI with ⟨rfl, rfl, rfl, hS⟩ | hI
          · refine dag_take (i := 0) (d := some 52) (v := ?v0n1) rfl rfl (by kernel_rfl) (by kernel_rfl) (by kernel_rfl) (fun _ _ _ h => h) (Or.inl ⟨by rfl, ?y0n1⟩) hS ?_
            case y0n1 => intro w hSw; (try dsimp only at hSw); go_simp; first | done | with_reducible rfl
            try simp only [Act.put, List.setIfInBounds_toArray, List.set_cons_zero, List.set_cons_succ]
            refine dag_take (i := 1) (d := some 53) (v := ?v1n2) rfl rfl (by kernel_rfl) (by kernel_rfl) (by kernel_rfl) (fun _ _ _ h => h) (Or.inl ⟨by rfl, ?y1n2⟩) hS ?_
            case y1n2 => intro w hSw; (try dsimp only at hSw); go_simp; first | done | with_reducible rfl
            try simp only [Act.put, List.setIfInBounds_toArray, List.set_cons_zero, List.set_cons_succ]
            refine dag_take (i := 2) (d := some 54) (v := ?v2n3) rfl rfl (by kernel_rfl) (by kernel_rfl) (by kernel_rfl) (fun _ _ _ h => h) (Or.inl ⟨by rfl, ?y2n3⟩) hS ?_
            case y2n3 => intro w hSw; (try dsimp only at hSw); go_simp; first | done | with_reducible rfl
            try simp only [Act.put, List.setIfInBounds_toArray, List.set_cons_zero, List.set_cons_succ]
            refine dag_take (i := 3) (d := some 55) (v := undef) rfl rfl (by kernel_rfl) (by kernel_rfl) (by kernel_rfl) (fun _ _ _ h => h) (Or.inr ⟨by rfl, rfl⟩) hS ?_
            try simp only [Act.put, List.setIfInBounds_toArray, List.set_cons_zero, List.set_cons_succ]
            refine dag_take (i := 4) (d := some 56) (v := undef) rfl rfl (by kernel_rfl) (by kernel_rfl) (by kernel_rfl) (fun _ _ _ h => h) (Or.inr ⟨by rfl, rfl⟩) hS ?_
            try simp only [Act.put, List.setIfInBounds_toArray, List.set_cons_zero, List.set_cons_succ]
            refine dag_take (i := 5) (d := some 57) (v := undef) rfl rfl (by kernel_rfl) (by kernel_rfl) (by kernel_rfl) (fun _ _ _ h => h) (Or.inr ⟨by rfl, rfl⟩) hS ?_
            try simp only [Act.put, List.setIfInBounds_toArray, List.set_cons_zero, List.set_cons_succ]
            refine dag_take (i := 6) (d := some 58) (v := undef) rfl rfl (by kernel_rfl) (by kernel_rfl) (by kernel_rfl) (fun _ _ _ h => h) (Or.inr ⟨by rfl, rfl⟩) hS ?_
            try simp only [Act.put, List.setIfInBounds_toArray, List.set_cons_zero, List.set_cons_succ]
            refine dag_take (i := 7) (d := some 59) (v := ?v7n4) rfl rfl (by kernel_rfl) (by kernel_rfl) (by kernel_rfl) (fun _ _ _ h => h) (Or.inl ⟨by rfl, ?y7n4⟩) hS ?_
            case y7n4 => intro w hSw; (try dsimp only at hSw); go_simp; first | done | with_reducible rfl
            try simp only [Act.put, List.setIfInBounds_toArray, List.set_cons_zero, List.set_cons_succ]
            refine dag_take (i := 8) (d := some 60) (v := ?v8n5) rfl rfl (by kernel_rfl) (by kernel_rfl) (by kernel_rfl) (fun _ _ _ h => h) (Or.inl ⟨by rfl, ?y8n5⟩) hS ?_
            case y8n5 => intro w hSw; (try dsimp only at hSw); go_simp; first | done | with_reducible rfl
            try simp only [Act.put, List.setIfInBounds_toArray, List.set_cons_zero, List.set_cons_succ]
            refine dag_take (i := 9) (d := some 61) (v := undef) rfl rfl (by kernel_rfl) (by kernel_rfl) (by kernel_rfl) (fun _ _ _ h => h) (Or.inr ⟨by rfl, rfl⟩) hS ?_
            try simp only [Act.put, List.setIfInBounds_toArray, List.set_cons_zero, List.set_cons_succ]
            refine dag_take (i := 10) (d := some 62) (v := undef) rfl rfl (by kernel_rfl) (by kernel_rfl) (by kernel_rfl) (fun _ _ _ h => h) (Or.inr ⟨by rfl, rfl⟩) hS ?_
            try simp only [Act.put, List.setIfInBounds_toArray, List.set_cons_zero, List.set_cons_succ]
            refine dag_take (i := 11) (d := some 63) (v := undef) rfl rfl (by kernel_rfl) (by kernel_rfl) (by kernel_rfl) (fun _ _ _ h => h) (Or.inr ⟨by rfl, rfl⟩) hS ?_
            try simp only [Act.put, List.setIfInBounds_toArray, List.set_cons_zero, List.set_cons_succ]
            refine dag_take (i := 12) (d := some 64) (v := undef) rfl rfl (by kernel_rfl) (by kernel_rfl) (by kernel_rfl) (fun _ _ _ h => h) (Or.inr ⟨by rfl, rfl⟩) hS ?_
            try simp only [Act.put, List.setIfInBounds_toArray, List.set_cons_zero, List.set_cons_succ]
            refine dag_take (i := 13) (d := some 65) (v := ?v13n6) rfl rfl (by kernel_rfl) (by kernel_rfl) (by kernel_rfl) (fun _ _ _ h => h) (Or.inl ⟨by rfl, ?y13n6⟩) hS ?_
            case y13n6 => intro w hSw; (try dsimp only at hSw); go_simp; first | done | with_reducible rfl
            try simp only [Act.put, List.setIfInBounds_toArray, List.set_cons_zero, List.set_cons_succ]
            refine dag_take (i := 14) (d := some 66) (v := ?v14n7) rfl rfl (by kernel_rfl) (by kernel_rfl) (by kernel_rfl) (fun _ _ _ h => h) (Or.inl ⟨by rfl, ?y14n7⟩) hS ?_
            case y14n7 => intro w hSw; (try dsimp only at hSw); go_simp; first | done | with_reducible rfl
            try simp only [Act.put, List.setIfInBounds_toArray, List.set_cons_zero, List.set_cons_succ]
            refine dag_take (i := 15) (d := some 67) (v := ?v15n8) rfl rfl (by kernel_rfl) (by kernel_rfl) (by kernel_rfl) (fun _ _ _ h => h) (Or.inl ⟨by rfl, ?y15n8⟩) hS ?_
            case y15n8 => intro w hSw; (try dsimp only at hSw); go_simp; first | done | with_reducible rfl
            try simp only [Act.put, List.setIfInBounds_toArray, List.set_cons_zero, List.set_cons_succ]
            refine dag_take (i := 16) (d := some 68) (v := ?v16n9) rfl rfl (by kernel_rfl) (by kernel_rfl) (by kernel_rfl) (fun _ _ _ h => h) (Or.inl ⟨by rfl, ?y16n9⟩) hS ?_
            case y16n9 => intro w hSw; (try dsimp only at hSw); go_simp; first | done | with_reducible rfl
            try simp only [Act.put, List.setIfInBounds_toArray, List.set_cons_zero, List.set_cons_succ]
            refine dag_take (i := 17) (d := some 69) (v := ?v17n10) rfl rfl (by kernel_rfl) (by kernel_rfl) (by kernel_rfl) (fun _ _ _ h => h) (Or.inl ⟨by rfl, ?y17n10⟩) hS ?_
            case y17n10 => intro w hSw; (try dsimp only at hSw); go_simp; first | done | with_reducible rfl
            try simp only [Act.put, List.setIfInBounds_toArray, List.set_cons_zero, List.set_cons_succ]
            refine dag_take (i := 19) (d := some 71) (v := ?v19n11) rfl rfl (by kernel_rfl) (by kernel_rfl) (by kernel_rfl) (fun _ _ _ h => h) (Or.inl ⟨by rfl, ?y19n11⟩) hS ?_
            case y19n11 => intro w hSw; (try dsimp only at hSw); go_simp; first | done | with_reducible rfl
            try simp only [Act.put, List.setIfInBounds_toArray, List.set_cons_zero, List.set_cons_succ]
            refine wpAnyH_ready (rs := [18]) (by kernel_rfl) (by simp) ?_
            refine AllReadyH.cons rfl (fun Kc hK => ?_) AllReadyH.nil
            go_simp
            go_fit (wform_any _ m s (by omega) _ _ HX.out.2.2.1)
            rintro e V ⟨rfl, hq⟩
            refine hK.out _ _ (hb3 hq hS) (fun hS' => ?_)
            exact IH.out _ _ _ _ (by omega) (Or.inr (Or.inl (⟨rfl, by kernel_rfl, _, _, _, _, _, _, _, _, _, _, _, _, _, _, _, _, rfl, hS'⟩)))
          rcases hI with ⟨rfl, rfl, x52, x53, x54, x55, x56, x57, x58, x59, x60, x61, x62, x63, x64, x65, x67, x69, rfl, hS⟩ | hI
          · refine wpAnyH_ready (rs := [20]) (by kernel_rfl) (by simp) ?_
            refine AllReadyH.cons rfl (fun Kc hK => ?_) AllReadyH.nil
            go_simp
            go_fit (wform_any _ n t (by omega) _ _ HX.out.2.2.2)
            rintro e V ⟨rfl, hq⟩
            refine hK.out _ _ (hb3 hq hS) (fun hS' => ?_)
            exact IH.out _ _ _ _ (by omega) (Or.inr (Or.inr (Or.inl (⟨rfl, by kernel_rfl, _, _, _, _, _, _, _, _, _, _, _, _, _, _, _, _, _, rfl, hS'⟩))))
          rcases hI with ⟨rfl, rfl, x52, x53, x54, x55, x56, x57, x58, x59, x60, x61, x62, x63, x64, x65, x67, x69, x71, rfl, hS⟩ | hI
          · refine dag_take (i := 21) (d := some 73) (v := ?v21n12) rfl rfl (by kernel_rfl) (by kernel_rfl) (by kernel_rfl) (fun _ _ _ h => h) (Or.inl ⟨by rfl, ?y21n12⟩) hS ?_
            case y21n12 => intro w hSw; (try dsimp only at hSw); go_simp; first | done | with_reducible rfl
            try simp only [Act.put, List.setIfInBounds_toArray, List.set_cons_zero, List.set_cons_succ]
            refine dag_take (i := 22) (d := some 74) (v := ?v22n13) rfl rfl (by kernel_rfl) (by kernel_rfl) (by kernel_rfl) (fun _ _ _ h => h) (Or.inl ⟨by rfl, ?y22n13⟩) hS ?_
            case y22n13 => intro w hSw; (try dsimp only at hSw); go_simp; first | done | with_reducible rfl
            try simp only [Act.put, List.setIfInBounds_toArray, List.set_cons_zero, List.set_cons_succ]
            refine dag_take (i := 23) (d := some 75) (v := ?v23n14) rfl rfl (by kernel_rfl) (by kernel_rfl) (by kernel_rfl) (fun _ _ _ h => h) (Or.inl ⟨by rfl, ?y23n14⟩) hS ?_
            case y23n14 => intro w hSw; (try dsimp only at hSw); go_simp; first | done | with_reducible rfl
            try simp only [Act.put, List.setIfInBounds_toArray, List.set_cons_zero, List.set_cons_succ]
            refine dag_take (i := 24) (d := some 76) (v := ?v24n15) rfl rfl (by kernel_rfl) (by kernel_rfl) (by kernel_rfl) (fun _ _ _ h => h) (Or.inl ⟨by rfl, ?y24n15⟩) hS ?_
            case y24n15 => intro w hSw; (try dsimp only at hSw); go_simp; first | done | with_reducible rfl
            try simp only [Act.put, List.setIfInBounds_toArray, List.set_cons_zero, List.set_cons_succ]
            refine wpAnyH_ready (rs := [25]) (by kernel_rfl) (by simp) ?_
            refine AllReadyH.cons rfl (fun Kc hK => ?_) AllReadyH.nil
            go_simp
            go_fit (wawake_any _)
            rintro e V ⟨rfl, hq⟩
            refine hK.out _ _ (hb3 hq hS) (fun hS' => ?_)
            exact IH.out _ _ _ _ (by omega) (Or.inr (Or.inr (Or.inr (⟨rfl, by kernel_rfl, _, _, _, _, _, _, _, _, _, _, _, _, _, _, _, _, _, _, _, _, _, _, _, _, rfl, hS'⟩))))
          obtain ⟨rfl, rfl, x52, x53, x54, x55, x56, x57, x58, x59, x60, x61, x62, x63, x64, x65, x66, x67, x68, x69, x70, x71, x72, x73, x74, x75, rfl, hS⟩ := hI
          refine dag_take (i := 26) (d := some 78) (v := ?v26n16) rfl rfl (by kernel_rfl) (by kernel_rfl) (by kernel_rfl) (fun _ _ _ h => h) (Or.inl ⟨by rfl, ?y26n16⟩) hS ?_
          case y26n16 => intro w hSw; (try dsimp only at hSw); go_simp; first | done | with_reducible rfl
          try simp only [Act.put, List.setIfInBounds_toArray, List.set_cons_zero, List.set_cons_succ]
          refine dag_take (i := 27) (d := some 6) (v := ?v27n17) rfl rfl (by kernel_rfl) (by kernel_rfl) (by kernel_rfl) (fun _ _ _ h => h) (Or.inl ⟨by rfl, ?y27n17⟩) hS ?_
          case y27n17 => intro w hSw; (try dsimp only at hSw); go_simp; first | done | with_reducible rfl
          try simp only [Act.put, List.setIfInBounds_toArray, List.set_cons_zero, List.set_cons_succ]
          refine wpAnyH_done (by kernel_rfl) ?_ _
          go_wp2
          go_ret
          exact ⟨rfl, hS.1⟩
      · subst h1
        subst h2
        refine region_dag (fun w' => Below w.heap.size w w' ∧ (w'.cell? ⟨w.heap.size, 0, none⟩ = some (.bool m) ∧ w'.cell? ⟨w.heap.size, 1, none⟩ = some (.string s)) ∧ (w'.cell? ⟨w.heap.size + 1, 0, none⟩ = some (.bool n) ∧ w'.cell? ⟨w.heap.size + 1, 1, none⟩ = some (.string t)) ∧ (w'.cell? ⟨w.heap.size + 1 + 1, 0, none⟩ = some (.bool q) ∧ w'.cell? ⟨w.heap.size + 1 + 1, 1, none⟩ = some (.string u))) (fun fu li ac Wn => (fu = 28 ∧ li = #[false, false, false, false, false, false, false, false, false, false, false, false, false, false, false, false, false, false, false, false, false, false, false, false, false, false, false, false] ∧ ac = { tmps := #[Value.agg #[Value.bool m, Value.string s], Value.agg #[Value.bool n, Value.string t], Value.agg #[Value.bool q, Value.string u], Value.pointer (some { block := w.heap.size, off := 0 }), Value.pointer (some { block := w.heap.size + 1, off := 0 }), Value.pointer (some { block := w.heap.size + 1 + 1, off := 0 }), Value.bool false, Value.int IntKind.i64 1, Value.agg #[Value.bool m, Value.string s], Value.agg #[Value.bool n, Value.string t], Value.agg #[Value.bool q, Value.string u], Value.slice (some { block := w.heap.size + 1 + 1 + 1, off := 0 }) 3 3, Value.bool false, undef, Value.agg #[Value.bool m, Value.string s], Value.agg #[Value.bool n, Value.string t], Value.int IntKind.i64 1, x17, x18, x19, x20, x21, x22, x23, x24, x25, x26, x27, x28, x29, x30, x31, x32, x33, x34, x35, Value.bool false, x37, x38, x39, x40, x41, x42, x43, x44, Value.int IntKind.i64 pk, Value.int IntKind.i64 1, x47, Value.int IntKind.i64 k, Value.int IntKind.i64 pk, Value.bool false, Value.bool false, undef, undef, undef, undef, undef, undef, undef, undef, undef, undef, undef, undef, undef, undef, undef, undef, undef, undef, undef, undef, undef, undef, undef, undef, undef, undef, undef], defers := [] } ∧ (fun w' => Below w.heap.size w w' ∧ (w'.cell? ⟨w.heap.size, 0, none⟩ = some (.bool m) ∧ w'.cell? ⟨w.heap.size, 1, none⟩ = some (.string s)) ∧ (w'.cell? ⟨w.heap.size + 1, 0, none⟩ = some (.bool n) ∧ w'.cell? ⟨w.heap.size + 1, 1, none⟩ = some (.string t)) ∧ (w'.cell? ⟨w.heap.size + 1 + 1, 0, none⟩ = some (.bool q) ∧ w'.cell? ⟨w.heap.size + 1 + 1, 1, none⟩ = some (.string u))) Wn) ∨ (fu = 8 ∧ li = #[true, true, true, true, true, true, true, true, true, true, true, true, true, true, true, true, true, true, true, true, false, false, false, false, false, false, false, false] ∧ ∃ (x52 : Value) (x53 : Value) (x54 : Value) (x55 : Value) (x56 : Value) (x57 : Value) (x58 : Value) (x59 : Value) (x60 : Value) (x61 : Value) (x62 : Value) (x63 : Value) (x64 : Value) (x65 : Value) (x67 : Value) (x69 : Value), ac = { tmps := #[Value.agg #[Value.bool m, Value.string s], Value.agg #[Value.bool n, Value.string t], Value.agg #[Value.bool q, Value.string u], Value.pointer (some { block := w.heap.size, off := 0 }), Value.pointer (some { block := w.heap.size + 1, off := 0 }), Value.pointer (some { block := w.heap.size + 1 + 1, off := 0 }), Value.bool false, Value.int IntKind.i64 1, Value.agg #[Value.bool m, Value.string s], Value.agg #[Value.bool n, Value.string t], Value.agg #[Value.bool q, Value.string u], Value.slice (some { block := w.heap.size + 1 + 1 + 1, off := 0 }) 3 3, Value.bool false, undef, Value.agg #[Value.bool m, Value.string s], Value.agg #[Value.bool n, Value.string t], Value.int IntKind.i64 1, x17, x18, x19, x20, x21, x22, x23, x24, x25, x26, x27, x28, x29, x30, x31, x32, x33, x34, x35, Value.bool false, x37, x38, x39, x40, x41, x42, x43, x44, Value.int IntKind.i64 pk, Value.int IntKind.i64 1, x47, Value.int IntKind.i64 k, Value.int IntKind.i64 pk, Value.bool false, Value.bool false, x52, x53, x54, x55, x56, x57, x58, x59, x60, x61, x62, x63, x64, x65, Value.bool true, x67, Value.bool false, x69, Value.agg #[Value.bool true, Value.string oa], Value.agg #[Value.bool n, Value.string t], undef, undef, undef, undef, undef, undef, undef], defers := [] } ∧ (fun w' => Below w.heap.size w w' ∧ (w'.cell? ⟨w.heap.size, 0, none⟩ = some (.bool m) ∧ w'.cell? ⟨w.heap.size, 1, none⟩ = some (.string s)) ∧ (w'.cell? ⟨w.heap.size + 1, 0, none⟩ = some (.bool n) ∧ w'.cell? ⟨w.heap.size + 1, 1, none⟩ = some (.string t)) ∧ (w'.cell? ⟨w.heap.size + 1 + 1, 0, none⟩ = some (.bool q) ∧ w'.cell? ⟨w.heap.size + 1 + 1, 1, none⟩ = some (.string u))) Wn) ∨ (fu = 7 ∧ li = #[true, true, true, true, true, true, true, true, true, true, true, true, true, true, true, true, true, true, true, true, true, false, false, false, false, false, false, false] ∧ ∃ (x52 : Value) (x53 : Value) (x54 : Value) (x55 : Value) (x56 : Value) (x57 : Value) (x58 : Value) (x59 : Value) (x60 : Value) (x61 : Value) (x62 : Value) (x63 : Value) (x64 : Value) (x65 : Value) (x67 : Value) (x69 : Value) (x71 : Value), ac = { tmps := #[Value.agg #[Value.bool m, Value.string s], Value.agg #[Value.bool n, Value.string t], Value.agg #[Value.bool q, Value.string u], Value.pointer (some { block := w.heap.size, off := 0 }), Value.pointer (some { block := w.heap.size + 1, off := 0 }), Value.pointer (some { block := w.heap.size + 1 + 1, off := 0 }), Value.bool false, Value.int IntKind.i64 1, Value.agg #[Value.bool m, Value.string s], Value.agg #[Value.bool n, Value.string t], Value.agg #[Value.bool q, Value.string u], Value.slice (some { block := w.heap.size + 1 + 1 + 1, off := 0 }) 3 3, Value.bool false, undef, Value.agg #[Value.bool m, Value.string s], Value.agg #[Value.bool n, Value.string t], Value.int IntKind.i64 1, x17, x18, x19, x20, x21, x22, x23, x24, x25, x26, x27, x28, x29, x30, x31, x32, x33, x34, x35, Value.bool false, x37, x38, x39, x40, x41, x42, x43, x44, Value.int IntKind.i64 pk, Value.int IntKind.i64 1, x47, Value.int IntKind.i64 k, Value.int IntKind.i64 pk, Value.bool false, Value.bool false, x52, x53, x54, x55, x56, x57, x58, x59, x60, x61, x62, x63, x64, x65, Value.bool true, x67, Value.bool false, x69, Value.agg #[Value.bool true, Value.string oa], x71, Value.agg #[Value.bool false, Value.string ob], undef, undef, undef, undef, undef, undef], defers := [] } ∧ (fun w' => Below w.heap.size w w' ∧ (w'.cell? ⟨w.heap.size, 0, none⟩ = some (.bool m) ∧ w'.cell? ⟨w.heap.size, 1, none⟩ = some (.string s)) ∧ (w'.cell? ⟨w.heap.size + 1, 0, none⟩ = some (.bool n) ∧ w'.cell? ⟨w.heap.size + 1, 1, none⟩ = some (.string t)) ∧ (w'.cell? ⟨w.heap.size + 1 + 1, 0, none⟩ = some (.bool q) ∧ w'.cell? ⟨w.heap.size + 1 + 1, 1, none⟩ = some (.string u))) Wn) ∨ (fu = 2 ∧ li = #[true, true, true, true, true, true, true, true, true, true, true, true, true, true, true, true, true, true, true, true, true, true, true, true, true, true, false, false] ∧ ∃ (x52 : Value) (x53 : Value) (x54 : Value) (x55 : Value) (x56 : Value) (x57 : Value) (x58 : Value) (x59 : Value) (x60 : Value) (x61 : Value) (x62 : Value) (x63 : Value) (x64 : Value) (x65 : Value) (x66 : Value) (x67 : Value) (x68 : Value) (x69 : Value) (x70 : Value) (x71 : Value) (x72 : Value) (x73 : Value) (x74 : Value) (x75 : Value), ac = { tmps := #[Value.agg #[Value.bool m, Value.string s], Value.agg #[Value.bool n, Value.string t], Value.agg #[Value.bool q, Value.string u], Value.pointer (some { block := w.heap.size, off := 0 }), Value.pointer (some { block := w.heap.size + 1, off := 0 }), Value.pointer (some { block := w.heap.size + 1 + 1, off := 0 }), Value.bool false, Value.int IntKind.i64 1, Value.agg #[Value.bool m, Value.string s], Value.agg #[Value.bool n, Value.string t], Value.agg #[Value.bool q, Value.string u], Value.slice (some { block := w.heap.size + 1 + 1 + 1, off := 0 }) 3 3, Value.bool false, undef, Value.agg #[Value.bool m, Value.string s], Value.agg #[Value.bool n, Value.string t], Value.int IntKind.i64 1, x17, x18, x19, x20, x21, x22, x23, x24, x25, x26, x27, x28, x29, x30, x31, x32, x33, x34, x35, Value.bool false, x37, x38, x39, x40, x41, x42, x43, x44, Value.int IntKind.i64 pk, Value.int IntKind.i64 1, x47, Value.int IntKind.i64 k, Value.int IntKind.i64 pk, Value.bool false, Value.bool false, x52, x53, x54, x55, x56, x57, x58, x59, x60, x61, x62, x63, x64, x65, x66, x67, x68, x69, x70, x71, x72, x73, x74, x75, Value.bool true, Value.bool true, undef], defers := [] } ∧ (fun w' => Below w.heap.size w w' ∧ (w'.cell? ⟨w.heap.size, 0, none⟩ = some (.bool m) ∧ w'.cell? ⟨w.heap.size, 1, none⟩ = some (.string s)) ∧ (w'.cell? ⟨w.heap.size + 1, 0, none⟩ = some (.bool n) ∧ w'.cell? ⟨w.heap.size + 1, 1, none⟩ = some (.string t)) ∧ (w'.cell? ⟨w.heap.size + 1 + 1, 0, none⟩ = some (.bool q) ∧ w'.cell? ⟨w.heap.size + 1 + 1, 1, none⟩ = some (.string u))) Wn)) (by kernel_rfl) ?_ ?_
        · exact Or.inl (⟨rfl, rfl, rfl, hin⟩)
        · clear hin
          intro fu li ac Wn hI IH
          rcases hI with ⟨rfl, rfl, rfl, hS⟩ | hI
          · refine dag_take (i := 0) (d := some 52) (v := ?v0n18) rfl rfl (by kernel_rfl) (by kernel_rfl) (by kernel_rfl) (fun _ _ _ h => h) (Or.inl ⟨by rfl, ?y0n18⟩) hS ?_
            case y0n18 => intro w hSw; (try dsimp only at hSw); go_simp; first | done | with_reducible rfl
            try simp only [Act.put, List.setIfInBounds_toArray, List.set_cons_zero, List.set_cons_succ]
            refine dag_take (i := 1) (d := some 53) (v := ?v1n19) rfl rfl (by kernel_rfl) (by kernel_rfl) (by kernel_rfl) (fun _ _ _ h => h) (Or.inl ⟨by rfl, ?y1n19⟩) hS ?_
            case y1n19 => intro w hSw; (try dsimp only at hSw); go_simp; first | done | with_reducible rfl
            try simp only [Act.put, List.setIfInBounds_toArray, List.set_cons_zero, List.set_cons_succ]
            refine dag_take (i := 2) (d := some 54) (v := ?v2n20) rfl rfl (by kernel_rfl) (by kernel_rfl) (by kernel_rfl) (fun _ _ _ h => h) (Or.inl ⟨by rfl, ?y2n20⟩) hS ?_
            case y2n20 => intro w hSw; (try dsimp only at hSw); go_simp; first | done | with_reducible rfl
            try simp only [Act.put, List.setIfInBounds_toArray, List.set_cons_zero, List.set_cons_succ]
            refine dag_take (i := 3) (d := some 55) (v := undef) rfl rfl (by kernel_rfl) (by kernel_rfl) (by kernel_rfl) (fun _ _ _ h => h) (Or.inr ⟨by rfl, rfl⟩) hS ?_
            try simp only [Act.put, List.setIfInBounds_toArray, List.set_cons_zero, List.set_cons_succ]
            refine dag_take (i := 4) (d := some 56) (v := undef) rfl rfl (by kernel_rfl) (by kernel_rfl) (by kernel_rfl) (fun _ _ _ h => h) (Or.inr ⟨by rfl, rfl⟩) hS ?_
            try simp only [Act.put, List.setIfInBounds_toArray, List.set_cons_zero, List.set_cons_succ]
            refine dag_take (i := 5) (d := some 57) (v := undef) rfl rfl (by kernel_rfl) (by kernel_rfl) (by kernel_rfl) (fun _ _ _ h => h) (Or.inr ⟨by rfl, rfl⟩) hS ?_
            try simp only [Act.put, List.setIfInBounds_toArray, List.set_cons_zero, List.set_cons_succ]
            refine dag_take (i := 6) (d := some 58) (v := undef) rfl rfl (by kernel_rfl) (by kernel_rfl) (by kernel_rfl) (fun _ _ _ h => h) (Or.inr ⟨by rfl, rfl⟩) hS ?_
            try simp only [Act.put, List.setIfInBounds_toArray, List.set_cons_zero, List.set_cons_succ]
            refine dag_take (i := 7) (d := some 59) (v := ?v7n21) rfl rfl (by kernel_rfl) (by kernel_rfl) (by kernel_rfl) (fun _ _ _ h => h) (Or.inl ⟨by rfl, ?y7n21⟩) hS ?_
            case y7n21 => intro w hSw; (try dsimp only at hSw); go_simp; first | done | with_reducible rfl
            try simp only [Act.put, List.setIfInBounds_toArray, List.set_cons_zero, List.set_cons_succ]
            refine dag_take (i := 8) (d := some 60) (v := ?v8n22) rfl rfl (by kernel_rfl) (by kernel_rfl) (by kernel_rfl) (fun _ _ _ h => h) (Or.inl ⟨by rfl, ?y8n22⟩) hS ?_
            case y8n22 => intro w hSw; (try dsimp only at hSw); go_simp; first | done | with_reducible rfl
            try simp only [Act.put, List.setIfInBounds_toArray, List.set_cons_zero, List.set_cons_succ]
            refine dag_take (i := 9) (d := some 61) (v := undef) rfl rfl (by kernel_rfl) (by kernel_rfl) (by kernel_rfl) (fun _ _ _ h => h) (Or.inr ⟨by rfl, rfl⟩) hS ?_
            try simp only [Act.put, List.setIfInBounds_toArray, List.set_cons_zero, List.set_cons_succ]
            refine dag_take (i := 10) (d := some 62) (v := undef) rfl rfl (by kernel_rfl) (by kernel_rfl) (by kernel_rfl) (fun _ _ _ h => h) (Or.inr ⟨by rfl, rfl⟩) hS ?_
            try simp only [Act.put, List.setIfInBounds_toArray, List.set_cons_zero, List.set_cons_succ]
            refine dag_take (i := 11) (d := some 63) (v := undef) rfl rfl (by kernel_rfl) (by kernel_rfl) (by kernel_rfl) (fun _ _ _ h => h) (Or.inr ⟨by rfl, rfl⟩) hS ?_
            try simp only [Act.put, List.setIfInBounds_toArray, List.set_cons_zero, List.set_cons_succ]
            refine dag_take (i := 12) (d := some 64) (v := undef) rfl rfl (by kernel_rfl) (by kernel_rfl) (by kernel_rfl) (fun _ _ _ h => h) (Or.inr ⟨by rfl, rfl⟩) hS ?_
            try simp only [Act.put, List.setIfInBounds_toArray, List.set_cons_zero, List.set_cons_succ]
            refine dag_take (i := 13) (d := some 65) (v := ?v13n23) rfl rfl (by kernel_rfl) (by kernel_rfl) (by kernel_rfl) (fun _ _ _ h => h) (Or.inl ⟨by rfl, ?y13n23⟩) hS ?_
            case y13n23 => intro w hSw; (try dsimp only at hSw); go_simp; first | done | with_reducible rfl
            try simp only [Act.put, List.setIfInBounds_toArray, List.set_cons_zero, List.set_cons_succ]
            refine dag_take (i := 14) (d := some 66) (v := ?v14n24) rfl rfl (by kernel_rfl) (by kernel_rfl) (by kernel_rfl) (fun _ _ _ h => h) (Or.inl ⟨by rfl, ?y14n24⟩) hS ?_
            case y14n24 => intro w hSw; (try dsimp only at hSw); go_simp; first | done | with_reducible rfl
            try simp only [Act.put, List.setIfInBounds_toArray, List.set_cons_zero, List.set_cons_succ]
            refine dag_take (i := 15) (d := some 67) (v := ?v15n25) rfl rfl (by kernel_rfl) (by kernel_rfl) (by kernel_rfl) (fun _ _ _ h => h) (Or.inl ⟨by rfl, ?y15n25⟩) hS ?_
            case y15n25 => intro w hSw; (try dsimp only at hSw); go_simp; first | done | with_reducible rfl
            try simp only [Act.put, List.setIfInBounds_toArray, List.set_cons_zero, List.set_cons_succ]
            refine dag_take (i := 16) (d := some 68) (v := ?v16n26) rfl rfl (by kernel_rfl) (by kernel_rfl) (by kernel_rfl) (fun _ _ _ h => h) (Or.inl ⟨by rfl, ?y16n26⟩) hS ?_
            case y16n26 => intro w hSw; (try dsimp only at hSw); go_simp; first | done | with_reducible rfl
            try simp only [Act.put, List.setIfInBounds_toArray, List.set_cons_zero, List.set_cons_succ]
            refine dag_take (i := 17) (d := some 69) (v := ?v17n27) rfl rfl (by kernel_rfl) (by kernel_rfl) (by kernel_rfl) (fun _ _ _ h => h) (Or.inl ⟨by rfl, ?y17n27⟩) hS ?_
            case y17n27 => intro w hSw; (try dsimp only at hSw); go_simp; first | done | with_reducible rfl
            try simp only [Act.put, List.setIfInBounds_toArray, List.set_cons_zero, List.set_cons_succ]
            refine dag_take (i := 19) (d := some 71) (v := ?v19n28) rfl rfl (by kernel_rfl) (by kernel_rfl) (by kernel_rfl) (fun _ _ _ h => h) (Or.inl ⟨by rfl, ?y19n28⟩) hS ?_
            case y19n28 => intro w hSw; (try dsimp only at hSw); go_simp; first | done | with_reducible rfl
            try simp only [Act.put, List.setIfInBounds_toArray, List.set_cons_zero, List.set_cons_succ]
            refine wpAnyH_ready (rs := [18]) (by kernel_rfl) (by simp) ?_
            refine AllReadyH.cons rfl (fun Kc hK => ?_) AllReadyH.nil
            go_simp
            go_fit (wform_any _ m s (by omega) _ _ HX.out.2.2.1)
            rintro e V ⟨rfl, hq⟩
            refine hK.out _ _ (hb3 hq hS) (fun hS' => ?_)
            exact IH.out _ _ _ _ (by omega) (Or.inr (Or.inl (⟨rfl, by kernel_rfl, _, _, _, _, _, _, _, _, _, _, _, _, _, _, _, _, rfl, hS'⟩)))
          rcases hI with ⟨rfl, rfl, x52, x53, x54, x55, x56, x57, x58, x59, x60, x61, x62, x63, x64, x65, x67, x69, rfl, hS⟩ | hI
          · refine wpAnyH_ready (rs := [20]) (by kernel_rfl) (by simp) ?_
            refine AllReadyH.cons rfl (fun Kc hK => ?_) AllReadyH.nil
            go_simp
            go_fit (wform_any _ n t (by omega) _ _ HX.out.2.2.2)
            rintro e V ⟨rfl, hq⟩
            refine hK.out _ _ (hb3 hq hS) (fun hS' => ?_)
            exact IH.out _ _ _ _ (by omega) (Or.inr (Or.inr (Or.inl (⟨rfl, by kernel_rfl, _, _, _, _, _, _, _, _, _, _, _, _, _, _, _, _, _, rfl, hS'⟩))))
          rcases hI with ⟨rfl, rfl, x52, x53, x54, x55, x56, x57, x58, x59, x60, x61, x62, x63, x64, x65, x67, x69, x71, rfl, hS⟩ | hI
          · refine dag_take (i := 21) (d := some 73) (v := ?v21n29) rfl rfl (by kernel_rfl) (by kernel_rfl) (by kernel_rfl) (fun _ _ _ h => h) (Or.inl ⟨by rfl, ?y21n29⟩) hS ?_
            case y21n29 => intro w hSw; (try dsimp only at hSw); go_simp; first | done | with_reducible rfl
            try simp only [Act.put, List.setIfInBounds_toArray, List.set_cons_zero, List.set_cons_succ]
            refine dag_take (i := 22) (d := some 74) (v := ?v22n30) rfl rfl (by kernel_rfl) (by kernel_rfl) (by kernel_rfl) (fun _ _ _ h => h) (Or.inl ⟨by rfl, ?y22n30⟩) hS ?_
            case y22n30 => intro w hSw; (try dsimp only at hSw); go_simp; first | done | with_reducible rfl
            try simp only [Act.put, List.setIfInBounds_toArray, List.set_cons_zero, List.set_cons_succ]
            refine dag_take (i := 23) (d := some 75) (v := ?v23n31) rfl rfl (by kernel_rfl) (by kernel_rfl) (by kernel_rfl) (fun _ _ _ h => h) (Or.inl ⟨by rfl, ?y23n31⟩) hS ?_
            case y23n31 => intro w hSw; (try dsimp only at hSw); go_simp; first | done | with_reducible rfl
            try simp only [Act.put, List.setIfInBounds_toArray, List.set_cons_zero, List.set_cons_succ]
            refine dag_take (i := 24) (d := some 76) (v := ?v24n32) rfl rfl (by kernel_rfl) (by kernel_rfl) (by kernel_rfl) (fun _ _ _ h => h) (Or.inl ⟨by rfl, ?y24n32⟩) hS ?_
            case y24n32 => intro w hSw; (try dsimp only at hSw); go_simp; first | done | with_reducible rfl
            try simp only [Act.put, List.setIfInBounds_toArray, List.set_cons_zero, List.set_cons_succ]
            refine wpAnyH_ready (rs := [25]) (by kernel_rfl) (by simp) ?_
            refine AllReadyH.cons rfl (fun Kc hK => ?_) AllReadyH.nil
            go_simp
            go_fit (wawake_any _)
            rintro e V ⟨rfl, hq⟩
            refine hK.out _ _ (hb3 hq hS) (fun hS' => ?_)
            exact IH.out _ _ _ _ (by omega) (Or.inr (Or.inr (Or.inr (⟨rfl, by kernel_rfl, _, _, _, _, _, _, _, _, _, _, _, _, _, _, _, _, _, _, _, _, _, _, _, _, rfl, hS'⟩))))
          obtain ⟨rfl, rfl, x52, x53, x54, x55, x56, x57, x58, x59, x60, x61, x62, x63, x64, x65, x66, x67, x68, x69, x70, x71, x72, x73, x74, x75, rfl, hS⟩ := hI
          refine dag_take (i := 26) (d := some 78) (v := ?v26n33) rfl rfl (by kernel_rfl) (by kernel_rfl) (by kernel_rfl) (fun _ _ _ h => h) (Or.inl ⟨by rfl, ?y26n33⟩) hS ?_
          case y26n33 => intro w hSw; (try dsimp only at hSw); go_simp; first | done | with_reducible rfl
          try simp only [Act.put, List.setIfInBounds_toArray, List.set_cons_zero, List.set_cons_succ]
          refine dag_take (i := 27) (d := some 6) (v := ?v27n34) rfl rfl (by kernel_rfl) (by kernel_rfl) (by kernel_rfl) (fun _ _ _ h => h) (Or.inl ⟨by rfl, ?y27n34⟩) hS ?_
          case y27n34 => intro w hSw; (try dsimp only at hSw); go_simp; first | done | with_reducible rfl
          try simp only [Act.put, List.setIfInBounds_toArray, List.set_cons_zero, List.set_cons_succ]
          refine wpAnyH_done (by kernel_rfl) ?_ _
          go_wp2
          go_ret
          exact ⟨rfl, hS.1⟩
      · subst h1
        subst h2
        refine region_dag (fun w' => Below w.heap.size w w' ∧ (w'.cell? ⟨w.heap.size, 0, none⟩ = some (.bool m) ∧ w'.cell? ⟨w.heap.size, 1, none⟩ = some (.string s)) ∧ (w'.cell? ⟨w.heap.size + 1, 0, none⟩ = some (.bool n) ∧ w'.cell? ⟨w.heap.size + 1, 1, none⟩ = some (.string t)) ∧ (w'.cell? ⟨w.heap.size + 1 + 1, 0, none⟩ = some (.bool q) ∧ w'.cell? ⟨w.heap.size + 1 + 1, 1, none⟩ = some (.string u))) (fun fu li ac Wn => (fu = 28 ∧ li = #[false, false, false, false, false, false, false, false, false, false, false, false, false, false, false, false, false, false, false, false, false, false, false, false, false, false, false, false] ∧ ac = { tmps := #[Value.agg #[Value.bool m, Value.string s], Value.agg #[Value.bool n, Value.string t], Value.agg #[Value.bool q, Value.string u], Value.pointer (some { block := w.heap.size, off := 0 }), Value.pointer (some { block := w.heap.size + 1, off := 0 }), Value.pointer (some { block := w.heap.size + 1 + 1, off := 0 }), Value.bool false, Value.int IntKind.i64 1, Value.agg #[Value.bool m, Value.string s], Value.agg #[Value.bool n, Value.string t], Value.agg #[Value.bool q, Value.string u], Value.slice (some { block := w.heap.size + 1 + 1 + 1, off := 0 }) 3 3, Value.bool false, undef, Value.agg #[Value.bool m, Value.string s], Value.agg #[Value.bool n, Value.string t], Value.int IntKind.i64 1, x17, x18, x19, x20, x21, x22, x23, x24, x25, x26, x27, x28, x29, x30, x31, x32, x33, x34, x35, Value.bool false, x37, x38, x39, x40, x41, x42, x43, x44, Value.int IntKind.i64 pk, Value.int IntKind.i64 1, x47, Value.int IntKind.i64 k, Value.int IntKind.i64 pk, Value.bool false, Value.bool false, undef, undef, undef, undef, undef, undef, undef, undef, undef, undef, undef, undef, undef, undef, undef, undef, undef, undef, undef, undef, undef, undef, undef, undef, undef, undef, undef], defers := [] } ∧ (fun w' => Below w.heap.size w w' ∧ (w'.cell? ⟨w.heap.size, 0, none⟩ = some (.bool m) ∧ w'.cell? ⟨w.heap.size, 1, none⟩ = some (.string s)) ∧ (w'.cell? ⟨w.heap.size + 1, 0, none⟩ = some (.bool n) ∧ w'.cell? ⟨w.heap.size + 1, 1, none⟩ = some (.string t)) ∧ (w'.cell? ⟨w.heap.size + 1 + 1, 0, none⟩ = some (.bool q) ∧ w'.cell? ⟨w.heap.size + 1 + 1, 1, none⟩ = some (.string u))) Wn) ∨ (fu = 8 ∧ li = #[true, true, true, true, true, true, true, true, true, true, true, true, true, true, true, true, true, true, true, true, false, false, false, false, false, false, false, false] ∧ ∃ (x52 : Value) (x53 : Value) (x54 : Value) (x55 : Value) (x56 : Value) (x57 : Value) (x58 : Value) (x59 : Value) (x60 : Value) (x61 : Value) (x62 : Value) (x63 : Value) (x64 : Value) (x65 : Value) (x67 : Value) (x69 : Value), ac = { tmps := #[Value.agg #[Value.bool m, Value.string s], Value.agg #[Value.bool n, Value.string t], Value.agg #[Value.bool q, Value.string u], Value.pointer (some { block := w.heap.size, off := 0 }), Value.pointer (some { block := w.heap.size + 1, off := 0 }), Value.pointer (some { block := w.heap.size + 1 + 1, off := 0 }), Value.bool false, Value.int IntKind.i64 1, Value.agg #[Value.bool m, Value.string s], Value.agg #[Value.bool n, Value.string t], Value.agg #[Value.bool q, Value.string u], Value.slice (some { block := w.heap.size + 1 + 1 + 1, off := 0 }) 3 3, Value.bool false, undef, Value.agg #[Value.bool m, Value.string s], Value.agg #[Value.bool n, Value.string t], Value.int IntKind.i64 1, x17, x18, x19, x20, x21, x22, x23, x24, x25, x26, x27, x28, x29, x30, x31, x32, x33, x34, x35, Value.bool false, x37, x38, x39, x40, x41, x42, x43, x44, Value.int IntKind.i64 pk, Value.int IntKind.i64 1, x47, Value.int IntKind.i64 k, Value.int IntKind.i64 pk, Value.bool false, Value.bool false, x52, x53, x54, x55, x56, x57, x58, x59, x60, x61, x62, x63, x64, x65, Value.bool true, x67, Value.bool false, x69, Value.agg #[Value.bool false, Value.string oa], Value.agg #[Value.bool n, Value.string t], undef, undef, undef, undef, undef, undef, undef], defers := [] } ∧ (fun w' => Below w.heap.size w w' ∧ (w'.cell? ⟨w.heap.size, 0, none⟩ = some (.bool m) ∧ w'.cell? ⟨w.heap.size, 1, none⟩ = some (.string s)) ∧ (w'.cell? ⟨w.heap.size + 1, 0, none⟩ = some (.bool n) ∧ w'.cell? ⟨w.heap.size + 1, 1, none⟩ = some (.string t)) ∧ (w'.cell? ⟨w.heap.size + 1 + 1, 0, none⟩ = some (.bool q) ∧ w'.cell? ⟨w.heap.size + 1 + 1, 1, none⟩ = some (.string u))) Wn) ∨ (fu = 7 ∧ li = #[true, true, true, true, true, true, true, true, true, true, true, true, true, true, true, true, true, true, true, true, true, false, false, false, false, false, false, false] ∧ ∃ (x52 : Value) (x53 : Value) (x54 : Value) (x55 : Value) (x56 : Value) (x57 : Value) (x58 : Value) (x59 : Value) (x60 : Value) (x61 : Value) (x62 : Value) (x63 : Value) (x64 : Value) (x65 : Value) (x67 : Value) (x69 : Value) (x71 : Value), ac = { tmps := #[Value.agg #[Value.bool m, Value.string s], Value.agg #[Value.bool n, Value.string t], Value.agg #[Value.bool q, Value.string u], Value.pointer (some { block := w.heap.size, off := 0 }), Value.pointer (some { block := w.heap.size + 1, off := 0 }), Value.pointer (some { block := w.heap.size + 1 + 1, off := 0 }), Value.bool false, Value.int IntKind.i64 1, Value.agg #[Value.bool m, Value.string s], Value.agg #[Value.bool n, Value.string t], Value.agg #[Value.bool q, Value.string u], Value.slice (some { block := w.heap.size + 1 + 1 + 1, off := 0 }) 3 3, Value.bool false, undef, Value.agg #[Value.bool m, Value.string s], Value.agg #[Value.bool n, Value.string t], Value.int IntKind.i64 1, x17, x18, x19, x20, x21, x22, x23, x24, x25, x26, x27, x28, x29, x30, x31, x32, x33, x34, x35, Value.bool false, x37, x38, x39, x40, x41, x42, x43, x44, Value.int IntKind.i64 pk, Value.int IntKind.i64 1, x47, Value.int IntKind.i64 k, Value.int IntKind.i64 pk, Value.bool false, Value.bool false, x52, x53, x54, x55, x56, x57, x58, x59, x60, x61, x62, x63, x64, x65, Value.bool true, x67, Value.bool false, x69, Value.agg #[Value.bool false, Value.string oa], x71, Value.agg #[Value.bool true, Value.string ob], undef, undef, undef, undef, undef, undef], defers := [] } ∧ (fun w' => Below w.heap.size w w' ∧ (w'.cell? ⟨w.heap.size, 0, none⟩ = some (.bool m) ∧ w'.cell? ⟨w.heap.size, 1, none⟩ = some (.string s)) ∧ (w'.cell? ⟨w.heap.size + 1, 0, none⟩ = some (.bool n) ∧ w'.cell? ⟨w.heap.size + 1, 1, none⟩ = some (.string t)) ∧ (w'.cell? ⟨w.heap.size + 1 + 1, 0, none⟩ = some (.bool q) ∧ w'.cell? ⟨w.heap.size + 1 + 1, 1, none⟩ = some (.string u))) Wn) ∨ (fu = 2 ∧ li = #[true, true, true, true, true, true, true, true, true, true, true, true, true, true, true, true, true, true, true, true, true, true, true, true, true, true, false, false] ∧ ∃ (x52 : Value) (x53 : Value) (x54 : Value) (x55 : Value) (x56 : Value) (x57 : Value) (x58 : Value) (x59 : Value) (x60 : Value) (x61 : Value) (x62 : Value) (x63 : Value) (x64 : Value) (x65 : Value) (x66 : Value) (x67 : Value) (x68 : Value) (x69 : Value) (x70 : Value) (x71 : Value) (x72 : Value) (x73 : Value) (x74 : Value) (x75 : Value), ac = { tmps := #[Value.agg #[Value.bool m, Value.string s], Value.agg #[Value.bool n, Value.string t], Value.agg #[Value.bool q, Value.string u], Value.pointer (some { block := w.heap.size, off := 0 }), Value.pointer (some { block := w.heap.size + 1, off := 0 }), Value.pointer (some { block := w.heap.size + 1 + 1, off := 0 }), Value.bool false, Value.int IntKind.i64 1, Value.agg #[Value.bool m, Value.string s], Value.agg #[Value.bool n, Value.string t], Value.agg #[Value.bool q, Value.string u], Value.slice (some { block := w.heap.size + 1 + 1 + 1, off := 0 }) 3 3, Value.bool false, undef, Value.agg #[Value.bool m, Value.string s], Value.agg #[Value.bool n, Value.string t], Value.int IntKind.i64 1, x17, x18, x19, x20, x21, x22, x23, x24, x25, x26, x27, x28, x29, x30, x31, x32, x33, x34, x35, Value.bool false, x37, x38, x39, x40, x41, x42, x43, x44, Value.int IntKind.i64 pk, Value.int IntKind.i64 1, x47, Value.int IntKind.i64 k, Value.int IntKind.i64 pk, Value.bool false, Value.bool false, x52, x53, x54, x55, x56, x57, x58, x59, x60, x61, x62, x63, x64, x65, x66, x67, x68, x69, x70, x71, x72, x73, x74, x75, Value.bool true, Value.bool true, undef], defers := [] } ∧ (fun w' => Below w.heap.size w w' ∧ (w'.cell? ⟨w.heap.size, 0, none⟩ = some (.bool m) ∧ w'.cell? ⟨w.heap.size, 1, none⟩ = some (.string s)) ∧ (w'.cell? ⟨w.heap.size + 1, 0, none⟩ = some (.bool n) ∧ w'.cell? ⟨w.heap.size + 1, 1, none⟩ = some (.string t)) ∧ (w'.cell? ⟨w.heap.size + 1 + 1, 0, none⟩ = some (.bool q) ∧ w'.cell? ⟨w.heap.size + 1 + 1, 1, none⟩ = some (.string u))) Wn)) (by kernel_rfl) ?_ ?_
        · exact Or.inl (⟨rfl, rfl, rfl, hin⟩)
        · clear hin
          intro fu li ac Wn hI IH
          rcases hI with ⟨rfl, rfl, rfl, hS⟩ | hI
          · refine dag_take (i := 0) (d := some 52) (v := ?v0n35) rfl rfl (by kernel_rfl) (by kernel_rfl) (by kernel_rfl) (fun _ _ _ h => h) (Or.inl ⟨by rfl, ?y0n35⟩) hS ?_
            case y0n35 => intro w hSw; (try dsimp only at hSw); go_simp; first | done | with_reducible rfl
            try simp only [Act.put, List.setIfInBounds_toArray, List.set_cons_zero, List.set_cons_succ]
            refine dag_take (i := 1) (d := some 53) (v := ?v1n36) rfl rfl (by kernel_rfl) (by kernel_rfl) (by kernel_rfl) (fun _ _ _ h => h) (Or.inl ⟨by rfl, ?y1n36⟩) hS ?_
            case y1n36 => intro w hSw; (try dsimp only at hSw); go_simp; first | done | with_reducible rfl
            try simp only [Act.put, List.setIfInBounds_toArray, List.set_cons_zero, List.set_cons_succ]
            refine dag_take (i := 2) (d := some 54) (v := ?v2n37) rfl rfl (by kernel_rfl) (by kernel_rfl) (by kernel_rfl) (fun _ _ _ h => h) (Or.inl ⟨by rfl, ?y2n37⟩) hS ?_
            case y2n37 => intro w hSw; (try dsimp only at hSw); go_simp; first | done | with_reducible rfl
            try simp only [Act.put, List.setIfInBounds_toArray, List.set_cons_zero, List.set_cons_succ]
            refine dag_take (i := 3) (d := some 55) (v := undef) rfl rfl (by kernel_rfl) (by kernel_rfl) (by kernel_rfl) (fun _ _ _ h => h) (Or.inr ⟨by rfl, rfl⟩) hS ?_
            try simp only [Act.put, List.setIfInBounds_toArray, List.set_cons_zero, List.set_cons_succ]
            refine dag_take (i := 4) (d := some 56) (v := undef) rfl rfl (by kernel_rfl) (by kernel_rfl) (by kernel_rfl) (fun _ _ _ h => h) (Or.inr ⟨by rfl, rfl⟩) hS ?_
            try simp only [Act.put, List.setIfInBounds_toArray, List.set_cons_zero, List.set_cons_succ]
            refine dag_take (i := 5) (d := some 57) (v := undef) rfl rfl (by kernel_rfl) (by kernel_rfl) (by kernel_rfl) (fun _ _ _ h => h) (Or.inr ⟨by rfl, rfl⟩) hS ?_
            try simp only [Act.put, List.setIfInBounds_toArray, List.set_cons_zero, List.set_cons_succ]
            refine dag_take (i := 6) (d := some 58) (v := undef) rfl rfl (by kernel_rfl) (by kernel_rfl) (by kernel_rfl) (fun _ _ _ h => h) (Or.inr ⟨by rfl, rfl⟩) hS ?_
            try simp only [Act.put, List.setIfInBounds_toArray, List.set_cons_zero, List.set_cons_succ]
            refine dag_take (i := 7) (d := some 59) (v := ?v7n38) rfl rfl (by kernel_rfl) (by kernel_rfl) (by kernel_rfl) (fun _ _ _ h => h) (Or.inl ⟨by rfl, ?y7n38⟩) hS ?_
            case y7n38 => intro w hSw; (try dsimp only at hSw); go_simp; first | done | with_reducible rfl
            try simp only [Act.put, List.setIfInBounds_toArray, List.set_cons_zero, List.set_cons_succ]
            refine dag_take (i := 8) (d := some 60) (v := ?v8n39) rfl rfl (by kernel_rfl) (by kernel_rfl) (by kernel_rfl) (fun _ _ _ h => h) (Or.inl ⟨by rfl, ?y8n39⟩) hS ?_
            case y8n39 => intro w hSw; (try dsimp only at hSw); go_simp; first | done | with_reducible rfl
            try simp only [Act.put, List.setIfInBounds_toArray, List.set_cons_zero, List.set_cons_succ]
            refine dag_take (i := 9) (d := some 61) (v := undef) rfl rfl (by kernel_rfl) (by kernel_rfl) (by kernel_rfl) (fun _ _ _ h => h) (Or.inr ⟨by rfl, rfl⟩) hS ?_
            try simp only [Act.put, List.setIfInBounds_toArray, List.set_cons_zero, List.set_cons_succ]
            refine dag_take (i := 10) (d := some 62) (v := undef) rfl rfl (by kernel_rfl) (by kernel_rfl) (by kernel_rfl) (fun _ _ _ h => h) (Or.inr ⟨by rfl, rfl⟩) hS ?_
            try simp only [Act.put, List.setIfInBounds_toArray, List.set_cons_zero, List.set_cons_succ]
            refine dag_take (i := 11) (d := some 63) (v := undef) rfl rfl (by kernel_rfl) (by kernel_rfl) (by kernel_rfl) (fun _ _ _ h => h) (Or.inr ⟨by rfl, rfl⟩) hS ?_
            try simp only [Act.put, List.setIfInBounds_toArray, List.set_cons_zero, List.set_cons_succ]
            refine dag_take (i := 12) (d := some 64) (v := undef) rfl rfl (by kernel_rfl) (by kernel_rfl) (by kernel_rfl) (fun _ _ _ h => h) (Or.inr ⟨by rfl, rfl⟩) hS ?_
            try simp only [Act.put, List.setIfInBounds_toArray, List.set_cons_zero, List.set_cons_succ]
            refine dag_take (i := 13) (d := some 65) (v := ?v13n40) rfl rfl (by kernel_rfl) (by kernel_rfl) (by kernel_rfl) (fun _ _ _ h => h) (Or.inl ⟨by rfl, ?y13n40⟩) hS ?_
            case y13n40 => intro w hSw; (try dsimp only at hSw); go_simp; first | done | with_reducible rfl
            try simp only [Act.put, List.setIfInBounds_toArray, List.set_cons_zero, List.set_cons_succ]
            refine dag_take (i := 14) (d := some 66) (v := ?v14n41) rfl rfl (by kernel_rfl) (by kernel_rfl) (by kernel_rfl) (fun _ _ _ h => h) (Or.inl ⟨by rfl, ?y14n41⟩) hS ?_
            case y14n41 => intro w hSw; (try dsimp only at hSw); go_simp; first | done | with_reducible rfl
            try simp only [Act.put, List.setIfInBounds_toArray, List.set_cons_zero, List.set_cons_succ]
            refine dag_take (i := 15) (d := some 67) (v := ?v15n42) rfl rfl (by kernel_rfl) (by kernel_rfl) (by kernel_rfl) (fun _ _ _ h => h) (Or.inl ⟨by rfl, ?y15n42⟩) hS ?_
            case y15n42 => intro w hSw; (try dsimp only at hSw); go_simp; first | done | with_reducible rfl
            try simp only [Act.put, List.setIfInBounds_toArray, List.set_cons_zero, List.set_cons_succ]
            refine dag_take (i := 16) (d := some 68) (v := ?v16n43) rfl rfl (by kernel_rfl) (by kernel_rfl) (by kernel_rfl) (fun _ _ _ h => h) (Or.inl ⟨by rfl, ?y16n43⟩) hS ?_
            case y16n43 => intro w hSw; (try dsimp only at hSw); go_simp; first | done | with_reducible rfl
            try simp only [Act.put, List.setIfInBounds_toArray, List.set_cons_zero, List.set_cons_succ]
            refine dag_take (i := 17) (d := some 69) (v := ?v17n44) rfl rfl (by kernel_rfl) (by kernel_rfl) (by kernel_rfl) (fun _ _ _ h => h) (Or.inl ⟨by rfl, ?y17n44⟩) hS ?_
            case y17n44 => intro w hSw; (try dsimp only at hSw); go_simp; first | done | with_reducible rfl
            try simp only [Act.put, List.setIfInBounds_toArray, List.set_cons_zero, List.set_cons_succ]
            refine dag_take (i := 19) (d := some 71) (v := ?v19n45) rfl rfl (by kernel_rfl) (by kernel_rfl) (by kernel_rfl) (fun _ _ _ h => h) (Or.inl ⟨by rfl, ?y19n45⟩) hS ?_
            case y19n45 => intro w hSw; (try dsimp only at hSw); go_simp; first | done | with_reducible rfl
            try simp only [Act.put, List.setIfInBounds_toArray, List.set_cons_zero, List.set_cons_succ]
            refine wpAnyH_ready (rs := [18]) (by kernel_rfl) (by simp) ?_
            refine AllReadyH.cons rfl (fun Kc hK => ?_) AllReadyH.nil
            go_simp
            go_fit (wform_any _ m s (by omega) _ _ HX.out.2.2.1)
            rintro e V ⟨rfl, hq⟩
            refine hK.out _ _ (hb3 hq hS) (fun hS' => ?_)
            exact IH.out _ _ _ _ (by omega) (Or.inr (Or.inl (⟨rfl, by kernel_rfl, _, _, _, _, _, _, _, _, _, _, _, _, _, _, _, _, rfl, hS'⟩)))
          rcases hI with ⟨rfl, rfl, x52, x53, x54, x55, x56, x57, x58, x59, x60, x61, x62, x63, x64, x65, x67, x69, rfl, hS⟩ | hI
          · refine wpAnyH_ready (rs := [20]) (by kernel_rfl) (by simp) ?_
            refine AllReadyH.cons rfl (fun Kc hK => ?_) AllReadyH.nil
            go_simp
            go_fit (wform_any _ n t (by omega) _ _ HX.out.2.2.2)
            rintro e V ⟨rfl, hq⟩
            refine hK.out _ _ (hb3 hq hS) (fun hS' => ?_)
            exact IH.out _ _ _ _ (by omega) (Or.inr (Or.inr (Or.inl (⟨rfl, by kernel_rfl, _, _, _, _, _, _, _, _, _, _, _, _, _, _, _, _, _, rfl, hS'⟩))))
          rcases hI with ⟨rfl, rfl, x52, x53, x54, x55, x56, x57, x58, x59, x60, x61, x62, x63, x64, x65, x67, x69, x71, rfl, hS⟩ | hI
          · refine dag_take (i := 21) (d := some 73) (v := ?v21n46) rfl rfl (by kernel_rfl) (by kernel_rfl) (by kernel_rfl) (fun _ _ _ h => h) (Or.inl ⟨by rfl, ?y21n46⟩) hS ?_
            case y21n46 => intro w hSw; (try dsimp only at hSw); go_simp; first | done | with_reducible rfl
            try simp only [Act.put, List.setIfInBounds_toArray, List.set_cons_zero, List.set_cons_succ]
            refine dag_take (i := 22) (d := some 74) (v := ?v22n47) rfl rfl (by kernel_rfl) (by kernel_rfl) (by kernel_rfl) (fun _ _ _ h => h) (Or.inl ⟨by rfl, ?y22n47⟩) hS ?_
            case y22n47 => intro w hSw; (try dsimp only at hSw); go_simp; first | done | with_reducible rfl
            try simp only [Act.put, List.setIfInBounds_toArray, List.set_cons_zero, List.set_cons_succ]
            refine dag_take (i := 23) (d := some 75) (v := ?v23n48) rfl rfl (by kernel_rfl) (by kernel_rfl) (by kernel_rfl) (fun _ _ _ h => h) (Or.inl ⟨by rfl, ?y23n48⟩) hS ?_
            case y23n48 => intro w hSw; (try dsimp only at hSw); go_simp; first | done | with_reducible rfl
            try simp only [Act.put, List.setIfInBounds_toArray, List.set_cons_zero, List.set_cons_succ]
            refine dag_take (i := 24) (d := some 76) (v := ?v24n49) rfl rfl (by kernel_rfl) (by kernel_rfl) (by kernel_rfl) (fun _ _ _ h => h) (Or.inl ⟨by rfl, ?y24n49⟩) hS ?_
            case y24n49 => intro w hSw; (try dsimp only at hSw); go_simp; first | done | with_reducible rfl
            try simp only [Act.put, List.setIfInBounds_toArray, List.set_cons_zero, List.set_cons_succ]
            refine wpAnyH_ready (rs := [25]) (by kernel_rfl) (by simp) ?_
            refine AllReadyH.cons rfl (fun Kc hK => ?_) AllReadyH.nil
            go_simp
            go_fit (wawake_any _)
            rintro e V ⟨rfl, hq⟩
            refine hK.out _ _ (hb3 hq hS) (fun hS' => ?_)
            exact IH.out _ _ _ _ (by omega) (Or.inr (Or.inr (Or.inr (⟨rfl, by kernel_rfl, _, _, _, _, _, _, _, _, _, _, _, _, _, _, _, _, _, _, _, _, _, _, _, _, rfl, hS'⟩))))
          obtain ⟨rfl, rfl, x52, x53, x54, x55, x56, x57, x58, x59, x60, x61, x62, x63, x64, x65, x66, x67, x68, x69, x70, x71, x72, x73, x74, x75, rfl, hS⟩ := hI
          refine dag_take (i := 26) (d := some 78) (v := ?v26n50) rfl rfl (by kernel_rfl) (by kernel_rfl) (by kernel_rfl) (fun _ _ _ h => h) (Or.inl ⟨by rfl, ?y26n50⟩) hS ?_
          case y26n50 => intro w hSw; (try dsimp only at hSw); go_simp; first | done | with_reducible rfl
          try simp only [Act.put, List.setIfInBounds_toArray, List.set_cons_zero, List.set_cons_succ]
          refine dag_take (i := 27) (d := some 6) (v := ?v27n51) rfl rfl (by kernel_rfl) (by kernel_rfl) (by kernel_rfl) (fun _ _ _ h => h) (Or.inl ⟨by rfl, ?y27n51⟩) hS ?_
          case y27n51 => intro w hSw; (try dsimp only at hSw); go_simp; first | done | with_reducible rfl
          try simp only [Act.put, List.setIfInBounds_toArray, List.set_cons_zero, List.set_cons_succ]
          refine wpAnyH_done (by kernel_rfl) ?_ _
          go_wp2
          go_ret
          exact ⟨rfl, hS.1⟩
end Go.Proofs.YtemlhloipjbecaaGreatDoor
