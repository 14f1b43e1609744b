/- Layer 1, laid together: BX1, BX2. -/
import Derived.Test.YtbijggomdpaknaaGreatDoorS5
import Derived.Test.YtbijggomdpaknaaGreatDoorBD
import Derived.Test.YtbijggomdpaknaaGreatDoorBXApp
import Derived.Deep.CutBlock
/- Package box: each; walked. -/
namespace Go.Proofs.YtbijggomdpaknaaGreatDoor
open Go.RowKit Go.Shelf

theorem infoSz : (Tryz.prog.info? 41).map (fun i => (i.zero, i.size, i.bytes)) = some (some (.agg #[.bool false, .string ⟨#[]⟩, .int .i64 0, .bool false, .string ⟨#[]⟩, .int .i64 0]), 6, 64) := by kernel_rfl
theorem made_spans (n : Nat) : madeCells (Value.cells (.agg #[.bool false, .string ⟨#[]⟩, .int .i64 0, .bool false, .string ⟨#[]⟩, .int .i64 0])) (n * 6) = (ncells (noughts (2 * n))).toArray := by
  have hz : Value.cells (.agg #[.bool false, .string ⟨#[]⟩, .int .i64 0, .bool false, .string ⟨#[]⟩, .int .i64 0]) = #[.bool false, .string ⟨#[]⟩, .int .i64 0, .bool false, .string ⟨#[]⟩, .int .i64 0] := rfl
  rw [hz]
  apply Array.toList_inj.1
  unfold madeCells noughts
  rw [Array.toList_map, Array.toList_range, List.toList_toArray]
  induction n with
  | zero => rfl
  | succ n ih =>
    have h1 : (List.replicate (2 * (n + 1)) ((false, ⟨#[]⟩, 0) : NV)) = List.replicate (2 * n) (false, ⟨#[]⟩, 0) ++ [(false, ⟨#[]⟩, 0), (false, ⟨#[]⟩, 0)] := by
      rw [show 2 * (n + 1) = 2 * n + 1 + 1 by omega, List.replicate_succ', List.replicate_succ', List.append_assoc]; rfl
    rw [h1, ncells_app, ← ih]
    rw [show (n + 1) * 6 = n * 6 + 1 + 1 + 1 + 1 + 1 + 1 by omega]
    simp only [List.range_succ, List.map_append, List.append_assoc]
    congr 1
    simp [ncells, Nat.add_mod]
theorem make_spans (n : Nat) (hmax : n ≤ 1000000) : ∀ w : World,
    (Instr.makeSlice 22 (.int .i64 n) (.int .i64 n)).run Tryz.prog w = .ok (.slice (some ⟨w.heap.size, 0, none⟩) n n) (w.alloc (.cells (ncells (noughts (2 * n))).toArray 41)) := by
  intro w
  obtain ⟨i, hi, hz, hs, hb⟩ := info_parts infoSz
  have h := run_make (P := Tryz.prog) w 22 41 i _ Tryz.underlying22 hi hz .i64 .i64 (n : Int) (n : Int) (by omega) (by omega) (by rw [hb]; omega) (by omega)
  rw [h, hs]
  simp only [Int.toNat_natCast]
  rw [made_spans]
/-- The first k are written. -/
def fillO (O : List NV) (k : Nat) : List NV := O.take k ++ noughts (O.length - k)
theorem fillO_len {O : List NV} {k : Nat} (hk : k ≤ O.length) : (fillO O k).length = O.length := by
  unfold fillO noughts
  rw [List.length_append, List.length_take, List.length_replicate]
  omega
theorem fillO_set {O : List NV} {k : Nat} (hk : k < O.length) : (fillO O k).set k O[k] = fillO O (k + 1) := by
  unfold fillO noughts
  obtain ⟨j, hj⟩ : ∃ j, O.length - k = j + 1 := ⟨O.length - k - 1, by omega⟩
  rw [List.set_append_right _ _ (by rw [List.length_take]; omega), List.length_take, show k - min k O.length = 0 by omega, hj, List.replicate_succ, List.set_cons_zero, show O.length - (k + 1) = j by omega, List.take_succ_eq_append_getElem hk, List.append_assoc]
  rfl
theorem fillO_all {O : List NV} : fillO O O.length = O := by
  unfold fillO noughts
  rw [List.take_of_length_le (Nat.le_refl _), Nat.sub_self]
  simp
/-- New memory that holds these numbers, as a row of n elements. -/
def RowN (w : World) (O : List NV) (n : Nat) : Ending → World → Prop := fun e w' => ∃ g, e = .returned (.slice (some ⟨g, 0, none⟩) n n) ∧ w.heap.size ≤ g ∧ Rn w' g O ∧ Below w.heap.size w w'

set_option maxRecDepth 100000 in
set_option maxHeartbeats 3200000 in
theorem eachN_any (w : World) (f : Nat) (caps : Array Value) (hgo : ∀ (aa : Array Value) (W : World), Sem.run Tryz.prog (callFunc f aa) W = .ok (.enter f aa) W) (ad : Option Addr) (l : List SV) (n c : Nat) (hn : l.length = n) (hmax : n ≤ 1000) (hl : SAt w ad l) (hs : ∀ x ∈ l, O2 x)
    (O : List NV) (ho : O.length = n) (hcall : ∀ i (h : i < l.length) (h2 : i < O.length) W, Below w.heap.size w W → Calls Tryz.prog f (#[.int .i64 i, sagg (fS l[i])] ++ caps) W (Ret (nagg O[i]) W)) :
    Calls Tryz.prog 56 #[.slice ad n c, .func (.func f) #[] caps] w (RowN w O n) := by
  have HC := Lib.hid (And.intro hn (And.intro hs (And.intro ho hcall)))
  clear hn hs ho hcall
  have hmk := make_nums n (by omega) w
  have hb := (Below.refl w.heap.size w).alloc (Nat.le_refl _) (Obj.cells (ncells (noughts n)).toArray 36)
  have hP0 : Rn (w.alloc (Obj.cells (ncells (noughts n)).toArray 36)) w.heap.size (fillO O 0) := by
    unfold fillO
    rw [HC.out.2.2.1]; exact Rn.new _ _ _ _ rfl
  go_enter Tryz.func56, Tryz.ntmps56
  go_wp2
  clear hmk
  generalize (w.alloc (Obj.cells (ncells (noughts n)).toArray 36)) = W0 at *
  go_loopw [13] (fun i wr => ∃ k : Nat, k ≤ n ∧ i = .int .i64 k ∧ Rn wr w.heap.size (fillO O k) ∧ Below w.heap.size w wr) (fun i _ => n - intY i)
  case atStart => exact ⟨0, Nat.zero_le _, rfl, hP0, hb⟩
  case round =>
    clear hP0 hb
    obtain ⟨k, hk, rfl, hP, hb⟩ := hrel
    by_cases hlt : k < n
    · have hkl : k < l.length := by rw [HC.out.1]; exact hlt
      have hkO : k < O.length := by rw [HC.out.2.2.1]; exact hlt
      obtain ⟨lb, lo, rfl, hlb, ⟨c0, c1, c2⟩, c3, c4, c5⟩ := hl k hkl
      have hok := HC.out.2.1 _ (List.getElem_mem hkl)
      have hcall := HC.out.2.2.2 k hkl hkO
      have hf := fillO_set hkO
      have hPn : k < (fillO O k).length := by rw [fillO_len (Nat.le_of_lt hkO)]; exact hkO
      generalize O[k] = y at *
      generalize l[k] = x at *
      have hcf := fun W => c_form W x hok
      generalize fS x = u at *
      obtain ⟨⟨m1, s1, d1⟩, n1, t1, e1⟩ := x
      obtain ⟨⟨m2, s2, d2⟩, n2, t2, e2⟩ := u
      obtain ⟨m3, s3, d3⟩ := y
      simp only at c0 c1 c2 c3 c4 c5
      replace c0 : wr.cell? ⟨lb, lo + k * 6, none⟩ = some (.bool m1) := by rw [hb.cell hlb]; exact c0
      replace c1 : wr.cell? ⟨lb, lo + k * 6 + 1, none⟩ = some (.string s1) := by rw [hb.cell hlb]; exact c1
      replace c2 : wr.cell? ⟨lb, lo + k * 6 + 2, none⟩ = some (.int .i64 d1) := by rw [hb.cell hlb]; exact c2
      replace c3 : wr.cell? ⟨lb, lo + k * 6 + 3, none⟩ = some (.bool n1) := by rw [hb.cell hlb]; exact c3
      replace c4 : wr.cell? ⟨lb, lo + k * 6 + 4, none⟩ = some (.string t1) := by rw [hb.cell hlb]; exact c4
      replace c5 : wr.cell? ⟨lb, lo + k * 6 + 5, none⟩ = some (.int .i64 e1) := by rw [hb.cell hlb]; exact c5
      replace hcf : ∀ W, Calls Tryz.prog 63 #[.agg #[.bool m1, .string s1, .int .i64 d1, .bool n1, .string t1, .int .i64 e1]] W (Ret (.agg #[.bool m2, .string s2, .int .i64 d2, .bool n2, .string t2, .int .i64 e2]) W) := hcf
      replace hcall : ∀ W, Below w.heap.size w W → Calls Tryz.prog f (#[.int .i64 k, .agg #[.bool m2, .string s2, .int .i64 d2, .bool n2, .string t2, .int .i64 e2]] ++ caps) W (Ret (.agg #[.bool m3, .string s3, .int .i64 d3]) W) := hcall
      have HX := Lib.hid (And.intro hcall (And.intro hcf hf))
      clear hok hcall hcf hf
      have hS := Sk.new wr 41 m1 s1 d1 n1 t1 e1
      replace hb := hb.alloc hb.size (Obj.cells #[Value.bool m1, Value.string s1, Value.int IntKind.i64 d1, Value.bool n1, Value.string t1, Value.int IntKind.i64 e1] 41)
      replace hP := hP.alloc (Obj.cells #[Value.bool m1, Value.string s1, Value.int IntKind.i64 d1, Value.bool n1, Value.string t1, Value.int IntKind.i64 e1] 41)
      obtain ⟨S0, S1, S2, S3, S4, S5⟩ := hS.cells
      go_wp2_with fail
      clear c0 c1 c2 c3 c4 c5 S0 S1 S2 S3 S4 S5 hS
      generalize (wr.alloc (Obj.cells #[Value.bool m1, Value.string s1, Value.int IntKind.i64 d1, Value.bool n1, Value.string t1, Value.int IntKind.i64 e1] 41)) = W1 at *
      refine (HX.out.2.1 _).mono ?_
      rintro e' V ⟨rfl, hq⟩
      replace hb := below_next hb hq
      replace hP := hP.below hq
      clear hq
      go_wp2_with fail
      refine (HX.out.1 _ hb).mono ?_
      rintro e' V2 ⟨rfl, hq⟩
      replace hb := below_next hb hq
      replace hP := hP.below hq
      clear hq
      obtain ⟨P0, P1, P2, P3, P4, P5⟩ := hP.facts k hPn
      go_wp2_with fail
      clear P0 P1 P2 P3 P4 P5
      have hP2 := hP.set_ k (m3, s3, d3)
      rw [HX.out.2.2] at hP2
      exact ⟨⟨k + 1, hlt, rfl, hP2, ((hb.setCell (Nat.le_refl _) _).setCell (Nat.le_refl _) _).setCell (Nat.le_refl _) _⟩, by simp [intY]; omega⟩
    · obtain rfl : k = n := by omega
      go_wp2
      go_ret
      refine ⟨w.heap.size, rfl, Nat.le_refl _, ?_, hb⟩
      have hn := HC.out.2.2.1
      rw [← hn, fillO_all] at hP
      exact hP

set_option maxRecDepth 100000 in
set_option maxHeartbeats 3200000 in
theorem eachS_any (w : World) (f : Nat) (caps : Array Value) (hgo : ∀ (aa : Array Value) (W : World), Sem.run Tryz.prog (callFunc f aa) W = .ok (.enter f aa) W) (ad : Option Addr) (l : List SV) (n c : Nat) (hn : l.length = n) (hmax : n ≤ 1000) (hl : SAt w ad l) (hs : ∀ x ∈ l, O2 x)
    (O : List SV) (ho : O.length = n) (hcall : ∀ i (h : i < l.length) (h2 : i < O.length) W, Below w.heap.size w W → Calls Tryz.prog f (#[.int .i64 i, sagg (fS l[i])] ++ caps) W (Ret (sagg O[i]) W)) :
    Calls Tryz.prog 28 #[.slice ad n c, .func (.func f) #[] caps] w (RowN w (flat O) n) := by
  have HC := Lib.hid (And.intro hn (And.intro hs (And.intro ho hcall)))
  clear hn hs ho hcall
  have hmk := make_spans n (by omega) w
  have hb := (Below.refl w.heap.size w).alloc (Nat.le_refl _) (Obj.cells (ncells (noughts (2 * n))).toArray 41)
  have hP0 : Rn (w.alloc (Obj.cells (ncells (noughts (2 * n))).toArray 41)) w.heap.size (fillO (flat O) 0) := by
    unfold fillO
    rw [flat_len, HC.out.2.2.1]; exact Rn.new _ _ _ _ rfl
  go_enter Tryz.func28, Tryz.ntmps28
  go_wp2
  clear hmk
  generalize (w.alloc (Obj.cells (ncells (noughts (2 * n))).toArray 41)) = W0 at *
  go_loopw [13] (fun i wr => ∃ k : Nat, k ≤ n ∧ i = .int .i64 k ∧ Rn wr w.heap.size (fillO (flat O) (2 * k)) ∧ Below w.heap.size w wr) (fun i _ => n - intY i)
  case atStart => exact ⟨0, Nat.zero_le _, rfl, hP0, hb⟩
  case round =>
    clear hP0 hb
    obtain ⟨k, hk, rfl, hP, hb⟩ := hrel
    by_cases hlt : k < n
    · have hkl : k < l.length := by rw [HC.out.1]; exact hlt
      have hkO : k < O.length := by rw [HC.out.2.2.1]; exact hlt
      obtain ⟨lb, lo, rfl, hlb, ⟨c0, c1, c2⟩, c3, c4, c5⟩ := hl k hkl
      have hok := HC.out.2.1 _ (List.getElem_mem hkl)
      have hcall := HC.out.2.2.2 k hkl hkO
      obtain ⟨hk0, hk1⟩ : 2 * k < (flat O).length ∧ 2 * k + 1 < (flat O).length := by rw [flat_len]; omega
      have hfa := fillO_set hk0
      have hf := fillO_set hk1
      obtain ⟨hy0, hy1⟩ := flat_get O k hkO
      rw [List.getElem?_eq_getElem hk0, Option.some.injEq] at hy0
      rw [List.getElem?_eq_getElem hk1, Option.some.injEq] at hy1
      rw [hy0] at hfa
      rw [hy1, ← hfa] at hf
      clear hfa hy0 hy1
      have hPn : 2 * k < (fillO (flat O) (2 * k)).length := by rw [fillO_len (Nat.le_of_lt hk0)]; exact hk0
      have hPm : 2 * k + 1 < (fillO (flat O) (2 * k)).length := by rw [fillO_len (Nat.le_of_lt hk0)]; exact hk1
      generalize O[k] = y at *
      generalize l[k] = x at *
      have hcf := fun W => c_form W x hok
      generalize fS x = u at *
      obtain ⟨⟨m1, s1, d1⟩, n1, t1, e1⟩ := x
      obtain ⟨⟨m2, s2, d2⟩, n2, t2, e2⟩ := u
      obtain ⟨⟨m3, s3, d3⟩, n3, t3, e3⟩ := y
      simp only at c0 c1 c2 c3 c4 c5
      replace c0 : wr.cell? ⟨lb, lo + k * 6, none⟩ = some (.bool m1) := by rw [hb.cell hlb]; exact c0
      replace c1 : wr.cell? ⟨lb, lo + k * 6 + 1, none⟩ = some (.string s1) := by rw [hb.cell hlb]; exact c1
      replace c2 : wr.cell? ⟨lb, lo + k * 6 + 2, none⟩ = some (.int .i64 d1) := by rw [hb.cell hlb]; exact c2
      replace c3 : wr.cell? ⟨lb, lo + k * 6 + 3, none⟩ = some (.bool n1) := by rw [hb.cell hlb]; exact c3
      replace c4 : wr.cell? ⟨lb, lo + k * 6 + 4, none⟩ = some (.string t1) := by rw [hb.cell hlb]; exact c4
      replace c5 : wr.cell? ⟨lb, lo + k * 6 + 5, none⟩ = some (.int .i64 e1) := by rw [hb.cell hlb]; exact c5
      replace hcf : ∀ W, Calls Tryz.prog 63 #[.agg #[.bool m1, .string s1, .int .i64 d1, .bool n1, .string t1, .int .i64 e1]] W (Ret (.agg #[.bool m2, .string s2, .int .i64 d2, .bool n2, .string t2, .int .i64 e2]) W) := hcf
      replace hcall : ∀ W, Below w.heap.size w W → Calls Tryz.prog f (#[.int .i64 k, .agg #[.bool m2, .string s2, .int .i64 d2, .bool n2, .string t2, .int .i64 e2]] ++ caps) W (Ret (.agg #[.bool m3, .string s3, .int .i64 d3, .bool n3, .string t3, .int .i64 e3]) W) := hcall
      have HX := Lib.hid (And.intro hcall (And.intro hcf hf))
      clear hok hcall hcf hf
      have hS := Sk.new wr 41 m1 s1 d1 n1 t1 e1
      replace hb := hb.alloc hb.size (Obj.cells #[Value.bool m1, Value.string s1, Value.int IntKind.i64 d1, Value.bool n1, Value.string t1, Value.int IntKind.i64 e1] 41)
      replace hP := hP.alloc (Obj.cells #[Value.bool m1, Value.string s1, Value.int IntKind.i64 d1, Value.bool n1, Value.string t1, Value.int IntKind.i64 e1] 41)
      obtain ⟨S0, S1, S2, S3, S4, S5⟩ := hS.cells
      go_wp2_with fail
      clear c0 c1 c2 c3 c4 c5 S0 S1 S2 S3 S4 S5 hS
      generalize (wr.alloc (Obj.cells #[Value.bool m1, Value.string s1, Value.int IntKind.i64 d1, Value.bool n1, Value.string t1, Value.int IntKind.i64 e1] 41)) = W1 at *
      refine (HX.out.2.1 _).mono ?_
      rintro e' V ⟨rfl, hq⟩
      replace hb := below_next hb hq
      replace hP := hP.below hq
      clear hq
      go_wp2_with fail
      refine (HX.out.1 _ hb).mono ?_
      rintro e' V2 ⟨rfl, hq⟩
      replace hb := below_next hb hq
      replace hP := hP.below hq
      clear hq
      obtain ⟨P0, P1, P2, P3, P4, P5⟩ := hP.facts (2 * k) hPn
      obtain ⟨R0, R1, R2, R3, R4, R5⟩ := hP.facts (2 * k + 1) hPm
      rw [show 2 * k * 3 = k * 6 by omega] at P0 P1 P2 P3 P4 P5
      rw [show (2 * k + 1) * 3 = k * 6 + 3 by omega] at R0 R1 R2 R3 R4 R5
      go_wp2_with fail
      clear P0 P1 P2 P3 P4 P5 R0 R1 R2 R3 R4 R5
      have hP2 := (hP.set_ (2 * k) (m3, s3, d3)).set_ (2 * k + 1) (n3, t3, e3)
      rw [HX.out.2.2] at hP2
      rw [show 2 * k * 3 = k * 6 by omega, show (2 * k + 1) * 3 = k * 6 + 3 by omega] at hP2
      exact ⟨⟨k + 1, hlt, rfl, hP2, (((((hb.setCell (Nat.le_refl _) _).setCell (Nat.le_refl _) _).setCell (Nat.le_refl _) _).setCell (Nat.le_refl _) _).setCell (Nat.le_refl _) _).setCell (Nat.le_refl _) _⟩, by simp [intY]; omega⟩
    · obtain rfl : k = n := by omega
      go_wp2
      go_ret
      refine ⟨w.heap.size, rfl, Nat.le_refl _, ?_, hb⟩
      have hn := HC.out.2.2.1
      rw [← hn, ← flat_len, fillO_all] at hP
      exact hP
end Go.Proofs.YtbijggomdpaknaaGreatDoor
/- Package box: closures, Form, Mid, widths; walked. -/
namespace Go.Proofs.YtbijggomdpaknaaGreatDoor
open Go.RowKit Go.Shelf
theorem goes_bform1 (aa : Array Value) (W : World) : Sem.run Tryz.prog (callFunc 29 aa) W = .ok (.enter 29 aa) W := by kernel_rfl
theorem goes_bmid1 (aa : Array Value) (W : World) : Sem.run Tryz.prog (callFunc 57 aa) W = .ok (.enter 57 aa) W := by kernel_rfl
theorem goes_bwid1 (aa : Array Value) (W : World) : Sem.run Tryz.prog (callFunc 75 aa) W = .ok (.enter 75 aa) W := by kernel_rfl
theorem goes_shas (aa : Array Value) (W : World) : Sem.run Tryz.prog (callFunc 36 aa) W = .ok (.enter 36 aa) W := by kernel_rfl
theorem goes_swithin (aa : Array Value) (W : World) : Sem.run Tryz.prog (callFunc 39 aa) W = .ok (.enter 39 aa) W := by kernel_rfl
theorem goes_bcheck1 (aa : Array Value) (W : World) : Sem.run Tryz.prog (callFunc 30 aa) W = .ok (.enter 30 aa) W := by kernel_rfl

set_option maxRecDepth 100000 in
set_option maxHeartbeats 1600000 in
theorem bform1_any (w : World) (i : Int) (x : SV) : Calls Tryz.prog 29 (#[.int .i64 i, sagg x] ++ #[]) w (Ret (sagg x) w) := by
  obtain ⟨⟨m, s, d⟩, n, t, e⟩ := x
  show Calls Tryz.prog 29 #[.int .i64 i, .agg #[.bool m, .string s, .int .i64 d, .bool n, .string t, .int .i64 e]] w (Ret (.agg #[.bool m, .string s, .int .i64 d, .bool n, .string t, .int .i64 e]) w)
  go_enter Tryz.func29, Tryz.ntmps29
  go_upto_region 1 with fail
  have hA := Sk.new w 41 m s d n t e
  have hb := (Below.refl w.heap.size w).alloc (Nat.le_refl _) (Obj.cells #[Value.bool m, Value.string s, Value.int IntKind.i64 d, Value.bool n, Value.string t, Value.int IntKind.i64 e] 41)
  have hR := Sk.new ((w.alloc (Obj.cells #[Value.bool m, Value.string s, Value.int IntKind.i64 d, Value.bool n, Value.string t, Value.int IntKind.i64 e] 41))) 41 false ⟨#[]⟩ 0 false ⟨#[]⟩ 0
  simp only [World.size_alloc] at hR
  replace hA := hA.alloc (Obj.cells #[Value.bool false, Value.string { data := #[] }, Value.int IntKind.i64 0, Value.bool false, Value.string { data := #[] }, Value.int IntKind.i64 0] 41)
  replace hb := hb.alloc (by simp only [World.size_alloc]; omega) (Obj.cells #[Value.bool false, Value.string { data := #[] }, Value.int IntKind.i64 0, Value.bool false, Value.string { data := #[] }, Value.int IntKind.i64 0] 41)
  generalize ((w.alloc (Obj.cells #[Value.bool m, Value.string s, Value.int IntKind.i64 d, Value.bool n, Value.string t, Value.int IntKind.i64 e] 41)).alloc (Obj.cells #[Value.bool false, Value.string { data := #[] }, Value.int IntKind.i64 0, Value.bool false, Value.string { data := #[] }, Value.int IntKind.i64 0] 41)) = W0 at *
  obtain ⟨hA0, hA1, hA2, hA3, hA4, hA5⟩ := hA.cells
  obtain ⟨hR0, hR1, hR2, hR3, hR4, hR5, hR6, hR7, hR8, hR9, hR10, hR11⟩ := hR.facts
  go_wp2
  exact ret_span rfl rfl (hR.set6 _ _ _ _ _ _) ⟨rfl, below_set6 hb (by omega) _ _ _ _ _ _⟩

set_option maxRecDepth 100000 in
set_option maxHeartbeats 1600000 in
theorem bmid1_any (w : World) (i : Int) (x : SV) (h : O3 x) : Calls Tryz.prog 57 (#[.int .i64 i, sagg x] ++ #[]) w (Ret (nagg (canonN (mS x))) w) := by
  have hc := fun W => c_mid W x h
  clear h
  generalize (canonN (mS x)) = y at *
  obtain ⟨⟨m, s, d⟩, n, t, e⟩ := x
  obtain ⟨m3, s3, d3⟩ := y
  replace hc : ∀ W, Calls Tryz.prog 58 #[.agg #[.bool m, .string s, .int .i64 d, .bool n, .string t, .int .i64 e]] W (Ret (.agg #[.bool m3, .string s3, .int .i64 d3]) W) := hc
  show Calls Tryz.prog 57 #[.int .i64 i, .agg #[.bool m, .string s, .int .i64 d, .bool n, .string t, .int .i64 e]] w (Ret (.agg #[.bool m3, .string s3, .int .i64 d3]) w)
  go_enter Tryz.func57, Tryz.ntmps57
  go_wp2_with fail
  have hA := Sk.new w 41 m s d n t e
  have hb := (Below.refl w.heap.size w).alloc (Nat.le_refl _) (Obj.cells #[Value.bool m, Value.string s, Value.int IntKind.i64 d, Value.bool n, Value.string t, Value.int IntKind.i64 e] 41)
  have hR := Nk.new ((w.alloc (Obj.cells #[Value.bool m, Value.string s, Value.int IntKind.i64 d, Value.bool n, Value.string t, Value.int IntKind.i64 e] 41))) false ⟨#[]⟩ 0
  simp only [World.size_alloc] at hR
  replace hA := hA.alloc (Obj.cells #[Value.bool false, Value.string { data := #[] }, Value.int IntKind.i64 0] 36)
  replace hb := hb.alloc (by simp only [World.size_alloc]; omega) (Obj.cells #[Value.bool false, Value.string { data := #[] }, Value.int IntKind.i64 0] 36)
  generalize ((w.alloc (Obj.cells #[Value.bool m, Value.string s, Value.int IntKind.i64 d, Value.bool n, Value.string t, Value.int IntKind.i64 e] 41)).alloc (Obj.cells #[Value.bool false, Value.string { data := #[] }, Value.int IntKind.i64 0] 36)) = W0 at *
  refine (hc _).mono ?_
  rintro e' W ⟨rfl, hq⟩
  replace hb := below_next hb hq
  replace hR := hR.below hq
  clear hq
  obtain ⟨hR0, hR1, hR2, hR3, hR4, hR5⟩ := hR.facts
  go_wp2
  exact ret_num rfl rfl (hR.set3 _ _ _) ⟨rfl, below_set3 hb (by omega) _ _ _ _ _ _⟩

set_option maxRecDepth 100000 in
set_option maxHeartbeats 1600000 in
theorem bwid1_any (w : World) (i : Int) (x : SV) (h : O3 x) : Calls Tryz.prog 75 (#[.int .i64 i, sagg x] ++ #[]) w (Ret (nagg (canonN (wS x))) w) := by
  have hc := fun W => c_width W x h
  clear h
  generalize (canonN (wS x)) = y at *
  obtain ⟨⟨m, s, d⟩, n, t, e⟩ := x
  obtain ⟨m3, s3, d3⟩ := y
  replace hc : ∀ W, Calls Tryz.prog 62 #[.agg #[.bool m, .string s, .int .i64 d, .bool n, .string t, .int .i64 e]] W (Ret (.agg #[.bool m3, .string s3, .int .i64 d3]) W) := hc
  show Calls Tryz.prog 75 #[.int .i64 i, .agg #[.bool m, .string s, .int .i64 d, .bool n, .string t, .int .i64 e]] w (Ret (.agg #[.bool m3, .string s3, .int .i64 d3]) w)
  go_enter Tryz.func75, Tryz.ntmps75
  go_wp2_with fail
  have hA := Sk.new w 41 m s d n t e
  have hb := (Below.refl w.heap.size w).alloc (Nat.le_refl _) (Obj.cells #[Value.bool m, Value.string s, Value.int IntKind.i64 d, Value.bool n, Value.string t, Value.int IntKind.i64 e] 41)
  have hR := Nk.new ((w.alloc (Obj.cells #[Value.bool m, Value.string s, Value.int IntKind.i64 d, Value.bool n, Value.string t, Value.int IntKind.i64 e] 41))) false ⟨#[]⟩ 0
  simp only [World.size_alloc] at hR
  replace hA := hA.alloc (Obj.cells #[Value.bool false, Value.string { data := #[] }, Value.int IntKind.i64 0] 36)
  replace hb := hb.alloc (by simp only [World.size_alloc]; omega) (Obj.cells #[Value.bool false, Value.string { data := #[] }, Value.int IntKind.i64 0] 36)
  generalize ((w.alloc (Obj.cells #[Value.bool m, Value.string s, Value.int IntKind.i64 d, Value.bool n, Value.string t, Value.int IntKind.i64 e] 41)).alloc (Obj.cells #[Value.bool false, Value.string { data := #[] }, Value.int IntKind.i64 0] 36)) = W0 at *
  refine (hc _).mono ?_
  rintro e' W ⟨rfl, hq⟩
  replace hb := below_next hb hq
  replace hR := hR.below hq
  clear hq
  obtain ⟨hR0, hR1, hR2, hR3, hR4, hR5⟩ := hR.facts
  go_wp2
  exact ret_num rfl rfl (hR.set3 _ _ _) ⟨rfl, below_set3 hb (by omega) _ _ _ _ _ _⟩

/-- A span as it counts is small. -/
theorem O2.form {x : SV} (h : O2 x) : O3 (fS x) := by
  have h1 : ∀ y : NV, Ok2 y.2.1 y.2.2 → Ok3 (canonN (nvl y)).2.1 (canonN (nvl y)).2.2 := fun y k => Ok2.form (m := y.1) k (canonN_df _)
  constructor
  · show Ok3 (canonN (loS x)).2.1 (canonN (loS x)).2.2
    rcases (dlo_spec (nvl x.1) (nvl x.2)).2.2 with e | e <;> unfold loS <;> rw [e]
    · exact h1 _ h.1
    · exact h1 _ h.2
  · show Ok3 (canonN (hiS x)).2.1 (canonN (hiS x)).2.2
    rcases (dhi_spec (nvl x.1) (nvl x.2)).2.2 with e | e <;> unfold hiS <;> rw [e]
    · exact h1 _ h.1
    · exact h1 _ h.2
section
variable (w : World) (ad : Option Addr) (l : List SV) (n c : Nat) (hn : l.length = n) (hmax : n ≤ 1000) (hl : SAt w ad l) (hs : ∀ x ∈ l, O2 x)
include hn hmax hl hs

set_option maxRecDepth 100000 in
set_option maxHeartbeats 1600000 in
theorem bform_any : Calls Tryz.prog 6 #[.slice ad n c] w (RowN w (flat (l.map fS)) n) := by
  have hc := eachS_any w 29 #[] goes_bform1 ad l n c hn hmax hl hs (l.map fS) (by rw [List.length_map, hn]) (fun i h h2 W _ => by rw [List.getElem_map]; exact bform1_any W i _)
  clear hl hs
  go_enter Tryz.func6, Tryz.ntmps6
  go_wp2_with fail
  refine hc.mono ?_
  rintro e W ⟨g, rfl, hg, hR, hq⟩
  go_wp2
  go_ret
  exact ⟨g, rfl, hg, hR, hq⟩

set_option maxRecDepth 100000 in
set_option maxHeartbeats 1600000 in
theorem bmid_any : Calls Tryz.prog 25 #[.slice ad n c] w (RowN w (l.map fun x => canonN (mS x)) n) := by
  have hc := eachN_any w 57 #[] goes_bmid1 ad l n c hn hmax hl hs (l.map fun x => canonN (mS x)) (by rw [List.length_map, hn]) (fun i h h2 W _ => by rw [List.getElem_map, ← mS_fS]; exact bmid1_any W i _ (hs _ (List.getElem_mem h)).form)
  clear hl hs
  go_enter Tryz.func25, Tryz.ntmps25
  go_wp2_with fail
  refine hc.mono ?_
  rintro e W ⟨g, rfl, hg, hR, hq⟩
  go_wp2
  go_ret
  exact ⟨g, rfl, hg, hR, hq⟩

set_option maxRecDepth 100000 in
set_option maxHeartbeats 1600000 in
theorem bwidths_any : Calls Tryz.prog 40 #[.slice ad n c] w (RowN w (l.map fun x => canonN (wS x)) n) := by
  have hc := eachN_any w 75 #[] goes_bwid1 ad l n c hn hmax hl hs (l.map fun x => canonN (wS x)) (by rw [List.length_map, hn]) (fun i h h2 W _ => by rw [List.getElem_map, ← wS_fS]; exact bwid1_any W i _ (hs _ (List.getElem_mem h)).form)
  clear hl hs
  go_enter Tryz.func40, Tryz.ntmps40
  go_wp2_with fail
  refine hc.mono ?_
  rintro e W ⟨g, rfl, hg, hR, hq⟩
  go_wp2
  go_ret
  exact ⟨g, rfl, hg, hR, hq⟩
end
end Go.Proofs.YtbijggomdpaknaaGreatDoor
