/- Package ogeelaw11's small functions, and the document's Same, SamePoint at equal rows; walked. -/
import Derived.Test.YtbijggomdpaknaaGreatDoorBE
import Derived.Test.YtbijggomdpaknaaGreatDoorHR
import Derived.Test.YtbijggomdpaknaaGreatDoorHQ
import Derived.Deep.CutBlock
namespace Go.Proofs.YtbijggomdpaknaaGreatDoor
open Go.RowKit Go.Shelf
/-- A whole number, as three cells. -/
def iN (z : Int) : NV := canonN (.ofIntWithPrec z 0)
theorem wf_ex (z : Int) : ∃ n o, wf z = wi n o := ⟨_, _, rfl⟩
set_option maxRecDepth 100000 in
set_option maxHeartbeats 3200000 in
theorem bnum_any (w : World) (z e : Int) (h1 : -1000000000 ≤ z) (h2 : z ≤ 1000000000) (he : -10000 ≤ e ∧ e ≤ 10000) :
    Calls Tryz.prog 23 #[.int .i64 z, .int .i64 e] w (Ret (nagg (canonN (.ofIntWithPrec z (-e)))) w) := by
  obtain ⟨n, o, ho⟩ := wf_ex z
  have hz : wv n o = z := wv_of_wf ho
  have hs : o.size ≤ 90000 := by
    have h3 := (wi_inj ho).2
    rw [← h3]
    have h4 : (fb z.natAbs).size ≤ 4 := fb_size_le (by show z.natAbs < 256 ^ 4; omega)
    omega
  have hd : df (nv n o e) = nu (canonN (.ofIntWithPrec z (-e))).1 (canonN (.ofIntWithPrec z (-e))).2.1 (canonN (.ofIntWithPrec z (-e))).2.2 := by
    rw [← hz]; exact canonN_df _
  have hc1 := fun W => rof_any W z (by omega) (by omega) n o ho
  have hc2 := fun W => rmake_any W n o e hs (by omega) _ _ _ hd
  clear hd hz ho
  generalize canonN (.ofIntWithPrec z (-e)) = y at *
  obtain ⟨m3, s3, d3⟩ := y
  have HC := Lib.hid (And.intro hc1 hc2)
  clear hc1 hc2
  show Calls Tryz.prog 23 #[.int .i64 z, .int .i64 e] w (Ret (.agg #[.bool m3, .string s3, .int .i64 d3]) w)
  have hR := Nk.new w false ⟨#[]⟩ 0
  have hb := (Below.refl w.heap.size w).alloc (Nat.le_refl _) (Obj.cells #[Value.bool false, Value.string { data := #[] }, Value.int IntKind.i64 0] 36)
  go_enter Tryz.func23, Tryz.ntmps23
  go_wp2_with fail
  generalize (w.alloc (Obj.cells #[Value.bool false, Value.string { data := #[] }, Value.int IntKind.i64 0] 36)) = W0 at *
  refine (HC.out.1 _).mono ?_
  rintro e' W ⟨rfl, hq⟩
  replace hb := below_next hb hq
  replace hR := hR.below hq
  clear hq
  go_wp2_with fail
  refine (HC.out.2 _).mono ?_
  rintro e' W2 ⟨rfl, hq⟩
  replace hb := below_next hb hq
  replace hR := hR.below hq
  clear hq
  obtain ⟨hR0, hR1, hR2, hR3, hR4, hR5⟩ := hR.facts
  go_wp2
  exact ret_num rfl rfl (hR.set3 _ _ _) ⟨rfl, below_set3 hb (by omega) _ _ _ _ _ _⟩
set_option maxRecDepth 100000 in
set_option maxHeartbeats 3200000 in
theorem sameB_any (w : World) (ad bd : Option Addr) (n c c' : Nat) (l : List SV) (hl : l.length = n) (hmax : n ≤ 1000) (ha : SAt w ad l) (hb' : SAt w bd l) : Calls Tryz.prog 9 #[.slice ad n c, .slice bd n c'] w (Ret (.bool true) w) := by
  go_enter Tryz.func9, Tryz.ntmps9
  go_wp2
  go_loopw [5] (fun iv wr => ∃ i : Nat, iv = .int .i64 i ∧ i ≤ n ∧ Below w.heap.size w wr) (fun iv _ => n - (RowKit.intOf iv).toNat)
  case atStart => exact ⟨0, rfl, Nat.zero_le _, Below.refl _ _⟩
  case round =>
    obtain ⟨i, rfl, hi, hb⟩ := hrel
    by_cases hik : i < n
    · have hil : i < l.length := by omega
      obtain ⟨la, oa, rfl, hla, ⟨c0, c1, c2⟩, c3, c4, c5⟩ := ha.below hb i hil
      obtain ⟨lb, ob, rfl, hlb, ⟨b0, b1, b2⟩, b3, b4, b5⟩ := hb'.below hb i hil
      generalize l[i] = x at *
      obtain ⟨⟨m, s, d⟩, n1, t, e⟩ := x
      simp only at c0 c1 c2 c3 c4 c5 b0 b1 b2 b3 b4 b5
      have hin : (wr.drew.cell? ⟨la, oa + i * 6, none⟩ = some (.bool m) ∧ wr.drew.cell? ⟨la, oa + i * 6 + 1, none⟩ = some (.string s) ∧ wr.drew.cell? ⟨la, oa + i * 6 + 2, none⟩ = some (.int .i64 d) ∧ wr.drew.cell? ⟨la, oa + i * 6 + 3, none⟩ = some (.bool n1) ∧ wr.drew.cell? ⟨la, oa + i * 6 + 4, none⟩ = some (.string t) ∧ wr.drew.cell? ⟨la, oa + i * 6 + 5, none⟩ = some (.int .i64 e)) ∧ (wr.drew.cell? ⟨lb, ob + i * 6, none⟩ = some (.bool m) ∧ wr.drew.cell? ⟨lb, ob + i * 6 + 1, none⟩ = some (.string s) ∧ wr.drew.cell? ⟨lb, ob + i * 6 + 2, none⟩ = some (.int .i64 d) ∧ wr.drew.cell? ⟨lb, ob + i * 6 + 3, none⟩ = some (.bool n1) ∧ wr.drew.cell? ⟨lb, ob + i * 6 + 4, none⟩ = some (.string t) ∧ wr.drew.cell? ⟨lb, ob + i * 6 + 5, none⟩ = some (.int .i64 e)) ∧ Below w.heap.size w wr.drew := ⟨⟨c0, c1, c2, c3, c4, c5⟩, ⟨b0, b1, b2, b3, b4, b5⟩, hb.drew⟩
      have hi0 : (0 : Int) ≤ (i : Int) := by omega
      have hin2 : (i : Int) < n := by omega
      have hin3 : (i : Int) ≤ n := by omega
      clear ha hb' c0 c1 c2 c3 c4 c5 b0 b1 b2 b3 b4 b5 hb
      go_wp2
      go_region_held3 (fun W' => (W'.cell? ⟨la, oa + i * 6, none⟩ = some (.bool m) ∧ W'.cell? ⟨la, oa + i * 6 + 1, none⟩ = some (.string s) ∧ W'.cell? ⟨la, oa + i * 6 + 2, none⟩ = some (.int .i64 d) ∧ W'.cell? ⟨la, oa + i * 6 + 3, none⟩ = some (.bool n1) ∧ W'.cell? ⟨la, oa + i * 6 + 4, none⟩ = some (.string t) ∧ W'.cell? ⟨la, oa + i * 6 + 5, none⟩ = some (.int .i64 e)) ∧ (W'.cell? ⟨lb, ob + i * 6, none⟩ = some (.bool m) ∧ W'.cell? ⟨lb, ob + i * 6 + 1, none⟩ = some (.string s) ∧ W'.cell? ⟨lb, ob + i * 6 + 2, none⟩ = some (.int .i64 d) ∧ W'.cell? ⟨lb, ob + i * 6 + 3, none⟩ = some (.bool n1) ∧ W'.cell? ⟨lb, ob + i * 6 + 4, none⟩ = some (.string t) ∧ W'.cell? ⟨lb, ob + i * 6 + 5, none⟩ = some (.int .i64 e)) ∧ Below w.heap.size w W') (first | assumption) (first | fail)
      all_goals
        have hb := hin.2.2
        go_wp2
        exact ⟨⟨i + 1, rfl, hik, hb⟩, by simp [RowKit.intOf]; omega⟩
    · obtain rfl : i = n := by omega
      clear ha hb'
      go_wp2
      go_ret
      exact ⟨rfl, hb⟩
set_option maxRecDepth 100000 in
set_option maxHeartbeats 3200000 in
theorem sameP_any (w : World) (ad bd : Option Addr) (n c c' : Nat) (l : List NV) (hl : l.length = n) (hmax : n ≤ 1000) (ha : NAt w ad l) (hb' : NAt w bd l) : Calls Tryz.prog 55 #[.slice ad n c, .slice bd n c'] w (Ret (.bool true) w) := by
  go_enter Tryz.func55, Tryz.ntmps55
  go_wp2
  go_loopw [5] (fun iv wr => ∃ i : Nat, iv = .int .i64 i ∧ i ≤ n ∧ Below w.heap.size w wr) (fun iv _ => n - (RowKit.intOf iv).toNat)
  case atStart => exact ⟨0, rfl, Nat.zero_le _, Below.refl _ _⟩
  case round =>
    obtain ⟨i, rfl, hi, hb⟩ := hrel
    by_cases hik : i < n
    · have hil : i < l.length := by omega
      obtain ⟨la, oa, rfl, hla, c0, c1, c2⟩ := ha.below hb i hil
      obtain ⟨lb, ob, rfl, hlb, b0, b1, b2⟩ := hb'.below hb i hil
      generalize l[i] = x at *
      obtain ⟨m, s, d⟩ := x
      simp only at c0 c1 c2 b0 b1 b2
      have hin : (wr.drew.cell? ⟨la, oa + i * 3, none⟩ = some (.bool m) ∧ wr.drew.cell? ⟨la, oa + i * 3 + 1, none⟩ = some (.string s) ∧ wr.drew.cell? ⟨la, oa + i * 3 + 2, none⟩ = some (.int .i64 d)) ∧ (wr.drew.cell? ⟨lb, ob + i * 3, none⟩ = some (.bool m) ∧ wr.drew.cell? ⟨lb, ob + i * 3 + 1, none⟩ = some (.string s) ∧ wr.drew.cell? ⟨lb, ob + i * 3 + 2, none⟩ = some (.int .i64 d)) ∧ Below w.heap.size w wr.drew := ⟨⟨c0, c1, c2⟩, ⟨b0, b1, b2⟩, hb.drew⟩
      have hi0 : (0 : Int) ≤ (i : Int) := by omega
      have hin2 : (i : Int) < n := by omega
      have hin3 : (i : Int) ≤ n := by omega
      clear ha hb' c0 c1 c2 b0 b1 b2 hb
      go_wp2
      go_region_held3 (fun W' => (W'.cell? ⟨la, oa + i * 3, none⟩ = some (.bool m) ∧ W'.cell? ⟨la, oa + i * 3 + 1, none⟩ = some (.string s) ∧ W'.cell? ⟨la, oa + i * 3 + 2, none⟩ = some (.int .i64 d)) ∧ (W'.cell? ⟨lb, ob + i * 3, none⟩ = some (.bool m) ∧ W'.cell? ⟨lb, ob + i * 3 + 1, none⟩ = some (.string s) ∧ W'.cell? ⟨lb, ob + i * 3 + 2, none⟩ = some (.int .i64 d)) ∧ Below w.heap.size w W') (first | assumption) (first | fail)
      all_goals
        have hb := hin.2.2
        go_wp2
        exact ⟨⟨i + 1, rfl, hik, hb⟩, by simp [RowKit.intOf]; omega⟩
    · obtain rfl : i = n := by omega
      clear ha hb'
      go_wp2
      go_ret
      exact ⟨rfl, hb⟩
/-- Is a number more than is gone through? -/
def farB (x : NV) : Bool := decide (30 < x.2.1.size) || decide (x.2.2 < -200) || decide (200 < x.2.2)
theorem farB_raw {x : NV} (h : farB x = false) : Raw x := by
  unfold farB at h
  simp only [Bool.or_eq_false_iff, decide_eq_false_iff_not] at h
  unfold Raw
  omega
set_option maxRecDepth 100000 in
set_option maxHeartbeats 3200000 in
theorem far_any (w : World) (m : Bool) (s : ByteArray) (d : Int) : Calls Tryz.prog 19 #[.agg #[.bool m, .string s, .int .i64 d]] w (Ret (.bool (farB (m, s, d))) w) := by
  have hA := Nk.new w m s d
  have hb := (Below.refl w.heap.size w).alloc (Nat.le_refl _) (Obj.cells #[Value.bool m, Value.string s, Value.int IntKind.i64 d] 36)
  obtain ⟨r, hr⟩ : ∃ r, farB (m, s, d) = r := ⟨_, rfl⟩
  rw [hr]
  have HR := Lib.hid hr
  clear hr
  go_enter Tryz.func19, Tryz.ntmps19
  go_upto_region 1 with fail
  generalize (w.alloc (Obj.cells #[Value.bool m, Value.string s, Value.int IntKind.i64 d] 36)) = W0 at *
  obtain ⟨A0, A1, A2⟩ := hA.cells
  by_cases h1 : 30 < s.size
  · have h1' : (30 : Int) < s.size := by omega
    obtain rfl : true = r := by rw [← HR.out]; unfold farB; rw [decide_eq_true h1]; rfl
    go_wp2
    go_ret
    exact ⟨rfl, hb⟩
  have h1' : ¬(30 : Int) < s.size := by omega
  by_cases h2 : d < -200
  · obtain rfl : true = r := by rw [← HR.out]; unfold farB; rw [decide_eq_true h2, decide_eq_false h1]; rfl
    go_wp2
    go_ret
    exact ⟨rfl, hb⟩
  by_cases h3 : 200 < d
  · obtain rfl : true = r := by rw [← HR.out]; unfold farB; rw [decide_eq_true h3, decide_eq_false h1, decide_eq_false h2]; rfl
    go_wp2
    go_ret
    exact ⟨rfl, hb⟩
  · obtain rfl : false = r := by rw [← HR.out]; unfold farB; rw [decide_eq_false h3, decide_eq_false h1, decide_eq_false h2]; rfl
    go_wp2
    go_ret
    exact ⟨rfl, hb⟩
end Go.Proofs.YtbijggomdpaknaaGreatDoor
