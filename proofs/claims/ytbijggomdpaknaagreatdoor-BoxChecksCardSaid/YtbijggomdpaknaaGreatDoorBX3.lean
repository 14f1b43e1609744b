/- Package box: Volume, Widest; walked. -/
import Derived.Test.YtbijggomdpaknaaGreatDoorBA
import Derived.Test.YtbijggomdpaknaaGreatDoorY17
import Derived.Test.YtbijggomdpaknaaGreatDoorHM
import Derived.Deep.CutBlock
namespace Go.Proofs.YtbijggomdpaknaaGreatDoor
open Go.RowKit Go.Shelf

theorem one_of : (.ofIntWithPrec 1 0 : Dyadic) = 1 := by decide +kernel
/-- The product of a row of numbers, however many. -/
theorem c_mul (w : World) (g n : Nat) (L : List NV) (hn : L.length = n) (hmax : n ≤ 100) (hR : NAt w (some ⟨g, 0, none⟩) L) (hs : ∀ x ∈ L, x.2.1.size ≤ 1000 ∧ -1000000 ≤ x.2.2 ∧ x.2.2 ≤ 1000000) :
    Calls Tryz.prog 44 #[.slice (some ⟨g, 0, none⟩) n n] w (Ret (nagg (canonN (prodD L n))) w) := by
  match n, hn with
  | 0, _ => exact ymul_none w _ 0 _ _ _ (by rw [one_of]; exact canonN_df _)
  | 1, hn =>
    match L, hn with
    | [x], _ =>
      obtain ⟨lb, lo, e, -, h1, h2, h3⟩ := hR 0 (by simp)
      have hx := hs x List.mem_cons_self
      injection e with e
      injection e with e1 e2
      subst e1 e2
      refine ymul_one w g 0 1 x.1 x.2.1 x.2.2 (by omega) (by omega) h1 h2 h3 _ _ _ ?_
      rw [show prodD [x] 1 = nv x.1 x.2.1 x.2.2 from (by show 1 * nvl x = _; rw [Dyadic.one_mul]; rfl)]
      exact canonN_df _
  | n + 2, hn => exact ymul_any w g 0 L (n + 2) (n + 2) hn (Nat.le_refl _) (by omega) hmax hs hR _ _ _ (canonN_df _)
theorem prod_vol (l : List SV) : prodD (l.map fun x => canonN (wS x)) l.length = volD l := by
  unfold prodD volD
  rw [List.take_of_length_le (by rw [List.length_map]; exact Nat.le_refl _), List.map_map]
  congr 1
  exact List.map_congr_left fun x _ => nvl_canon _
theorem width_small {l : List SV} {B E : Nat} (hs : ∀ x ∈ l, GS B E x) (hB : B ≤ 375) (hE : E ≤ 3000) : ∀ y ∈ (l.map fun x => canonN (wS x)), y.2.1.size ≤ 1000 ∧ -10000 ≤ y.2.2 ∧ y.2.2 ≤ 10000 := by
  intro y hy
  obtain ⟨x, hx, rfl⟩ := List.mem_map.1 hy
  have := (hs x hx).width.canon
  omega
set_option maxRecDepth 100000 in
set_option maxHeartbeats 1600000 in
theorem bvol_any (w : World) (ad : Option Addr) (l : List SV) (n c : Nat) (hn : l.length = n) (hmax : n ≤ 100) (hl : SAt w ad l) {B E : Nat} (hs : ∀ x ∈ l, GS B E x) (hB : B ≤ 375) (hE : E ≤ 3000) :
    Calls Tryz.prog 17 #[.slice ad n c] w (Ret (nagg (canonN (volD l))) w) := by
  have HC := Lib.hid (width_small hs hB hE)
  have hc := bwidths_any (w.alloc (Obj.cells #[Value.bool false, Value.string { data := #[] }, Value.int IntKind.i64 0] 36)) ad l n c hn (by omega) (hl.alloc _) (fun x h => (hs x h).o2)
  have hlen : (l.map fun x => canonN (wS x)).length = n := by rw [List.length_map, hn]
  have hpv := prod_vol l
  rw [hn] at hpv
  clear hs hl
  generalize (l.map fun x => canonN (wS x)) = L at *
  go_enter Tryz.func17, Tryz.ntmps17
  have hR := Nk.new w false ⟨#[]⟩ 0
  have hb := (Below.refl w.heap.size w).alloc (Nat.le_refl _) (Obj.cells #[Value.bool false, Value.string { data := #[] }, Value.int IntKind.i64 0] 36)
  go_wp2_with fail
  generalize (w.alloc (Obj.cells #[Value.bool false, Value.string { data := #[] }, Value.int IntKind.i64 0] 36)) = W0 at *
  refine hc.mono ?_
  rintro e W ⟨g, rfl, hg, hL, hq⟩
  replace hb := below_next hb hq
  replace hR := hR.below hq
  clear hq hc
  have hc := c_mul W g n L hlen hmax hL.nat (fun x h => by have := HC.out x h; omega)
  rw [hpv] at hc
  generalize canonN (volD l) = y at *
  obtain ⟨m3, s3, d3⟩ := y
  replace hc : Calls Tryz.prog 44 #[.slice (some ⟨g, 0, none⟩) n n] W (Ret (.agg #[.bool m3, .string s3, .int .i64 d3]) W) := hc
  go_wp2_with fail
  refine hc.mono ?_
  rintro e W2 ⟨rfl, hq⟩
  replace hb := below_next hb hq
  replace hR := hR.below hq
  clear hq hc
  obtain ⟨hR0, hR1, hR2, hR3, hR4, hR5⟩ := hR.facts
  go_wp2
  exact ret_num rfl rfl (hR.set3 _ _ _) ⟨rfl, below_set3 hb (by omega) _ _ _ _ _ _⟩

theorem not_take {l : List NV} {x : NV} {k : Nat} (hk : k < l.length) (h : x ∉ l.take k) (hne : ¬l[k] = x) : x ∉ l.take (k + 1) := by
  rw [List.take_succ_eq_append_getElem hk, List.mem_append]
  rintro (h1 | h1)
  · exact h h1
  · exact hne (List.mem_singleton.1 h1).symm
theorem same_text {o q : ByteArray} (h : o.toList = q.toList) : o = q := by
  rw [Lib.toList_data, Lib.toList_data] at h
  obtain ⟨⟨a⟩⟩ := o
  obtain ⟨⟨b⟩⟩ := q
  simp only at h
  rw [h]
theorem first_diff {a b : Bool} {o q : ByteArray} {i j : Int} (h : ¬((a, o, i) : NV) = (b, q, j)) : ¬a = b ∨ (a = b ∧ ¬o.toList = q.toList) ∨ (a = b ∧ o = q ∧ ¬i = j) := by
  by_cases h1 : a = b
  · by_cases h2 : o.toList = q.toList
    · exact .inr (.inr ⟨h1, same_text h2, fun h3 => h (by rw [h1, same_text h2, h3])⟩)
    · exact .inr (.inl ⟨h1, h2⟩)
  · exact .inl h1
/-- The first place of a number in a row, or -1. -/
def IdxR (L : List NV) (x : NV) (r : Int) : Prop := (∃ i : Nat, ∃ h : i < L.length, r = i ∧ L[i] = x ∧ x ∉ L.take i) ∨ (r = -1 ∧ x ∉ L)
set_option maxRecDepth 100000 in
set_option maxHeartbeats 1600000 in
theorem index_any (w : World) (ad : Option Addr) (L : List NV) (n c : Nat) (hn : L.length = n) (hmax : n ≤ 100) (hl : NAt w ad L) (m : Bool) (s : ByteArray) (d : Int) :
    Calls Tryz.prog 41 #[.slice ad n c, .agg #[.bool m, .string s, .int .i64 d]] w (fun e w' => ∃ r : Int, e = .returned (.int .i64 r) ∧ IdxR L (m, s, d) r ∧ Below w.heap.size w w') := by
  go_enter Tryz.func41, Tryz.ntmps41
  have hA := Nk.new w m s d
  have hb := (Below.refl w.heap.size w).alloc (Nat.le_refl _) (Obj.cells #[Value.bool m, Value.string s, Value.int IntKind.i64 d] 36)
  go_upto_region 1 with fail
  generalize (w.alloc (Obj.cells #[Value.bool m, Value.string s, Value.int IntKind.i64 d] 36)) = W0 at *
  go_wp2
  go_loopw [8] (fun i wr => ∃ k : Nat, k ≤ n ∧ i = .int .i64 k ∧ (m, s, d) ∉ L.take k ∧ Nk wr w.heap.size m s d ∧ Below w.heap.size w wr) (fun i _ => n - intY i)
  case atStart => exact ⟨0, Nat.zero_le _, rfl, by simp, hA, hb⟩
  case round =>
    clear hA hb
    obtain ⟨k, hk, rfl, hno, hA, hb⟩ := hrel
    by_cases hlt : k < n
    · have hkl : k < L.length := by omega
      obtain ⟨lb, lo, rfl, hlb, c0, c1, c2⟩ := hl.below hb k hkl
      have hst := not_take hkl hno
      have hyes : L[k] = (m, s, d) → IdxR L (m, s, d) k := fun e => .inl ⟨k, hkl, rfl, e, hno⟩
      generalize L[k] = y at *
      obtain ⟨m1, s1, d1⟩ := y
      simp only at c0 c1 c2
      obtain ⟨hA0, hA1, hA2⟩ := hA.cells
      by_cases hey : ((m1, s1, d1) : NV) = (m, s, d)
      · injection hey with e1 e2
        injection e2 with e2 e3
        subst e1 e2 e3
        have HY := Lib.hid (hyes rfl)
        clear hyes hst
        have hin : (wr.drew.cell? ⟨lb, lo + k * 3, none⟩ = some (.bool m1) ∧ wr.drew.cell? ⟨lb, lo + k * 3 + 1, none⟩ = some (.string s1) ∧ wr.drew.cell? ⟨lb, lo + k * 3 + 2, none⟩ = some (.int .i64 d1)) ∧
          (wr.drew.cell? ⟨w.heap.size, 0, none⟩ = some (.bool m1) ∧ wr.drew.cell? ⟨w.heap.size, 1, none⟩ = some (.string s1) ∧ wr.drew.cell? ⟨w.heap.size, 2, none⟩ = some (.int .i64 d1)) ∧ Below w.heap.size w wr.drew := ⟨⟨c0, c1, c2⟩, ⟨hA0, hA1, hA2⟩, hb.drew⟩
        clear c0 c1 c2 hA0 hA1 hA2 hb
        go_wp2
        go_region_held3 (fun w' => (w'.cell? ⟨lb, lo + k * 3, none⟩ = some (.bool m1) ∧ w'.cell? ⟨lb, lo + k * 3 + 1, none⟩ = some (.string s1) ∧ w'.cell? ⟨lb, lo + k * 3 + 2, none⟩ = some (.int .i64 d1)) ∧
          (w'.cell? ⟨w.heap.size, 0, none⟩ = some (.bool m1) ∧ w'.cell? ⟨w.heap.size, 1, none⟩ = some (.string s1) ∧ w'.cell? ⟨w.heap.size, 2, none⟩ = some (.int .i64 d1)) ∧ Below w.heap.size w w')
          (first | assumption) (first | fail)
        all_goals
          have hb := hin.2.2
          go_wp2
          go_ret
          exact ⟨(k : Int), rfl, HY.out, hb⟩
      · have HY := Lib.hid (hst hey)
        have hdf := first_diff (fun h => hey h.symm)
        clear hst hyes hey
        rcases hdf with hdf | ⟨hdm, hdf⟩ | ⟨hdm, hds, hdf⟩
        · have hdg : ¬m1 = m := fun h => hdf h.symm
          have hin : (wr.drew.cell? ⟨lb, lo + k * 3, none⟩ = some (.bool m1) ∧ wr.drew.cell? ⟨lb, lo + k * 3 + 1, none⟩ = some (.string s1) ∧ wr.drew.cell? ⟨lb, lo + k * 3 + 2, none⟩ = some (.int .i64 d1)) ∧ (wr.drew.cell? ⟨w.heap.size, 0, none⟩ = some (.bool m) ∧ wr.drew.cell? ⟨w.heap.size, 1, none⟩ = some (.string s) ∧ wr.drew.cell? ⟨w.heap.size, 2, none⟩ = some (.int .i64 d)) ∧ Nk wr.drew w.heap.size m s d ∧ Below w.heap.size w wr.drew := ⟨⟨c0, c1, c2⟩, ⟨hA0, hA1, hA2⟩, hA.drew, hb.drew⟩
          clear c0 c1 c2 hA0 hA1 hA2 hb hA
          go_wp2
          go_region_held3 (fun W' => (W'.cell? ⟨lb, lo + k * 3, none⟩ = some (.bool m1) ∧ W'.cell? ⟨lb, lo + k * 3 + 1, none⟩ = some (.string s1) ∧ W'.cell? ⟨lb, lo + k * 3 + 2, none⟩ = some (.int .i64 d1)) ∧ (W'.cell? ⟨w.heap.size, 0, none⟩ = some (.bool m) ∧ W'.cell? ⟨w.heap.size, 1, none⟩ = some (.string s) ∧ W'.cell? ⟨w.heap.size, 2, none⟩ = some (.int .i64 d)) ∧ Nk W' w.heap.size m s d ∧ Below w.heap.size w W') (first | assumption) (first | fail)
          all_goals
            have hb := hin.2.2.2
            have hA := hin.2.2.1
            go_wp2
            exact ⟨⟨k + 1, hlt, rfl, HY.out, hA, hb⟩, by simp [intY]; omega⟩
        · subst hdm
          have hdg : ¬s1.toList = s.toList := fun h => hdf h.symm
          have hin : (wr.drew.cell? ⟨lb, lo + k * 3, none⟩ = some (.bool m) ∧ wr.drew.cell? ⟨lb, lo + k * 3 + 1, none⟩ = some (.string s1) ∧ wr.drew.cell? ⟨lb, lo + k * 3 + 2, none⟩ = some (.int .i64 d1)) ∧ (wr.drew.cell? ⟨w.heap.size, 0, none⟩ = some (.bool m) ∧ wr.drew.cell? ⟨w.heap.size, 1, none⟩ = some (.string s) ∧ wr.drew.cell? ⟨w.heap.size, 2, none⟩ = some (.int .i64 d)) ∧ Nk wr.drew w.heap.size m s d ∧ Below w.heap.size w wr.drew := ⟨⟨c0, c1, c2⟩, ⟨hA0, hA1, hA2⟩, hA.drew, hb.drew⟩
          clear c0 c1 c2 hA0 hA1 hA2 hb hA
          go_wp2
          go_region_held3 (fun W' => (W'.cell? ⟨lb, lo + k * 3, none⟩ = some (.bool m) ∧ W'.cell? ⟨lb, lo + k * 3 + 1, none⟩ = some (.string s1) ∧ W'.cell? ⟨lb, lo + k * 3 + 2, none⟩ = some (.int .i64 d1)) ∧ (W'.cell? ⟨w.heap.size, 0, none⟩ = some (.bool m) ∧ W'.cell? ⟨w.heap.size, 1, none⟩ = some (.string s) ∧ W'.cell? ⟨w.heap.size, 2, none⟩ = some (.int .i64 d)) ∧ Nk W' w.heap.size m s d ∧ Below w.heap.size w W') (first | assumption) (first | fail)
          all_goals
            have hb := hin.2.2.2
            have hA := hin.2.2.1
            go_wp2
            exact ⟨⟨k + 1, hlt, rfl, HY.out, hA, hb⟩, by simp [intY]; omega⟩
        · subst hdm hds
          have hdg : ¬d1 = d := fun h => hdf h.symm
          have hin : (wr.drew.cell? ⟨lb, lo + k * 3, none⟩ = some (.bool m) ∧ wr.drew.cell? ⟨lb, lo + k * 3 + 1, none⟩ = some (.string s) ∧ wr.drew.cell? ⟨lb, lo + k * 3 + 2, none⟩ = some (.int .i64 d1)) ∧ (wr.drew.cell? ⟨w.heap.size, 0, none⟩ = some (.bool m) ∧ wr.drew.cell? ⟨w.heap.size, 1, none⟩ = some (.string s) ∧ wr.drew.cell? ⟨w.heap.size, 2, none⟩ = some (.int .i64 d)) ∧ Nk wr.drew w.heap.size m s d ∧ Below w.heap.size w wr.drew := ⟨⟨c0, c1, c2⟩, ⟨hA0, hA1, hA2⟩, hA.drew, hb.drew⟩
          clear c0 c1 c2 hA0 hA1 hA2 hb hA
          go_wp2
          go_region_held3 (fun W' => (W'.cell? ⟨lb, lo + k * 3, none⟩ = some (.bool m) ∧ W'.cell? ⟨lb, lo + k * 3 + 1, none⟩ = some (.string s) ∧ W'.cell? ⟨lb, lo + k * 3 + 2, none⟩ = some (.int .i64 d1)) ∧ (W'.cell? ⟨w.heap.size, 0, none⟩ = some (.bool m) ∧ W'.cell? ⟨w.heap.size, 1, none⟩ = some (.string s) ∧ W'.cell? ⟨w.heap.size, 2, none⟩ = some (.int .i64 d)) ∧ Nk W' w.heap.size m s d ∧ Below w.heap.size w W') (first | assumption) (first | fail)
          all_goals
            have hb := hin.2.2.2
            have hA := hin.2.2.1
            go_wp2
            exact ⟨⟨k + 1, hlt, rfl, HY.out, hA, hb⟩, by simp [intY]; omega⟩
    · obtain rfl : k = n := by omega
      rw [List.take_of_length_le (by omega)] at hno
      have HN := Lib.hid hno
      clear hno
      go_wp2
      go_ret
      exact ⟨-1, rfl, .inr ⟨rfl, HN.out⟩, hb⟩
theorem far_most {l : List NV} : ∀ k, 0 < k → k ≤ l.length → (∀ i (h : i < l.length), i < k → (nvl l[i]).toRat ≤ (farD 1 l k).toRat) ∧ ∃ i, ∃ h : i < l.length, i < k ∧ farD 1 l k = nvl l[i]
  | 0, h, _ => absurd h (by omega)
  | 1, _, hl => by
    rw [farD_one 1 hl]
    refine ⟨fun i h hi => ?_, 0, hl, by omega, rfl⟩
    obtain rfl : i = 0 := by omega
    exact Rat.le_refl
  | k + 2, _, hl => by
    obtain ⟨h1, i, hi, hik, h2⟩ := far_most (l := l) (k + 1) (by omega) (by omega)
    rw [farD_succ 1 (by omega) (show k + 1 < l.length by omega)]
    have hd := dsg_sub_pos (x := nvl l[k + 1]) (y := farD 1 l (k + 1))
    split
    · rename_i hc
      have hlt : (farD 1 l (k + 1)).toRat < (nvl l[k + 1]).toRat := hd.1 (by omega)
      refine ⟨fun j hj hjk => ?_, k + 1, by omega, by omega, rfl⟩
      rcases Nat.lt_or_ge j (k + 1) with h | h
      · exact Rat.le_trans (h1 j hj h) (Rat.le_of_lt hlt)
      · obtain rfl : j = k + 1 := by omega
        exact Rat.le_refl
    · rename_i hc
      have hge : ¬ (farD 1 l (k + 1)).toRat < (nvl l[k + 1]).toRat := fun h => hc (by have := hd.2 h; omega)
      refine ⟨fun j hj hjk => ?_, i, hi, by omega, h2⟩
      rcases Nat.lt_or_ge j (k + 1) with h | h
      · exact h1 j hj h
      · obtain rfl : j = k + 1 := by omega
        grind
/-- The first axis that is as wide as any; -1 of none. -/
def WidR (l : List SV) (r : Int) : Prop := (l = [] ∧ r = -1) ∨ ∃ i : Nat, ∃ h : i < l.length, r = i ∧ (∀ x ∈ l, (wS x).toRat ≤ (wS l[i]).toRat) ∧ ∀ j (hj : j < i), (wS l[j]).toRat < (wS l[i]).toRat
theorem WidR.same {l : List SV} {r q : Int} (h : WidR l r) (k : WidR l q) : r = q := by
  rcases h with ⟨h1, rfl⟩ | ⟨i, hi, rfl, h1, h2⟩
  · rcases k with ⟨_, rfl⟩ | ⟨i, hi, _⟩
    · rfl
    · subst h1; cases hi
  · rcases k with ⟨rfl, _⟩ | ⟨j, hj, rfl, k1, k2⟩
    · cases hi
    · rcases Nat.lt_trichotomy i j with h | h | h
      · have a := k2 i h
        have b := h1 _ (List.getElem_mem hj)
        exact absurd a (Rat.not_lt.2 b)
      · rw [h]
      · have a := h2 j h
        have b := k1 _ (List.getElem_mem hi)
        exact absurd a (Rat.not_lt.2 b)
theorem wid_of {l : List SV} {r : Int} (h : IdxR (l.map fun x => canonN (wS x)) (canonN (farD 1 (l.map fun x => canonN (wS x)) l.length)) r) : WidR l r := by
  by_cases h0 : l = []
  · subst h0
    rcases h with ⟨i, hi, _⟩ | ⟨rfl, _⟩
    · cases hi
    · exact .inl ⟨rfl, rfl⟩
  have hpos : 0 < l.length := by
    cases l with
    | nil => exact absurd rfl h0
    | cons x l => exact Nat.succ_pos _
  have hlen : (l.map fun x => canonN (wS x)).length = l.length := List.length_map ..
  obtain ⟨f1, j, hj, hjl, f2⟩ := far_most (l := l.map fun x => canonN (wS x)) l.length hpos (Nat.le_of_eq hlen.symm)
  have hg : ∀ i (hi : i < l.length), nvl ((l.map fun x => canonN (wS x))[i]'(by rw [hlen]; exact hi)) = wS l[i] := fun i hi => by rw [List.getElem_map, nvl_canon]
  have f3 : ∀ i (hi : i < l.length), (wS l[i]).toRat ≤ (farD 1 (l.map fun x => canonN (wS x)) l.length).toRat := fun i hi => by
    have := f1 i (by rw [hlen]; exact hi) hi
    rwa [hg i hi] at this
  rw [hg j hjl] at f2
  generalize farD 1 (l.map fun x => canonN (wS x)) l.length = M at *
  rcases h with ⟨i, hi, rfl, h1, h2⟩ | ⟨_, h1⟩
  · rw [hlen] at hi
    rw [List.getElem_map, canon_eq] at h1
    refine .inr ⟨i, hi, rfl, fun x hx => ?_, fun k hk => ?_⟩
    · obtain ⟨k, hk, rfl⟩ := List.getElem_of_mem hx
      rw [h1]; exact f3 k hk
    · rw [h1]
      refine Rat.lt_of_le_of_ne (f3 k (by omega)) fun e => h2 ?_
      have e2 := Dyadic.toRat_inj.1 e
      rw [← e2, List.mem_take_iff_getElem]
      exact ⟨k, by rw [hlen]; omega, by rw [List.getElem_map]⟩
  · refine absurd ?_ h1
    rw [f2]
    exact List.mem_map.2 ⟨_, List.getElem_mem hjl, rfl⟩
set_option maxRecDepth 100000 in
set_option maxHeartbeats 1600000 in
theorem bwidest_any (w : World) (ad : Option Addr) (l : List SV) (n c : Nat) (hn : l.length = n) (hmax : n ≤ 100) (hl : SAt w ad l) {B E : Nat} (hs : ∀ x ∈ l, GS B E x) (hB : B ≤ 375) (hE : E ≤ 3000) :
    Calls Tryz.prog 15 #[.slice ad n c] w (fun e w' => ∃ r : Int, e = .returned (.int .i64 r) ∧ WidR l r ∧ Below w.heap.size w w') := by
  have HC := Lib.hid (width_small hs hB hE)
  have hc := bwidths_any w ad l n c hn (by omega) hl (fun x h => (hs x h).o2)
  have hlen : (l.map fun x => canonN (wS x)).length = n := by rw [List.length_map, hn]
  have hw := Lib.hid (fun r => wid_of (l := l) (r := r))
  rw [hn] at hw
  clear hs hl hn
  generalize (l.map fun x => canonN (wS x)) = L at *
  go_enter Tryz.func15, Tryz.ntmps15
  go_wp2_with fail
  refine hc.mono ?_
  rintro e W ⟨g, rfl, hg, hL, hb⟩
  clear hc
  have hc := ymax_any W (some ⟨g, 0, none⟩) L n n hlen (by omega) hL.nat (fun x h => by have := HC.out x h; omega) _ _ _ (canonN_df _)
  have hw2 := hw.out
  clear hw
  generalize canonN (farD 1 L n) = y at *
  obtain ⟨m3, s3, d3⟩ := y
  simp only at hc
  have HW := Lib.hid hw2
  clear hw2
  go_wp2_with fail
  refine hc.mono ?_
  rintro e W2 ⟨rfl, hq⟩
  clear hc
  replace hb := below_next hb hq
  replace hL := hL.below hq
  clear hq
  have hc := index_any W2 (some ⟨g, 0, none⟩) L n n hlen hmax hL.nat m3 s3 d3
  go_wp2_with fail
  refine hc.mono ?_
  rintro e W3 ⟨r, rfl, hr, hq⟩
  clear hc
  go_wp2
  go_ret
  exact ⟨r, rfl, HW.out r hr, below_next hb hq⟩
end Go.Proofs.YtbijggomdpaknaaGreatDoor
