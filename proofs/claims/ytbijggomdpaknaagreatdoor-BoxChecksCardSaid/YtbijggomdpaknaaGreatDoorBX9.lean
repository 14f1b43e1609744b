/- Package ogeelaw11: vast, of, is; walked. -/
import Derived.Test.YtbijggomdpaknaaGreatDoorBX8
import Derived.Test.YtbijggomdpaknaaGreatDoorBX4
import Derived.Test.YtbijggomdpaknaaGreatDoorBX5
import Derived.Deep.CutBlock
namespace Go.Proofs.YtbijggomdpaknaaGreatDoor
open Go.RowKit Go.Shelf
/-- Is a box, or a point, more than is gone through? -/
def vastB (l : List SV) (p : List NV) : Bool := decide (8 < l.length) || decide (8 < p.length) || l.any (fun x => farB x.1 || farB x.2) || p.any farB
theorem vast_no {l : List SV} {p : List NV} (h : vastB l p = false) : l.length ≤ 8 ∧ p.length ≤ 8 ∧ (∀ x ∈ l, GS 80 200 x) ∧ ∀ y ∈ p, Gd 80 200 y := by
  unfold vastB at h
  simp only [Bool.or_eq_false_iff, decide_eq_false_iff_not, List.any_eq_false, Bool.not_eq_true] at h
  refine ⟨by omega, by omega, fun x hx => ?_, fun y hy => (farB_raw (h.2 y hy)).gd⟩
  have := h.1.2 x hx
  exact ⟨(farB_raw this.1).gd, (farB_raw this.2).gd⟩
theorem any_snoc {α : Type} {f : α → Bool} {l : List α} {i : Nat} (h : i < l.length) (h1 : (l.take i).any f = false) (h2 : f l[i] = false) : (l.take (i + 1)).any f = false := by
  rw [List.take_succ_eq_append_getElem h, List.any_append, h1]
  simp [h2]
set_option maxRecDepth 100000 in
set_option maxHeartbeats 3200000 in
theorem vast_any (w : World) (ad bd : Option Addr) (l : List SV) (p : List NV) (n c n' c' : Nat) (hn : l.length = n) (hn' : p.length = n') (hm : n ≤ maxLen) (hm' : n' ≤ maxLen) (hl : SAt w ad l) (hp : NAt w bd p) :
    Calls Tryz.prog 4 #[.slice ad n c, .slice bd n' c'] w (Ret (.bool (vastB l p)) w) := by
  have hmx : maxLen = 9223372036854775807 ∨ maxLen < 9223372036854775807 := by unfold maxLen; omega
  obtain ⟨r, hr⟩ : ∃ r, vastB l p = r := ⟨_, rfl⟩
  rw [hr]
  have HR := Lib.hid hr
  clear hr
  by_cases h1 : 8 < n
  · have h1' : (8 : Int) < n := by omega
    obtain rfl : true = r := by rw [← HR.out]; unfold vastB; rw [hn, decide_eq_true h1]; rfl
    clear hl hp
    go_enter Tryz.func4, Tryz.ntmps4
    go_wp2
    go_ret
    exact ⟨rfl, Below.refl _ _⟩
  have h1' : ¬(8 : Int) < n := by omega
  by_cases h2 : 8 < n'
  · have h2' : (8 : Int) < n' := by omega
    obtain rfl : true = r := by rw [← HR.out]; unfold vastB; rw [hn, hn', decide_eq_true h2, decide_eq_false h1]; rfl
    clear hl hp
    go_enter Tryz.func4, Tryz.ntmps4
    go_wp2
    go_ret
    exact ⟨rfl, Below.refl _ _⟩
  have h2' : ¬(8 : Int) < n' := by omega
  have hv : r = (l.any (fun x => farB x.1 || farB x.2) || p.any farB) := by rw [← HR.out]; unfold vastB; rw [hn, hn', decide_eq_false h1, decide_eq_false h2]; rfl
  have HV := Lib.hid hv
  clear hv HR
  go_enter Tryz.func4, Tryz.ntmps4
  go_wp2
  go_loopw [5] (fun iv wr => ∃ i : Nat, iv = .int .i64 i ∧ i ≤ n ∧ (l.take i).any (fun x => farB x.1 || farB x.2) = false ∧ Below w.heap.size w wr) (fun iv _ => n - (RowKit.intOf iv).toNat)
  case atStart => exact ⟨0, rfl, Nat.zero_le _, rfl, Below.refl _ _⟩
  case round =>
    obtain ⟨i, rfl, hi, hno, hb⟩ := hrel
    by_cases hik : i < n
    · have hil : i < l.length := by omega
      obtain ⟨la, oa, rfl, hla, ⟨c0, c1, c2⟩, c3, c4, c5⟩ := hl.below hb i hil
      have hst := any_snoc (f := fun x : SV => farB x.1 || farB x.2) hil hno
      have hyes : (farB l[i].1 || farB l[i].2) = true → true = r := fun h => by
        rw [HV.out, List.any_eq_true.2 ⟨l[i], List.getElem_mem hil, h⟩]; rfl
      generalize l[i] = x at *
      obtain ⟨⟨m, s, d⟩, n1, t, e⟩ := x
      simp only at c0 c1 c2 c3 c4 c5 hst hyes
      have hc1 := fun W => far_any W m s d
      have hc2 := fun W => far_any W n1 t e
      generalize farB (m, s, d) = f1 at *
      generalize farB (n1, t, e) = f2 at *
      have HX := Lib.hid (And.intro hc1 (And.intro hc2 (And.intro hst hyes)))
      clear hc1 hc2 hst hyes hno
      have hi0 : (0 : Int) ≤ (i : Int) := by omega
      have hin2 : (i : Int) < n := by omega
      go_wp2_with fail
      refine (HX.out.1 _).mono ?_
      rintro e' V ⟨rfl, hq⟩
      rw [← hq.cell hla] at c0 c1 c2 c3 c4 c5
      replace hb := below_next hb hq
      clear hq
      cases f1 with
      | true =>
        obtain rfl := HX.out.2.2.2 rfl
        clear HX
        go_wp2
        go_ret
        exact ⟨rfl, hb⟩
      | false =>
        go_wp2_with fail
        refine (HX.out.2.1 _).mono ?_
        rintro e' V2 ⟨rfl, hq⟩
        replace hb := below_next hb hq
        clear hq c0 c1 c2 c3 c4 c5
        cases f2 with
        | true =>
          obtain rfl := HX.out.2.2.2 rfl
          clear HX
          go_wp2
          go_ret
          exact ⟨rfl, hb⟩
        | false =>
          have HS := Lib.hid (HX.out.2.2.1 rfl)
          clear HX
          go_wp2
          exact ⟨⟨i + 1, rfl, hik, HS.out, hb⟩, by simp [RowKit.intOf]; omega⟩
    · obtain rfl : i = n := by omega
      rw [List.take_of_length_le (by omega)] at hno
      have hv2 : r = p.any farB := by rw [HV.out, hno]; rfl
      have HV2 := Lib.hid hv2
      clear hno hl hv2 HV
      go_wp2
      go_loopw [6] (fun iv wr => ∃ i : Nat, iv = .int .i64 i ∧ i ≤ n' ∧ (p.take i).any farB = false ∧ Below w.heap.size w wr) (fun iv _ => n' - (RowKit.intOf iv).toNat)
      case atStart => exact ⟨0, rfl, Nat.zero_le _, rfl, hb⟩
      case round =>
        clear hb
        obtain ⟨i, rfl, hi, hno, hb⟩ := hrel
        by_cases hik : i < n'
        · have hil : i < p.length := by omega
          obtain ⟨la, oa, rfl, hla, c0, c1, c2⟩ := hp.below hb i hil
          have hst := any_snoc (f := farB) hil hno
          have hyes : farB p[i] = true → true = r := fun h => by
            rw [HV2.out, List.any_eq_true.2 ⟨p[i], List.getElem_mem hil, h⟩]
          generalize p[i] = x at *
          obtain ⟨m, s, d⟩ := x
          simp only at c0 c1 c2
          have hc1 := fun W => far_any W m s d
          generalize farB (m, s, d) = f1 at *
          have HX := Lib.hid (And.intro hc1 (And.intro hst hyes))
          clear hc1 hst hyes hno
          go_wp2_with fail
          refine (HX.out.1 _).mono ?_
          rintro e' V ⟨rfl, hq⟩
          replace hb := below_next hb hq
          clear hq c0 c1 c2
          cases f1 with
          | true =>
            obtain rfl := HX.out.2.2 rfl
            clear HX
            go_wp2
            go_ret
            exact ⟨rfl, hb⟩
          | false =>
            have HS := Lib.hid (HX.out.2.1 rfl)
            clear HX
            go_wp2
            exact ⟨⟨i + 1, rfl, hik, HS.out, hb⟩, by simp [RowKit.intOf]; omega⟩
        · obtain rfl : i = n' := by omega
          rw [List.take_of_length_le (by omega)] at hno
          obtain rfl : false = r := by rw [HV2.out, hno]
          clear HV2 hno hp
          go_wp2
          go_ret
          exact ⟨rfl, hb⟩
set_option maxRecDepth 100000 in
set_option maxHeartbeats 3200000 in
theorem is_any (w : World) (ad bd : Option Addr) (p : List NV) (zs : List Int) (n c c' : Nat) (hn : zs.length = n) (hmax : n ≤ 100) (hp : NAt w ad p) (hz : RI w bd zs) (hs : ∀ z ∈ zs, -1000 ≤ z ∧ z ≤ 1000) (he : p = zs.map iN) :
    Calls Tryz.prog 24 #[.slice ad n c, .slice bd n c'] w (Ret (.bool true) w) := by
  obtain ⟨i0, hi, hz0, hsz, hbt⟩ := info_parts infoNz
  have HC := Lib.hid (And.intro hn (And.intro hs he))
  clear hn hs he
  go_enter Tryz.func24, Tryz.ntmps24
  go_wp2
  go_loopw [5, 6] (fun v iv wr => ∃ i : Nat, iv = .int .i64 i ∧ i ≤ n ∧ wr.ownsRow w.heap.size 36 3 v i (ncells ((zs.map iN).take i)) ∧ Below w.heap.size w wr) (fun _ iv _ => n - (RowKit.intOf iv).toNat)
  case atStart => exact ⟨0, rfl, Nat.zero_le _, World.ownsRow_nil _ _ _ _, Below.refl _ _⟩
  case round =>
    obtain ⟨i, rfl, hi2, hown, hb⟩ := hrel
    by_cases hik : i < n
    · have hil : i < zs.length := by rw [HC.out.1]; exact hik
      obtain ⟨lb, lo, rfl, hlb, c0⟩ := hz i hil
      rw [← hb.cell hlb] at c0
      have hzs := HC.out.2.1 _ (List.getElem_mem hil)
      have htk : (zs.map iN).take (i + 1) = (zs.map iN).take i ++ [iN zs[i]] := by
        rw [List.take_succ_eq_append_getElem (by rw [List.length_map]; exact hil), List.getElem_map]
      have hc := fun W => bnum_any W zs[i] 0 (by omega) (by omega) (by omega)
      rw [show iN zs[i] = canonN (.ofIntWithPrec zs[i] (-0)) by rfl] at htk
      generalize canonN (.ofIntWithPrec zs[i] (-0)) = y at *
      generalize zs[i] = z at *
      obtain ⟨m, s, d⟩ := y
      replace hc : ∀ W, Calls Tryz.prog 23 #[.int .i64 z, .int .i64 0] W (Ret (.agg #[.bool m, .string s, .int .i64 d]) W) := hc
      have HX := Lib.hid (And.intro hc htk)
      clear hc htk
      go_wp2_with fail
      refine (HX.out.1 _).mono ?_
      rintro e' V ⟨rfl, hq⟩
      replace hb := below_next hb hq
      replace hown := ownsRow_below hown hq
      clear hq c0
      have hnew := NAt.new V 36 [(m, s, d)] _ rfl
      have hown2 := hown.alloc (Obj.cells #[Value.bool m, Value.string s, Value.int IntKind.i64 d] 36)
      replace hb := hb.alloc hb.size (Obj.cells #[Value.bool m, Value.string s, Value.int IntKind.i64 d] 36)
      go_wp2_with (first | (at_builtin; refine wpList_append_nat Tryz.underlying25 hi hz0 hsz hbt rfl (by decide) (by decide) rfl (.tmp 13) (.tmp 19) rfl (m := 1) rfl hown2 hb.size rfl hnew rfl (by omega) ?_))
      intro v' w' ho hg
      rw [← HX.out.2] at ho
      replace hb := grown_own hb hb.size hown2 hg
      clear hown hown2 hnew hg HX
      go_wp2
      exact ⟨⟨i + 1, rfl, hik, ho, hb⟩, by simp [RowKit.intOf]; omega⟩
    · obtain rfl : i = n := by omega
      rw [List.take_of_length_le (by rw [List.length_map, HC.out.1]; exact Nat.le_refl _), ← HC.out.2.2] at hown
      have hpl : p.length = i := by rw [HC.out.2.2, List.length_map, HC.out.1]
      obtain ⟨od, oc, rfl, -, hq⟩ := own_nat (by rw [hpl]) hown
      have hc := sameP_any wr ad od i c oc p hpl (by omega) (hp.below hb) hq
      clear hown hq hp hz
      go_wp2_with fail
      refine hc.mono ?_
      rintro e' V ⟨rfl, hq⟩
      replace hb := below_next hb hq
      go_wp2
      go_ret
      exact ⟨rfl, hb⟩
theorem flat_app : ∀ (l m : List SV), flat (l ++ m) = flat l ++ flat m
  | [], m => rfl
  | x :: l, m => by
    show x.1 :: x.2 :: flat (l ++ m) = _
    rw [flat_app l m]
    rfl
set_option maxRecDepth 100000 in
set_option maxHeartbeats 3200000 in
theorem bof_any (w : World) (bd : Option Addr) (q : List SV) (zs : List Int) (n c' k0 : Nat) (hn : zs.length = n) (hk0 : q.length = k0) (hnk : n = 2 * k0) (hmax : n ≤ 100) (hz : RI w bd zs) (hs : ∀ z ∈ zs, -1000 ≤ z ∧ z ≤ 1000) (he : ∀ i (h : i < q.length) (h1 : 2 * i < zs.length) (h2 : 2 * i + 1 < zs.length), q[i] = (iN zs[2 * i], iN zs[2 * i + 1])) :
    Calls Tryz.prog 20 #[.slice bd n c'] w (fun e w' => ∃ od oc, e = .returned (.slice od k0 oc) ∧ k0 ≤ oc ∧ SAt w' od q ∧ Below w.heap.size w w') := by
  obtain ⟨i0, hi, hz0, hsz, hbt⟩ := info_parts infoSz
  have HC := Lib.hid (And.intro hn (And.intro hs (And.intro he hk0)))
  have HK := Lib.hid hnk
  clear hn hs he hk0 hnk
  go_enter Tryz.func20, Tryz.ntmps20
  go_wp2
  go_loopw [3, 4] (fun v iv wr => ∃ i : Nat, iv = .int .i64 ((2 * i : Nat) : Int) ∧ i ≤ k0 ∧ wr.ownsRow w.heap.size 41 6 v i (ncells (flat (q.take i))) ∧ Below w.heap.size w wr) (fun _ iv _ => n - (RowKit.intOf iv).toNat)
  case atStart => exact ⟨0, rfl, Nat.zero_le _, World.ownsRow_nil _ _ _ _, Below.refl _ _⟩
  case round =>
    obtain ⟨i, rfl, hi2, hown, hb⟩ := hrel
    obtain ⟨j, hj⟩ : ∃ j, 2 * i = j := ⟨_, rfl⟩
    have hnk := HK.out
    rw [hj]
    have hw1 : IntKind.i64.wrap ((j : Int) + 1) = ((j + 1 : Nat) : Int) := by rw [IntKind.wrap_i64]; omega
    by_cases hik : i < k0
    · have hil : i < q.length := by rw [HC.out.2.2.2]; exact hik
      have hl1 : 2 * i < zs.length := by rw [HC.out.1]; omega
      have hl2 : 2 * i + 1 < zs.length := by rw [HC.out.1]; omega
      obtain ⟨lb, lo, rfl, hlb, c0⟩ := hz (2 * i) hl1
      obtain ⟨lb', lo', hbd, -, c1⟩ := hz (2 * i + 1) hl2
      injection hbd with hbd
      injection hbd with e1 e2
      subst e1 e2
      rw [← hb.cell hlb] at c0 c1
      have hz1 := HC.out.2.1 _ (List.getElem_mem hl1)
      have hz2 := HC.out.2.1 _ (List.getElem_mem hl2)
      have hq := HC.out.2.2.1 i hil hl1 hl2
      have htk : q.take (i + 1) = q.take i ++ [q[i]] := List.take_succ_eq_append_getElem hil
      rw [hq] at htk
      have hc1 := fun W => bnum_any W zs[2 * i] 0 (by omega) (by omega) (by omega)
      have hc2 := fun W => bnum_any W zs[2 * i + 1] 0 (by omega) (by omega) (by omega)
      rw [show iN zs[2 * i] = canonN (.ofIntWithPrec zs[2 * i] (-0)) by rfl, show iN zs[2 * i + 1] = canonN (.ofIntWithPrec zs[2 * i + 1] (-0)) by rfl] at htk
      generalize canonN (.ofIntWithPrec zs[2 * i] (-0)) = y1 at *
      generalize canonN (.ofIntWithPrec zs[2 * i + 1] (-0)) = y2 at *
      generalize zs[2 * i] = z1 at *
      generalize zs[2 * i + 1] = z2 at *
      rw [hj] at c0
      rw [show lo + (2 * i + 1) = lo + (j + 1) by omega] at c1
      obtain ⟨m, s, d⟩ := y1
      obtain ⟨n1, t, e⟩ := y2
      replace hc1 : ∀ W, Calls Tryz.prog 23 #[.int .i64 z1, .int .i64 0] W (Ret (.agg #[.bool m, .string s, .int .i64 d]) W) := hc1
      replace hc2 : ∀ W, Calls Tryz.prog 23 #[.int .i64 z2, .int .i64 0] W (Ret (.agg #[.bool n1, .string t, .int .i64 e]) W) := hc2
      have HX := Lib.hid (And.intro hc1 (And.intro hc2 htk))
      clear hc1 hc2 htk hq hz
      have hj0 : (0 : Int) ≤ (j : Int) := by omega
      have hj1 : (j : Int) < n := by omega
      have hj2 : (j : Int) + 1 < n := by omega
      have hj3 : (0 : Int) ≤ (j : Int) + 1 := by omega
      have c0' : wr.drew.cell? ⟨lb, lo + j, none⟩ = some (.int .i64 z1) := c0
      have c1' : wr.drew.cell? ⟨lb, lo + (j + 1), none⟩ = some (.int .i64 z2) := c1
      have hj5 : 2 * (i + 1) = j + 2 := by omega
      have hj6 : n - (j + 2) < n - j := by omega
      have HJ := Lib.hid (And.intro hj5 hj6)
      have hi9 : i + 1 ≤ 1000000 := by omega
      clear hnk hj5 hj6 hj
      go_wp2
      go_region_law (first
        | (refine step_append_nat Tryz.underlying23 hi hz0 hsz hbt rfl (by decide) (by decide) rfl (.tmp 12) (.tmp 25) rfl (m := 1) rfl hown5 hsz5 rfl hnew rfl hi9 ?_; intro v' W4 hV4 hg4)
        | (go_simp; go_at_call 23; refine (HX.out.1 _).mono ?_; rintro e' V3 ⟨rfl, hq3⟩; have c1V := cell_keep hq3 c1')
        | (go_simp; go_at_call 23; refine (HX.out.2.1 _).mono ?_; rintro e' V4 ⟨rfl, hq4⟩; have hbV := below_next (below_next hb.drew hq3) hq4; have hown5 := (ownsRow_below (ownsRow_below (ownsRow_below hown (Below.refl _ _).drew) hq3) hq4).alloc (.cells #[.bool m, .string s, .int .i64 d, .bool n1, .string t, .int .i64 e] 41); have hnew : NAt (V4.alloc (.cells #[.bool m, .string s, .int .i64 d, .bool n1, .string t, .int .i64 e] 41)) (some ⟨V4.heap.size, 0, none⟩) (flat [((m, s, d), n1, t, e)]) := NAt.new V4 _ _ _ rfl; have hsz5 : w.heap.size ≤ (V4.alloc (.cells #[.bool m, .string s, .int .i64 d, .bool n1, .string t, .int .i64 e] 41)).heap.size := (hbV.alloc hbV.size _).size))
      all_goals
        have hb4 := grown_own (hbV.alloc hbV.size _) hsz5 hown5 hg4
        have hV5 : W4.ownsRow w.heap.size 41 6 v' (i + 1) (ncells (flat (q.take (i + 1)))) := by
          rw [HX.out.2.2, flat_app]
          exact hV4
        clear hV4 hg4 hown5 hnew hsz5 hbV hq3 hq4 hown HX
        go_wp2
        exact ⟨⟨i + 1, by rw [HJ.out.1]; simp, hik, hV5, hb4⟩, by have := HJ.out.2; simp [RowKit.intOf]; omega⟩
    · obtain rfl : i = k0 := by omega
      rw [List.take_of_length_le (by rw [HC.out.2.2.2]; exact Nat.le_refl _)] at hown
      obtain ⟨od, oc, rfl, hoc, hq⟩ := own_sat HC.out.2.2.2 hown
      have hj1 : ¬(j : Int) + 1 < n := by omega
      clear hown hz hnk hj
      go_wp2
      go_ret
      exact ⟨od, oc, rfl, hoc, hq, hb⟩
end Go.Proofs.YtbijggomdpaknaaGreatDoor
