/- The law of sums of rows, and of differences and order: it answers true for all. -/
import Derived.Test.YtmenngmejehofaaGreatDoorWMuls
import Derived.Test.YtmenngmejehofaaGreatDoorWSg
import Derived.Test.YtmenngmejehofaaGreatDoorWDag2
import Derived.Laws.AppendOwn
import Derived.Laws.AppendOwnNone
namespace Go.Proofs.YtmenngmejehofaaGreatDoor
open Go.RowKit Go.Shelf

theorem icells_len : ∀ l : List IV, (icells l).length = l.length * 2
  | [] => rfl
  | x :: l => by rw [icells, List.length_cons, List.length_cons, icells_len l, List.length_cons]; omega
theorem icells_one : ∀ (l : List IV) (u : Value), u ∈ icells l → u.oneCell' = true
  | [], _, h => by cases h
  | x :: l, u, h => by
    rw [icells, List.mem_cons, List.mem_cons] at h
    rcases h with rfl | rfl | h
    · rfl
    · rfl
    · exact icells_one l u h
theorem icells_at {w : World} {a : Addr} {l : List IV} (h : IAt w (some a) l) (j : Nat) (u : Value) (hj : (icells l)[j]? = some u) : w.cell? (a.add j) = some u := by
  obtain ⟨hlt, hju⟩ := List.getElem?_eq_some_iff.1 hj
  rw [icells_len] at hlt
  have hi : j / 2 < l.length := by omega
  obtain ⟨lb, lo, e, _, h1, h2⟩ := h (j / 2) hi
  obtain rfl : a = ⟨lb, lo, none⟩ := by simpa using e
  have ea : (⟨lb, lo, none⟩ : Addr).add j = ⟨lb, lo + j, none⟩ := by unfold Addr.add; split <;> simp_all
  have hg := icells_get l (j / 2) hi
  rw [ea]
  rcases Nat.mod_two_eq_zero_or_one j with hm | hm
  · have e2 : j / 2 * 2 = j := by omega
    rw [e2] at h1 hg
    rw [h1, ← hj, hg.1]
  · have e2 : j / 2 * 2 + 1 = j := by omega
    rw [Nat.add_assoc, e2] at h2
    rw [e2] at hg
    rw [h2, ← hj, hg.2]
theorem own_row {w : World} {B n : Nat} {v : Value} {l : List IV} (hn : l.length = n) (h : w.ownsRow B 23 2 v n (icells l)) : ∃ od oc, v = .slice od n oc ∧ n ≤ oc ∧ IAt w od l := by
  rcases h.2 with ⟨rfl, rfl⟩ | ⟨g, cap, cur, rfl, _, hg, hc, _, _, _⟩
  · obtain rfl : l = [] := List.eq_nil_of_length_eq_zero hn
    exact ⟨none, 0, rfl, Nat.le_refl _, IAt.nil _ _⟩
  · refine ⟨some ⟨g, 0, none⟩, cap, rfl, hc, fun i hi => ?_⟩
    have hcell := h.cells (g := g) rfl
    have hgt := icells_get l i hi
    have ea : ∀ j : Nat, (⟨g, 0, none⟩ : Addr).add j = ⟨g, 0 + j, none⟩ := fun j => by unfold Addr.add; split <;> simp_all
    have h1 := hcell _ _ hgt.1
    have h2 := hcell _ _ hgt.2
    rw [ea] at h1 h2
    exact ⟨g, 0, rfl, World.block_lt_of_cell? w _ h1, h1, by rw [Nat.add_assoc]; exact h2⟩
theorem infoI4 : (Tryz.prog.info? 23).map (fun i => (i.zero, i.size, i.bytes)) = some (some (.agg #[.bool false, .string ⟨#[]⟩]), 2, 24) := by kernel_rfl
theorem hbc2 {w W W' : World} {b0 p0 q0 b1 p1 q1 : Nat} {x0 y0 x1 y1 : Value} (hq : Below W.heap.size W W') (h : Below w.heap.size w W ∧ (W.cell? ⟨b0, p0, none⟩ = some x0 ∧ W.cell? ⟨b0, q0, none⟩ = some y0) ∧ (W.cell? ⟨b1, p1, none⟩ = some x1 ∧ W.cell? ⟨b1, q1, none⟩ = some y1)) : Below w.heap.size w W' ∧ (W'.cell? ⟨b0, p0, none⟩ = some x0 ∧ W'.cell? ⟨b0, q0, none⟩ = some y0) ∧ (W'.cell? ⟨b1, p1, none⟩ = some x1 ∧ W'.cell? ⟨b1, q1, none⟩ = some y1) :=
  ⟨below_next h.1 hq, heldo hq h.2.1, heldo hq h.2.2⟩
theorem hbc3 {w W W' : World} {b0 p0 q0 b1 p1 q1 b2 p2 q2 : Nat} {x0 y0 x1 y1 x2 y2 : Value} (hq : Below W.heap.size W W') (h : Below w.heap.size w W ∧ (W.cell? ⟨b0, p0, none⟩ = some x0 ∧ W.cell? ⟨b0, q0, none⟩ = some y0) ∧ (W.cell? ⟨b1, p1, none⟩ = some x1 ∧ W.cell? ⟨b1, q1, none⟩ = some y1) ∧ (W.cell? ⟨b2, p2, none⟩ = some x2 ∧ W.cell? ⟨b2, q2, none⟩ = some y2)) : Below w.heap.size w W' ∧ (W'.cell? ⟨b0, p0, none⟩ = some x0 ∧ W'.cell? ⟨b0, q0, none⟩ = some y0) ∧ (W'.cell? ⟨b1, p1, none⟩ = some x1 ∧ W'.cell? ⟨b1, q1, none⟩ = some y1) ∧ (W'.cell? ⟨b2, p2, none⟩ = some x2 ∧ W'.cell? ⟨b2, q2, none⟩ = some y2) :=
  ⟨below_next h.1 hq, heldo hq h.2.1, heldo hq h.2.2.1, heldo hq h.2.2.2⟩
def intAd : Value → Nat | .int _ n => n.toNat | _ => 0

set_option maxRecDepth 100000 in
set_option maxHeartbeats 1600000 in
theorem wadds_any (w : World) (ad : Option Addr) (l : List IV) (n c : Nat) (hn : l.length = n) (hc : n ≤ c ∧ (ad = none → c = 0)) (hl : IAt w ad l) :
    Calls Tryz.prog 4 #[.slice ad n c] w (Ret (.bool true) w) := by
  obtain ⟨i0, hi0, hz0, hz1, hz2⟩ := info_parts infoI4
  have hb := Below.refl w.heap.size w
  go_enter Tryz.func4, Tryz.ntmps4
  by_cases h20 : 20 < n
  · go_wp2_with fail
    refine (wawake_any _).mono ?_
    rintro e W ⟨rfl, hq⟩
    replace hb := below_next hb hq
    go_wp2
    go_ret
    exact ⟨rfl, hb⟩
  · go_wp2_with fail
    refine (long_any _ 150 ad l n c hn (by omega) hl).mono ?_
    rintro e W ⟨rfl, rfl⟩
    by_cases hlong : longer 150 l = true
    · rw [hlong]
      go_wp2_with fail
      refine (wawake_any _).mono ?_
      rintro e W ⟨rfl, hq⟩
      replace hb := below_next hb hq
      go_wp2
      go_ret
      exact ⟨rfl, hb⟩
    · have hlf : longer 150 l = false := by simpa using hlong
      have hs150 : ∀ x ∈ l, x.2.size ≤ 150 := by
        intro x hx
        have h0 : ¬ 150 < x.2.size := by
          intro h
          apply hlong
          unfold longer
          exact List.any_eq_true.2 ⟨x, hx, by simpa using h⟩
        omega
      rw [hlf]
      obtain ⟨z, o, hz⟩ := nmw_some (sumI l n)
      have HS := Lib.hid (And.intro hs150 hz)
      clear hs150 hz hlong hlf
      have hl0 := hl.below ((Below.refl w.heap.size w).alloc (Nat.le_refl _) (.cells #[] 23))
      have hown := World.ownsRow_made w (base := w.heap.size) (e := 23) (size := 2) #[] 0 (Nat.le_refl _) (by decide) rfl
      cases ad with
      | none =>
        have hc0 := hc.2 rfl
        obtain rfl : c = 0 := hc0
        obtain rfl : n = 0 := by omega
        go_wp2_with (first | (at_builtin; refine wpList_append_own_none rfl (.tmp 13) (.tmp 14) 32 rfl w.heap.size 23 i0 2 Tryz.underlying32 hi0 _ 0 [] rfl hown rfl ?_))
        obtain rfl : l = [] := List.eq_nil_of_length_eq_zero hn
        have hbw : Below w.heap.size w (w.alloc (.cells #[] 23)) := (Below.refl w.heap.size w).alloc (Nat.le_refl _) _
        have hlW : IAt (w.alloc (.cells #[] 23)) none [] := IAt.nil _ _
        have hoW : IAt (w.alloc (.cells #[] 23)) (some ⟨w.heap.size, 0, none⟩) [] := IAt.nil _ _
        clear hl hl0 hown hb
        generalize w.alloc (.cells #[] 23) = w1 at *
        go_wp2_with fail
        refine (wadd_any _ (some ⟨_, 0, none⟩) [] 0 0 hn (by omega) (fun x h => Nat.le_trans (HS.out.1 x h) (by omega)) hoW z o HS.out.2).mono ?_
        rintro e Wa ⟨rfl, hq⟩
        replace hbw := below_next hbw hq
        replace hlW := hlW.below hq
        replace hoW := hoW.below hq
        clear hq
        go_wp2_with fail
        refine (radd_any _ none [] 0 0 hn (by omega) (fun x h => Nat.le_trans (HS.out.1 x h) (by omega)) hlW z o HS.out.2).mono ?_
        rintro e Wb ⟨rfl, hq⟩
        replace hbw := below_next hbw hq
        replace hlW := hlW.below hq
        replace hoW := hoW.below hq
        clear hq
        go_wp2
        go_loopw [4] (fun i wr => ∃ k : Nat, k ≤ 0 ∧ i = .int .i64 k ∧ Below Wb.heap.size Wb wr) (fun i _ => 0 - intAd i)
        case atStart => exact ⟨0, Nat.zero_le _, rfl, Below.refl _ _⟩
        case round =>
          obtain ⟨k, hk, rfl, hbr⟩ := hrel
          by_cases hkn : k < 0
          · omega
          · go_wp2_with fail
            refine (wawake_any _).mono ?_
            rintro e V ⟨rfl, hq⟩
            replace hb := below_next (below_next hbw hbr) hq
            go_wp2
            go_ret
            exact ⟨rfl, hb⟩
      | some a =>
        go_wp2_with (first | (at_builtin; refine wpList_append_own _ rfl (.tmp 13) (.tmp 14) 32 rfl w.heap.size 23 i0 (.agg #[.bool false, .string ⟨#[]⟩]) 2 24 Tryz.underlying32 hi0 hz0 hz1 hz2 rfl (by decide) _ 0 [] rfl hown a n c (icells l) rfl (by rw [icells_len, hn]) (icells_at hl0) (icells_one l) (by unfold maxLen; omega) (by omega) (by rw [World.size_alloc]; omega) ?_))
        intro v' w1 hown' hgrow _
        have hbw : Below w.heap.size w w1 := ((Below.refl w.heap.size w).alloc (Nat.le_refl _) (.cells #[] 23)).grown hgrow (by rw [World.size_alloc]; omega) (fun k hk => (hown.lt k hk).1)
        have hlW := hl.below hbw

        obtain ⟨od, oc, rfl, hoc, hoW⟩ := own_row hn hown'
        have hcc := hc.1
        clear hl hl0 hown hown' hgrow hb hc
        go_wp2_with fail
        refine (wadd_any _ od l n oc hn (by omega) (fun x h => Nat.le_trans (HS.out.1 x h) (by omega)) hoW z o HS.out.2).mono ?_
        rintro e Wa ⟨rfl, hq⟩
        replace hbw := below_next hbw hq
        replace hlW := hlW.below hq
        replace hoW := hoW.below hq
        clear hq
        go_wp2_with fail
        refine (radd_any _ (some a) l n c hn (by omega) (fun x h => Nat.le_trans (HS.out.1 x h) (by omega)) hlW z o HS.out.2).mono ?_
        rintro e Wb ⟨rfl, hq⟩
        replace hbw := below_next hbw hq
        replace hlW := hlW.below hq
        replace hoW := hoW.below hq
        clear hq
        go_wp2
        go_loopw [4] (fun i wr => ∃ k : Nat, k ≤ n ∧ i = .int .i64 k ∧ Below Wb.heap.size Wb wr) (fun i _ => n - intAd i)
        case atStart => exact ⟨0, Nat.zero_le _, rfl, Below.refl _ _⟩
        case round =>
          obtain ⟨k, hk, rfl, hbr⟩ := hrel
          by_cases hkn : k < n
          · rcases Nat.eq_zero_or_pos k with rfl | hk0
            · have hk1 : 0 < l.length := by omega
              obtain ⟨lb, lo, e1, hlb, hc1, hc2⟩ := hlW 0 hk1
              obtain ⟨ob, oo, e2, hob, hd1, hd2⟩ := hoW 0 hk1
              obtain ⟨m1, s1, hx⟩ : ∃ m s, l[0] = (m, s) := ⟨_, _, rfl⟩
              rw [hx, Nat.zero_mul, Nat.add_zero] at hc1 hc2 hd1 hd2
              obtain rfl : a = ⟨lb, lo, none⟩ := by simpa using e1
              subst e2
              replace hc1 : wr.cell? ⟨lb, lo, none⟩ = some (.bool m1) := by rw [hbr.cell hlb]; exact hc1
              replace hc2 : wr.cell? ⟨lb, lo + 1, none⟩ = some (.string s1) := by rw [hbr.cell hlb]; exact hc2
              replace hd1 : wr.cell? ⟨ob, oo, none⟩ = some (.bool m1) := by rw [hbr.cell hob]; exact hd1
              replace hd2 : wr.cell? ⟨ob, oo + 1, none⟩ = some (.string s1) := by rw [hbr.cell hob]; exact hd2
              clear hx hlW hoW
              go_wp2_with fail
              have hin : (fun w' => Below Wb.heap.size Wb w' ∧ (w'.cell? ⟨lb, lo, none⟩ = some (.bool m1) ∧ w'.cell? ⟨lb, lo + 1, none⟩ = some (.string s1)) ∧ (w'.cell? ⟨ob, oo, none⟩ = some (.bool m1) ∧ w'.cell? ⟨ob, oo + 1, none⟩ = some (.string s1))) wr.drew := ⟨hbr.drew, ⟨hc1, hc2⟩, hd1, hd2⟩
              clear hc1 hc2 hd1 hd2
              refine region_dag (fun w' => Below Wb.heap.size Wb w' ∧ (w'.cell? ⟨lb, lo, none⟩ = some (.bool m1) ∧ w'.cell? ⟨lb, lo + 1, none⟩ = some (.string s1)) ∧ (w'.cell? ⟨ob, oo, none⟩ = some (.bool m1) ∧ w'.cell? ⟨ob, oo + 1, none⟩ = some (.string s1))) (fun fu li ac Wn => (fun w' => Below Wb.heap.size Wb w' ∧ (w'.cell? ⟨lb, lo, none⟩ = some (.bool m1) ∧ w'.cell? ⟨lb, lo + 1, none⟩ = some (.string s1)) ∧ (w'.cell? ⟨ob, oo, none⟩ = some (.bool m1) ∧ w'.cell? ⟨ob, oo + 1, none⟩ = some (.string s1))) Wn ∧ ((fu = 59 ∧ li = #[false, false, false, false, false, false, false, false, false, false, false, false, false, false, false, false, false, false, false, false, false, false, false, false, false, false, false, false, false, false, false, false, false, false, false, false, false, false, false, false, false, false, false, false, false, false, false, false, false, false, false, false, false, false, false, false, false, false, false] ∧ ac = { tmps := #[.slice (some { block := lb, off := lo }) n c, undef, u2, .slice (some { block := ob, off := oo }) n oc, .int .i64 0, .slice (some { block := lb, off := lo }) n c, .int .i64 ↑n, .bool (decide ((20 : Int) < (n : Int))), .bool (decide ((20 : Int) < (n : Int))), .slice (some { block := lb, off := lo }) n c, .bool false, .bool (decide ((20 : Int) < (n : Int))), undef, .slice (some ⟨w.heap.size, 0, none⟩) 0 0, .slice (some { block := lb, off := lo }) n c, .slice (some { block := ob, off := oo }) n oc, .slice (some { block := ob, off := oo }) n oc, .agg #[.bool z, .string o], .slice (some { block := lb, off := lo }) n c, .agg #[.bool z, .string o], .bool false, .int .i64 0, .slice (some { block := lb, off := lo }) n c, .int .i64 ↑n, .bool true, u25, u26, u27, u28, u29, u30, u31, u32, u33, u34, u35, u36, u37, u38, u39, u40, u41, u42, u43, u44, u45, u46, u47, u48, u49, u50, u51, u52, u53, u54, u55, u56, u57, u58, u59, u60, u61, u62, u63, u64, u65, u66, u67, u68, u69, u70, u71, u72, u73, u74, u75, u76, u77, u78, u79, u80, u81, u82, u83, u84, u85, undef], defers := [] }))) (by kernel_rfl) ?_ ?_
              · exact ⟨hin, ⟨rfl, rfl, rfl⟩⟩
              · clear hin
                rintro fu li ac Wn ⟨hS, hI⟩ IH
                obtain ⟨rfl, rfl, rfl⟩ := hI
                refine dag_take (i := 0) (d := some 27) (v := ?v0n1) rfl rfl (by kernel_rfl) (by kernel_rfl) (by kernel_rfl) (fun _ _ _ h => h) (Or.inl ⟨by rfl, ?y0n1⟩) hS ?_
                case y0n1 => intro w hSw; (try dsimp only at hSw); go_simp; first | done | with_reducible rfl
                try simp only [Act.put, List.setIfInBounds_toArray, List.set_cons_zero, List.set_cons_succ]
                refine dag_take (i := 1) (d := some 28) (v := ?v1n2) rfl rfl (by kernel_rfl) (by kernel_rfl) (by kernel_rfl) (fun _ _ _ h => h) (Or.inl ⟨by rfl, ?y1n2⟩) hS ?_
                case y1n2 => intro w hSw; (try dsimp only at hSw); go_simp; first | done | with_reducible rfl
                try simp only [Act.put, List.setIfInBounds_toArray, List.set_cons_zero, List.set_cons_succ]
                refine dag_take (i := 2) (d := some 29) (v := ?v2n3) rfl rfl (by kernel_rfl) (by kernel_rfl) (by kernel_rfl) (fun _ _ _ h => h) (Or.inl ⟨by rfl, ?y2n3⟩) hS ?_
                case y2n3 => intro w hSw; (try dsimp only at hSw); go_simp; first | done | with_reducible rfl
                try simp only [Act.put, List.setIfInBounds_toArray, List.set_cons_zero, List.set_cons_succ]
                refine dag_take (i := 3) (d := some 30) (v := ?v3n4) rfl rfl (by kernel_rfl) (by kernel_rfl) (by kernel_rfl) (fun _ _ _ h => h) (Or.inl ⟨by rfl, ?y3n4⟩) hS ?_
                case y3n4 => intro w hSw; (try dsimp only at hSw); go_simp; first | done | with_reducible rfl
                try simp only [Act.put, List.setIfInBounds_toArray, List.set_cons_zero, List.set_cons_succ]
                refine dag_take (i := 4) (d := some 31) (v := ?v4n5) rfl rfl (by kernel_rfl) (by kernel_rfl) (by kernel_rfl) (fun _ _ _ h => h) (Or.inl ⟨by rfl, ?y4n5⟩) hS ?_
                case y4n5 => intro w hSw; (try dsimp only at hSw); go_simp; first | done | with_reducible rfl
                try simp only [Act.put, List.setIfInBounds_toArray, List.set_cons_zero, List.set_cons_succ]
                refine dag_take (i := 5) (d := some 32) (v := ?v5n6) rfl rfl (by kernel_rfl) (by kernel_rfl) (by kernel_rfl) (fun _ _ _ h => h) (Or.inl ⟨by rfl, ?y5n6⟩) hS ?_
                case y5n6 => intro w hSw; (try dsimp only at hSw); go_simp; first | done | with_reducible rfl
                try simp only [Act.put, List.setIfInBounds_toArray, List.set_cons_zero, List.set_cons_succ]
                refine dag_take (i := 6) (d := some 33) (v := ?v6n7) rfl rfl (by kernel_rfl) (by kernel_rfl) (by kernel_rfl) (fun _ _ _ h => h) (Or.inl ⟨by rfl, ?y6n7⟩) hS ?_
                case y6n7 => intro w hSw; (try dsimp only at hSw); go_simp; first | done | with_reducible rfl
                try simp only [Act.put, List.setIfInBounds_toArray, List.set_cons_zero, List.set_cons_succ]
                refine dag_take (i := 7) (d := some 34) (v := ?v7n8) rfl rfl (by kernel_rfl) (by kernel_rfl) (by kernel_rfl) (fun _ _ _ h => h) (Or.inl ⟨by rfl, ?y7n8⟩) hS ?_
                case y7n8 => intro w hSw; (try dsimp only at hSw); go_simp; first | done | with_reducible rfl
                try simp only [Act.put, List.setIfInBounds_toArray, List.set_cons_zero, List.set_cons_succ]
                refine dag_take (i := 8) (d := some 35) (v := ?v8n9) rfl rfl (by kernel_rfl) (by kernel_rfl) (by kernel_rfl) (fun _ _ _ h => h) (Or.inl ⟨by rfl, ?y8n9⟩) hS ?_
                case y8n9 => intro w hSw; (try dsimp only at hSw); go_simp; first | done | with_reducible rfl
                try simp only [Act.put, List.setIfInBounds_toArray, List.set_cons_zero, List.set_cons_succ]
                refine dag_take (i := 9) (d := some 36) (v := ?v9n10) rfl rfl (by kernel_rfl) (by kernel_rfl) (by kernel_rfl) (fun _ _ _ h => h) (Or.inl ⟨by rfl, ?y9n10⟩) hS ?_
                case y9n10 => intro w hSw; (try dsimp only at hSw); go_simp; first | done | with_reducible rfl
                try simp only [Act.put, List.setIfInBounds_toArray, List.set_cons_zero, List.set_cons_succ]
                refine dag_take (i := 10) (d := some 37) (v := ?v10n11) rfl rfl (by kernel_rfl) (by kernel_rfl) (by kernel_rfl) (fun _ _ _ h => h) (Or.inl ⟨by rfl, ?y10n11⟩) hS ?_
                case y10n11 => intro w hSw; (try dsimp only at hSw); go_simp; first | done | with_reducible rfl
                try simp only [Act.put, List.setIfInBounds_toArray, List.set_cons_zero, List.set_cons_succ]
                refine dag_take (i := 11) (d := some 38) (v := ?v11n12) rfl rfl (by kernel_rfl) (by kernel_rfl) (by kernel_rfl) (fun _ _ _ h => h) (Or.inl ⟨by rfl, ?y11n12⟩) hS ?_
                case y11n12 => intro w hSw; (try dsimp only at hSw); go_simp; first | done | with_reducible rfl
                try simp only [Act.put, List.setIfInBounds_toArray, List.set_cons_zero, List.set_cons_succ]
                refine dag_take (i := 12) (d := some 39) (v := ?v12n13) rfl rfl (by kernel_rfl) (by kernel_rfl) (by kernel_rfl) (fun _ _ _ h => h) (Or.inl ⟨by rfl, ?y12n13⟩) hS ?_
                case y12n13 => intro w hSw; (try dsimp only at hSw); go_simp; first | done | with_reducible rfl
                try simp only [Act.put, List.setIfInBounds_toArray, List.set_cons_zero, List.set_cons_succ]
                refine dag_take (i := 13) (d := some 40) (v := undef) rfl rfl (by kernel_rfl) (by kernel_rfl) (by kernel_rfl) (fun _ _ _ h => h) (Or.inr ⟨by rfl, rfl⟩) hS ?_
                try simp only [Act.put, List.setIfInBounds_toArray, List.set_cons_zero, List.set_cons_succ]
                refine dag_take (i := 14) (d := some 41) (v := undef) rfl rfl (by kernel_rfl) (by kernel_rfl) (by kernel_rfl) (fun _ _ _ h => h) (Or.inr ⟨by rfl, rfl⟩) hS ?_
                try simp only [Act.put, List.setIfInBounds_toArray, List.set_cons_zero, List.set_cons_succ]
                refine dag_take (i := 15) (d := some 42) (v := undef) rfl rfl (by kernel_rfl) (by kernel_rfl) (by kernel_rfl) (fun _ _ _ h => h) (Or.inr ⟨by rfl, rfl⟩) hS ?_
                try simp only [Act.put, List.setIfInBounds_toArray, List.set_cons_zero, List.set_cons_succ]
                refine dag_take (i := 16) (d := some 43) (v := undef) rfl rfl (by kernel_rfl) (by kernel_rfl) (by kernel_rfl) (fun _ _ _ h => h) (Or.inr ⟨by rfl, rfl⟩) hS ?_
                try simp only [Act.put, List.setIfInBounds_toArray, List.set_cons_zero, List.set_cons_succ]
                refine dag_take (i := 17) (d := some 44) (v := undef) rfl rfl (by kernel_rfl) (by kernel_rfl) (by kernel_rfl) (fun _ _ _ h => h) (Or.inr ⟨by rfl, rfl⟩) hS ?_
                try simp only [Act.put, List.setIfInBounds_toArray, List.set_cons_zero, List.set_cons_succ]
                refine dag_take (i := 18) (d := some 45) (v := undef) rfl rfl (by kernel_rfl) (by kernel_rfl) (by kernel_rfl) (fun _ _ _ h => h) (Or.inr ⟨by rfl, rfl⟩) hS ?_
                try simp only [Act.put, List.setIfInBounds_toArray, List.set_cons_zero, List.set_cons_succ]
                refine dag_take (i := 19) (d := some 46) (v := undef) rfl rfl (by kernel_rfl) (by kernel_rfl) (by kernel_rfl) (fun _ _ _ h => h) (Or.inr ⟨by rfl, rfl⟩) hS ?_
                try simp only [Act.put, List.setIfInBounds_toArray, List.set_cons_zero, List.set_cons_succ]
                refine dag_take (i := 20) (d := some 47) (v := undef) rfl rfl (by kernel_rfl) (by kernel_rfl) (by kernel_rfl) (fun _ _ _ h => h) (Or.inr ⟨by rfl, rfl⟩) hS ?_
                try simp only [Act.put, List.setIfInBounds_toArray, List.set_cons_zero, List.set_cons_succ]
                refine dag_take (i := 21) (d := some 48) (v := undef) rfl rfl (by kernel_rfl) (by kernel_rfl) (by kernel_rfl) (fun _ _ _ h => h) (Or.inr ⟨by rfl, rfl⟩) hS ?_
                try simp only [Act.put, List.setIfInBounds_toArray, List.set_cons_zero, List.set_cons_succ]
                refine dag_take (i := 22) (d := some 49) (v := undef) rfl rfl (by kernel_rfl) (by kernel_rfl) (by kernel_rfl) (fun _ _ _ h => h) (Or.inr ⟨by rfl, rfl⟩) hS ?_
                try simp only [Act.put, List.setIfInBounds_toArray, List.set_cons_zero, List.set_cons_succ]
                refine dag_take (i := 23) (d := some 50) (v := undef) rfl rfl (by kernel_rfl) (by kernel_rfl) (by kernel_rfl) (fun _ _ _ h => h) (Or.inr ⟨by rfl, rfl⟩) hS ?_
                try simp only [Act.put, List.setIfInBounds_toArray, List.set_cons_zero, List.set_cons_succ]
                refine dag_take (i := 24) (d := some 51) (v := undef) rfl rfl (by kernel_rfl) (by kernel_rfl) (by kernel_rfl) (fun _ _ _ h => h) (Or.inr ⟨by rfl, rfl⟩) hS ?_
                try simp only [Act.put, List.setIfInBounds_toArray, List.set_cons_zero, List.set_cons_succ]
                refine dag_take (i := 25) (d := some 52) (v := undef) rfl rfl (by kernel_rfl) (by kernel_rfl) (by kernel_rfl) (fun _ _ _ h => h) (Or.inr ⟨by rfl, rfl⟩) hS ?_
                try simp only [Act.put, List.setIfInBounds_toArray, List.set_cons_zero, List.set_cons_succ]
                refine dag_take (i := 26) (d := some 53) (v := undef) rfl rfl (by kernel_rfl) (by kernel_rfl) (by kernel_rfl) (fun _ _ _ h => h) (Or.inr ⟨by rfl, rfl⟩) hS ?_
                try simp only [Act.put, List.setIfInBounds_toArray, List.set_cons_zero, List.set_cons_succ]
                refine dag_take (i := 27) (d := some 54) (v := undef) rfl rfl (by kernel_rfl) (by kernel_rfl) (by kernel_rfl) (fun _ _ _ h => h) (Or.inr ⟨by rfl, rfl⟩) hS ?_
                try simp only [Act.put, List.setIfInBounds_toArray, List.set_cons_zero, List.set_cons_succ]
                refine dag_take (i := 28) (d := some 55) (v := undef) rfl rfl (by kernel_rfl) (by kernel_rfl) (by kernel_rfl) (fun _ _ _ h => h) (Or.inr ⟨by rfl, rfl⟩) hS ?_
                try simp only [Act.put, List.setIfInBounds_toArray, List.set_cons_zero, List.set_cons_succ]
                refine dag_take (i := 29) (d := some 56) (v := undef) rfl rfl (by kernel_rfl) (by kernel_rfl) (by kernel_rfl) (fun _ _ _ h => h) (Or.inr ⟨by rfl, rfl⟩) hS ?_
                try simp only [Act.put, List.setIfInBounds_toArray, List.set_cons_zero, List.set_cons_succ]
                refine dag_take (i := 30) (d := some 57) (v := undef) rfl rfl (by kernel_rfl) (by kernel_rfl) (by kernel_rfl) (fun _ _ _ h => h) (Or.inr ⟨by rfl, rfl⟩) hS ?_
                try simp only [Act.put, List.setIfInBounds_toArray, List.set_cons_zero, List.set_cons_succ]
                refine dag_take (i := 31) (d := some 58) (v := undef) rfl rfl (by kernel_rfl) (by kernel_rfl) (by kernel_rfl) (fun _ _ _ h => h) (Or.inr ⟨by rfl, rfl⟩) hS ?_
                try simp only [Act.put, List.setIfInBounds_toArray, List.set_cons_zero, List.set_cons_succ]
                refine dag_take (i := 32) (d := some 59) (v := undef) rfl rfl (by kernel_rfl) (by kernel_rfl) (by kernel_rfl) (fun _ _ _ h => h) (Or.inr ⟨by rfl, rfl⟩) hS ?_
                try simp only [Act.put, List.setIfInBounds_toArray, List.set_cons_zero, List.set_cons_succ]
                refine dag_take (i := 33) (d := some 60) (v := undef) rfl rfl (by kernel_rfl) (by kernel_rfl) (by kernel_rfl) (fun _ _ _ h => h) (Or.inr ⟨by rfl, rfl⟩) hS ?_
                try simp only [Act.put, List.setIfInBounds_toArray, List.set_cons_zero, List.set_cons_succ]
                refine dag_take (i := 34) (d := some 61) (v := undef) rfl rfl (by kernel_rfl) (by kernel_rfl) (by kernel_rfl) (fun _ _ _ h => h) (Or.inr ⟨by rfl, rfl⟩) hS ?_
                try simp only [Act.put, List.setIfInBounds_toArray, List.set_cons_zero, List.set_cons_succ]
                refine dag_take (i := 35) (d := some 62) (v := undef) rfl rfl (by kernel_rfl) (by kernel_rfl) (by kernel_rfl) (fun _ _ _ h => h) (Or.inr ⟨by rfl, rfl⟩) hS ?_
                try simp only [Act.put, List.setIfInBounds_toArray, List.set_cons_zero, List.set_cons_succ]
                refine dag_take (i := 36) (d := some 63) (v := undef) rfl rfl (by kernel_rfl) (by kernel_rfl) (by kernel_rfl) (fun _ _ _ h => h) (Or.inr ⟨by rfl, rfl⟩) hS ?_
                try simp only [Act.put, List.setIfInBounds_toArray, List.set_cons_zero, List.set_cons_succ]
                refine dag_take (i := 37) (d := some 64) (v := undef) rfl rfl (by kernel_rfl) (by kernel_rfl) (by kernel_rfl) (fun _ _ _ h => h) (Or.inr ⟨by rfl, rfl⟩) hS ?_
                try simp only [Act.put, List.setIfInBounds_toArray, List.set_cons_zero, List.set_cons_succ]
                refine dag_take (i := 38) (d := some 65) (v := undef) rfl rfl (by kernel_rfl) (by kernel_rfl) (by kernel_rfl) (fun _ _ _ h => h) (Or.inr ⟨by rfl, rfl⟩) hS ?_
                try simp only [Act.put, List.setIfInBounds_toArray, List.set_cons_zero, List.set_cons_succ]
                refine dag_take (i := 39) (d := some 66) (v := undef) rfl rfl (by kernel_rfl) (by kernel_rfl) (by kernel_rfl) (fun _ _ _ h => h) (Or.inr ⟨by rfl, rfl⟩) hS ?_
                try simp only [Act.put, List.setIfInBounds_toArray, List.set_cons_zero, List.set_cons_succ]
                refine dag_take (i := 40) (d := some 67) (v := undef) rfl rfl (by kernel_rfl) (by kernel_rfl) (by kernel_rfl) (fun _ _ _ h => h) (Or.inr ⟨by rfl, rfl⟩) hS ?_
                try simp only [Act.put, List.setIfInBounds_toArray, List.set_cons_zero, List.set_cons_succ]
                refine dag_take (i := 41) (d := some 68) (v := undef) rfl rfl (by kernel_rfl) (by kernel_rfl) (by kernel_rfl) (fun _ _ _ h => h) (Or.inr ⟨by rfl, rfl⟩) hS ?_
                try simp only [Act.put, List.setIfInBounds_toArray, List.set_cons_zero, List.set_cons_succ]
                refine dag_take (i := 42) (d := some 69) (v := undef) rfl rfl (by kernel_rfl) (by kernel_rfl) (by kernel_rfl) (fun _ _ _ h => h) (Or.inr ⟨by rfl, rfl⟩) hS ?_
                try simp only [Act.put, List.setIfInBounds_toArray, List.set_cons_zero, List.set_cons_succ]
                refine dag_take (i := 43) (d := some 70) (v := undef) rfl rfl (by kernel_rfl) (by kernel_rfl) (by kernel_rfl) (fun _ _ _ h => h) (Or.inr ⟨by rfl, rfl⟩) hS ?_
                try simp only [Act.put, List.setIfInBounds_toArray, List.set_cons_zero, List.set_cons_succ]
                refine dag_take (i := 44) (d := some 71) (v := undef) rfl rfl (by kernel_rfl) (by kernel_rfl) (by kernel_rfl) (fun _ _ _ h => h) (Or.inr ⟨by rfl, rfl⟩) hS ?_
                try simp only [Act.put, List.setIfInBounds_toArray, List.set_cons_zero, List.set_cons_succ]
                refine dag_take (i := 45) (d := some 72) (v := undef) rfl rfl (by kernel_rfl) (by kernel_rfl) (by kernel_rfl) (fun _ _ _ h => h) (Or.inr ⟨by rfl, rfl⟩) hS ?_
                try simp only [Act.put, List.setIfInBounds_toArray, List.set_cons_zero, List.set_cons_succ]
                refine dag_take (i := 46) (d := some 73) (v := undef) rfl rfl (by kernel_rfl) (by kernel_rfl) (by kernel_rfl) (fun _ _ _ h => h) (Or.inr ⟨by rfl, rfl⟩) hS ?_
                try simp only [Act.put, List.setIfInBounds_toArray, List.set_cons_zero, List.set_cons_succ]
                refine dag_take (i := 47) (d := some 74) (v := undef) rfl rfl (by kernel_rfl) (by kernel_rfl) (by kernel_rfl) (fun _ _ _ h => h) (Or.inr ⟨by rfl, rfl⟩) hS ?_
                try simp only [Act.put, List.setIfInBounds_toArray, List.set_cons_zero, List.set_cons_succ]
                refine dag_take (i := 48) (d := some 75) (v := undef) rfl rfl (by kernel_rfl) (by kernel_rfl) (by kernel_rfl) (fun _ _ _ h => h) (Or.inr ⟨by rfl, rfl⟩) hS ?_
                try simp only [Act.put, List.setIfInBounds_toArray, List.set_cons_zero, List.set_cons_succ]
                refine dag_take (i := 49) (d := some 76) (v := undef) rfl rfl (by kernel_rfl) (by kernel_rfl) (by kernel_rfl) (fun _ _ _ h => h) (Or.inr ⟨by rfl, rfl⟩) hS ?_
                try simp only [Act.put, List.setIfInBounds_toArray, List.set_cons_zero, List.set_cons_succ]
                refine dag_take (i := 50) (d := some 77) (v := undef) rfl rfl (by kernel_rfl) (by kernel_rfl) (by kernel_rfl) (fun _ _ _ h => h) (Or.inr ⟨by rfl, rfl⟩) hS ?_
                try simp only [Act.put, List.setIfInBounds_toArray, List.set_cons_zero, List.set_cons_succ]
                refine dag_take (i := 51) (d := some 78) (v := undef) rfl rfl (by kernel_rfl) (by kernel_rfl) (by kernel_rfl) (fun _ _ _ h => h) (Or.inr ⟨by rfl, rfl⟩) hS ?_
                try simp only [Act.put, List.setIfInBounds_toArray, List.set_cons_zero, List.set_cons_succ]
                refine dag_take (i := 52) (d := some 79) (v := undef) rfl rfl (by kernel_rfl) (by kernel_rfl) (by kernel_rfl) (fun _ _ _ h => h) (Or.inr ⟨by rfl, rfl⟩) hS ?_
                try simp only [Act.put, List.setIfInBounds_toArray, List.set_cons_zero, List.set_cons_succ]
                refine dag_take (i := 53) (d := some 80) (v := undef) rfl rfl (by kernel_rfl) (by kernel_rfl) (by kernel_rfl) (fun _ _ _ h => h) (Or.inr ⟨by rfl, rfl⟩) hS ?_
                try simp only [Act.put, List.setIfInBounds_toArray, List.set_cons_zero, List.set_cons_succ]
                refine dag_take (i := 54) (d := some 81) (v := undef) rfl rfl (by kernel_rfl) (by kernel_rfl) (by kernel_rfl) (fun _ _ _ h => h) (Or.inr ⟨by rfl, rfl⟩) hS ?_
                try simp only [Act.put, List.setIfInBounds_toArray, List.set_cons_zero, List.set_cons_succ]
                refine dag_take (i := 55) (d := some 82) (v := undef) rfl rfl (by kernel_rfl) (by kernel_rfl) (by kernel_rfl) (fun _ _ _ h => h) (Or.inr ⟨by rfl, rfl⟩) hS ?_
                try simp only [Act.put, List.setIfInBounds_toArray, List.set_cons_zero, List.set_cons_succ]
                refine dag_take (i := 56) (d := some 83) (v := undef) rfl rfl (by kernel_rfl) (by kernel_rfl) (by kernel_rfl) (fun _ _ _ h => h) (Or.inr ⟨by rfl, rfl⟩) hS ?_
                try simp only [Act.put, List.setIfInBounds_toArray, List.set_cons_zero, List.set_cons_succ]
                refine dag_take (i := 57) (d := some 84) (v := ?v57n14) rfl rfl (by kernel_rfl) (by kernel_rfl) (by kernel_rfl) (fun _ _ _ h => h) (Or.inl ⟨by rfl, ?y57n14⟩) hS ?_
                case y57n14 => intro w hSw; (try dsimp only at hSw); go_simp; first | done | with_reducible rfl
                try simp only [Act.put, List.setIfInBounds_toArray, List.set_cons_zero, List.set_cons_succ]
                refine dag_take (i := 58) (d := some 85) (v := ?v58n15) rfl rfl (by kernel_rfl) (by kernel_rfl) (by kernel_rfl) (fun _ _ _ h => h) (Or.inl ⟨by rfl, ?y58n15⟩) hS ?_
                case y58n15 => intro w hSw; (try dsimp only at hSw); go_simp; first | done | with_reducible rfl
                try simp only [Act.put, List.setIfInBounds_toArray, List.set_cons_zero, List.set_cons_succ]
                refine wpAnyH_done (by kernel_rfl) ?_ _
                clear IH
                go_wp2
                go_roundw
                case rel => exact ⟨1, by omega, by simp, hS.1⟩
                case measure => simp [intAd]; omega
            · obtain ⟨j, rfl⟩ : ∃ j, k = j + 1 := ⟨k - 1, by omega⟩
              have hk1 : j + 1 < l.length := by omega
              have hk2 : j < l.length := by omega
              obtain ⟨lb, lo, e1, hlb, hc1, hc2⟩ := hlW (j + 1) hk1
              obtain ⟨lb', lo', e3, hlb', hf1, hf2⟩ := hlW j hk2
              obtain ⟨ob, oo, e2, hob, hd1, hd2⟩ := hoW (j + 1) hk1
              obtain ⟨m1, s1, hx⟩ : ∃ m s, l[j + 1] = (m, s) := ⟨_, _, rfl⟩
              obtain ⟨m0, s0, hy⟩ : ∃ m s, l[j] = (m, s) := ⟨_, _, rfl⟩
              rw [hx] at hc1 hc2 hd1 hd2
              rw [hy] at hf1 hf2
              obtain rfl : a = ⟨lb, lo, none⟩ := by simpa using e1
              obtain ⟨rfl, rfl⟩ : lb = lb' ∧ lo = lo' := by simpa using e3
              subst e2
              have hss1 : s1.size ≤ 150 := by have := HS.out.1 l[j + 1] (List.getElem_mem hk1); rw [hx] at this; exact this
              have hss0 : s0.size ≤ 150 := by have := HS.out.1 l[j] (List.getElem_mem hk2); rw [hy] at this; exact this
              replace hc1 : wr.cell? ⟨lb, lo + (j + 1) * 2, none⟩ = some (.bool m1) := by rw [hbr.cell hlb]; exact hc1
              replace hc2 : wr.cell? ⟨lb, lo + (j + 1) * 2 + 1, none⟩ = some (.string s1) := by rw [hbr.cell hlb]; exact hc2
              replace hf1 : wr.cell? ⟨lb, lo + j * 2, none⟩ = some (.bool m0) := by rw [hbr.cell hlb]; exact hf1
              replace hf2 : wr.cell? ⟨lb, lo + j * 2 + 1, none⟩ = some (.string s0) := by rw [hbr.cell hlb]; exact hf2
              replace hd1 : wr.cell? ⟨ob, oo + (j + 1) * 2, none⟩ = some (.bool m1) := by rw [hbr.cell hob]; exact hd1
              replace hd2 : wr.cell? ⟨ob, oo + (j + 1) * 2 + 1, none⟩ = some (.string s1) := by rw [hbr.cell hob]; exact hd2
              clear e1 e3 hx hy hlW hoW
              obtain ⟨zd, dd, ed, _, _⟩ := minus_nmw m0 m1 s0 s1 (k := 150) hss0 hss1
              obtain ⟨cc, hcc⟩ : ∃ cc, sg (wv m0 s0 - wv m1 s1) = cc := ⟨_, rfl⟩
              have HD := Lib.hid (And.intro ed hcc)
              clear ed hcc
              go_wp2_with fail
              generalize decide ((j : Int) + 1 < (n : Int)) = b24
              have hgt : decide ((0 : Int) < (j : Int) + 1) = true := by apply decide_eq_true; omega
              have hge : (0 : Int) ≤ (j : Int) + 1 := by omega
              have hwj : IntKind.i64.wrap (j : Int) = (j : Int) := by rw [IntKind.wrap_i64]; omega
              have hjn : (j : Int) < (n : Int) := by omega
              have hin : (fun w' => Below Wb.heap.size Wb w' ∧ (w'.cell? ⟨ob, oo + (j + 1) * 2, none⟩ = some (.bool m1) ∧ w'.cell? ⟨ob, oo + (j + 1) * 2 + 1, none⟩ = some (.string s1)) ∧ (w'.cell? ⟨lb, lo + (j + 1) * 2, none⟩ = some (.bool m1) ∧ w'.cell? ⟨lb, lo + (j + 1) * 2 + 1, none⟩ = some (.string s1)) ∧ (w'.cell? ⟨lb, lo + j * 2, none⟩ = some (.bool m0) ∧ w'.cell? ⟨lb, lo + j * 2 + 1, none⟩ = some (.string s0))) wr.drew := ⟨hbr.drew, ⟨hd1, hd2⟩, ⟨hc1, hc2⟩, hf1, hf2⟩
              clear hc1 hc2 hd1 hd2 hf1 hf2
              refine region_dag (fun w' => Below Wb.heap.size Wb w' ∧ (w'.cell? ⟨ob, oo + (j + 1) * 2, none⟩ = some (.bool m1) ∧ w'.cell? ⟨ob, oo + (j + 1) * 2 + 1, none⟩ = some (.string s1)) ∧ (w'.cell? ⟨lb, lo + (j + 1) * 2, none⟩ = some (.bool m1) ∧ w'.cell? ⟨lb, lo + (j + 1) * 2 + 1, none⟩ = some (.string s1)) ∧ (w'.cell? ⟨lb, lo + j * 2, none⟩ = some (.bool m0) ∧ w'.cell? ⟨lb, lo + j * 2 + 1, none⟩ = some (.string s0))) (fun fu li ac Wn => (fun w' => Below Wb.heap.size Wb w' ∧ (w'.cell? ⟨ob, oo + (j + 1) * 2, none⟩ = some (.bool m1) ∧ w'.cell? ⟨ob, oo + (j + 1) * 2 + 1, none⟩ = some (.string s1)) ∧ (w'.cell? ⟨lb, lo + (j + 1) * 2, none⟩ = some (.bool m1) ∧ w'.cell? ⟨lb, lo + (j + 1) * 2 + 1, none⟩ = some (.string s1)) ∧ (w'.cell? ⟨lb, lo + j * 2, none⟩ = some (.bool m0) ∧ w'.cell? ⟨lb, lo + j * 2 + 1, none⟩ = some (.string s0))) Wn ∧ ((fu = 59 ∧ li = #[false, false, false, false, false, false, false, false, false, false, false, false, false, false, false, false, false, false, false, false, false, false, false, false, false, false, false, false, false, false, false, false, false, false, false, false, false, false, false, false, false, false, false, false, false, false, false, false, false, false, false, false, false, false, false, false, false, false, false] ∧ ac = { tmps := #[.slice (some { block := lb, off := lo }) n c, undef, u2, .slice (some { block := ob, off := oo }) n oc, .int .i64 ↑(j + 1), .slice (some { block := lb, off := lo }) n c, .int .i64 ↑n, .bool (decide ((20 : Int) < (n : Int))), .bool (decide ((20 : Int) < (n : Int))), .slice (some { block := lb, off := lo }) n c, .bool false, .bool (decide ((20 : Int) < (n : Int))), undef, .slice (some ⟨w.heap.size, 0, none⟩) 0 0, .slice (some { block := lb, off := lo }) n c, .slice (some { block := ob, off := oo }) n oc, .slice (some { block := ob, off := oo }) n oc, .agg #[.bool z, .string o], .slice (some { block := lb, off := lo }) n c, .agg #[.bool z, .string o], .bool false, .int .i64 ↑(j + 1), .slice (some { block := lb, off := lo }) n c, .int .i64 ↑n, .bool b24, u25, u26, u27, u28, u29, u30, u31, u32, u33, u34, u35, u36, u37, u38, u39, u40, u41, u42, u43, u44, u45, u46, u47, u48, u49, u50, u51, u52, u53, u54, u55, u56, u57, u58, u59, u60, u61, u62, u63, u64, u65, u66, u67, u68, u69, u70, u71, u72, u73, u74, u75, u76, u77, u78, u79, u80, u81, u82, u83, u84, u85, undef], defers := [] }) ∨ (fu = 27 ∧ li = #[true, true, true, true, true, true, true, true, true, true, true, true, true, true, true, true, true, true, true, true, true, true, true, true, true, true, true, true, true, true, true, true, false, false, false, false, false, false, false, false, false, false, false, false, false, false, false, false, false, false, false, false, false, false, false, false, false, false, false] ∧ ∃ (x27 : Value) (x28 : Value) (x29 : Value) (x30 : Value) (x31 : Value) (x32 : Value) (x33 : Value) (x34 : Value) (x35 : Value) (x37 : Value) (x38 : Value) (x40 : Value) (x41 : Value) (x42 : Value) (x43 : Value) (x44 : Value) (x45 : Value) (x46 : Value) (x47 : Value) (x48 : Value) (x50 : Value) (x51 : Value) (x52 : Value) (x53 : Value) (x55 : Value) (x56 : Value) (x57 : Value), ac = { tmps := #[.slice (some { block := lb, off := lo }) n c, undef, u2, .slice (some { block := ob, off := oo }) n oc, .int .i64 ↑(j + 1), .slice (some { block := lb, off := lo }) n c, .int .i64 ↑n, .bool (decide ((20 : Int) < (n : Int))), .bool (decide ((20 : Int) < (n : Int))), .slice (some { block := lb, off := lo }) n c, .bool false, .bool (decide ((20 : Int) < (n : Int))), undef, .slice (some ⟨w.heap.size, 0, none⟩) 0 0, .slice (some { block := lb, off := lo }) n c, .slice (some { block := ob, off := oo }) n oc, .slice (some { block := ob, off := oo }) n oc, .agg #[.bool z, .string o], .slice (some { block := lb, off := lo }) n c, .agg #[.bool z, .string o], .bool false, .int .i64 ↑(j + 1), .slice (some { block := lb, off := lo }) n c, .int .i64 ↑n, .bool b24, u25, u26, x27, x28, x29, x30, x31, x32, x33, x34, x35, .bool false, x37, x38, .bool true, x40, x41, x42, x43, x44, x45, x46, x47, x48, .agg #[.bool zd, .string dd], x50, x51, x52, x53, .agg #[.bool m0, .string s0], x55, x56, x57, .agg #[.bool m1, .string s1], u59, u60, u61, u62, u63, u64, u65, u66, u67, u68, u69, u70, u71, u72, u73, u74, u75, u76, u77, u78, u79, u80, u81, u82, u83, u84, u85, undef], defers := [] }) ∨ (fu = 26 ∧ li = #[true, true, true, true, true, true, true, true, true, true, true, true, true, true, true, true, true, true, true, true, true, true, true, true, true, true, true, true, true, true, true, true, true, false, false, false, false, false, false, false, false, false, false, false, false, false, false, false, false, false, false, false, false, false, false, false, false, false, false] ∧ ∃ (x27 : Value) (x28 : Value) (x29 : Value) (x30 : Value) (x31 : Value) (x32 : Value) (x33 : Value) (x34 : Value) (x35 : Value) (x37 : Value) (x38 : Value) (x40 : Value) (x41 : Value) (x42 : Value) (x43 : Value) (x44 : Value) (x45 : Value) (x46 : Value) (x47 : Value) (x48 : Value) (x50 : Value) (x51 : Value) (x52 : Value) (x53 : Value) (x54 : Value) (x55 : Value) (x56 : Value) (x57 : Value) (x58 : Value), ac = { tmps := #[.slice (some { block := lb, off := lo }) n c, undef, u2, .slice (some { block := ob, off := oo }) n oc, .int .i64 ↑(j + 1), .slice (some { block := lb, off := lo }) n c, .int .i64 ↑n, .bool (decide ((20 : Int) < (n : Int))), .bool (decide ((20 : Int) < (n : Int))), .slice (some { block := lb, off := lo }) n c, .bool false, .bool (decide ((20 : Int) < (n : Int))), undef, .slice (some ⟨w.heap.size, 0, none⟩) 0 0, .slice (some { block := lb, off := lo }) n c, .slice (some { block := ob, off := oo }) n oc, .slice (some { block := ob, off := oo }) n oc, .agg #[.bool z, .string o], .slice (some { block := lb, off := lo }) n c, .agg #[.bool z, .string o], .bool false, .int .i64 ↑(j + 1), .slice (some { block := lb, off := lo }) n c, .int .i64 ↑n, .bool b24, u25, u26, x27, x28, x29, x30, x31, x32, x33, x34, x35, .bool false, x37, x38, .bool true, x40, x41, x42, x43, x44, x45, x46, x47, x48, .agg #[.bool zd, .string dd], x50, x51, x52, x53, x54, x55, x56, x57, x58, .agg #[.bool zd, .string dd], u60, u61, u62, u63, u64, u65, u66, u67, u68, u69, u70, u71, u72, u73, u74, u75, u76, u77, u78, u79, u80, u81, u82, u83, u84, u85, undef], defers := [] }) ∨ (fu = 5 ∧ li = #[true, true, true, true, true, true, true, true, true, true, true, true, true, true, true, true, true, true, true, true, true, true, true, true, true, true, true, true, true, true, true, true, true, true, true, true, true, true, true, true, true, true, true, true, true, true, true, true, true, true, true, true, true, true, false, false, false, false, false] ∧ ∃ (x27 : Value) (x28 : Value) (x29 : Value) (x30 : Value) (x31 : Value) (x32 : Value) (x33 : Value) (x34 : Value) (x35 : Value) (x37 : Value) (x38 : Value) (x40 : Value) (x41 : Value) (x42 : Value) (x43 : Value) (x44 : Value) (x45 : Value) (x46 : Value) (x47 : Value) (x48 : Value) (x49 : Value) (x50 : Value) (x51 : Value) (x52 : Value) (x53 : Value) (x54 : Value) (x55 : Value) (x56 : Value) (x57 : Value) (x58 : Value) (x59 : Value) (x60 : Value) (x62 : Value) (x63 : Value) (x64 : Value) (x65 : Value) (x66 : Value) (x67 : Value) (x68 : Value) (x69 : Value) (x70 : Value) (x72 : Value) (x73 : Value) (x74 : Value) (x75 : Value) (x77 : Value) (x78 : Value) (x79 : Value), ac = { tmps := #[.slice (some { block := lb, off := lo }) n c, undef, u2, .slice (some { block := ob, off := oo }) n oc, .int .i64 ↑(j + 1), .slice (some { block := lb, off := lo }) n c, .int .i64 ↑n, .bool (decide ((20 : Int) < (n : Int))), .bool (decide ((20 : Int) < (n : Int))), .slice (some { block := lb, off := lo }) n c, .bool false, .bool (decide ((20 : Int) < (n : Int))), undef, .slice (some ⟨w.heap.size, 0, none⟩) 0 0, .slice (some { block := lb, off := lo }) n c, .slice (some { block := ob, off := oo }) n oc, .slice (some { block := ob, off := oo }) n oc, .agg #[.bool z, .string o], .slice (some { block := lb, off := lo }) n c, .agg #[.bool z, .string o], .bool false, .int .i64 ↑(j + 1), .slice (some { block := lb, off := lo }) n c, .int .i64 ↑n, .bool b24, u25, u26, x27, x28, x29, x30, x31, x32, x33, x34, x35, .bool false, x37, x38, .bool true, x40, x41, x42, x43, x44, x45, x46, x47, x48, x49, x50, x51, x52, x53, x54, x55, x56, x57, x58, x59, x60, .bool false, x62, x63, x64, x65, x66, x67, x68, x69, x70, .int .i64 cc, x72, x73, x74, x75, .agg #[.bool m0, .string s0], x77, x78, x79, .agg #[.bool m1, .string s1], u81, u82, u83, u84, u85, undef], defers := [] }) ∨ (fu = 4 ∧ li = #[true, true, true, true, true, true, true, true, true, true, true, true, true, true, true, true, true, true, true, true, true, true, true, true, true, true, true, true, true, true, true, true, true, true, true, true, true, true, true, true, true, true, true, true, true, true, true, true, true, true, true, true, true, true, true, false, false, false, false] ∧ ∃ (x27 : Value) (x28 : Value) (x29 : Value) (x30 : Value) (x31 : Value) (x32 : Value) (x33 : Value) (x34 : Value) (x35 : Value) (x37 : Value) (x38 : Value) (x40 : Value) (x41 : Value) (x42 : Value) (x43 : Value) (x44 : Value) (x45 : Value) (x46 : Value) (x47 : Value) (x48 : Value) (x49 : Value) (x50 : Value) (x51 : Value) (x52 : Value) (x53 : Value) (x54 : Value) (x55 : Value) (x56 : Value) (x57 : Value) (x58 : Value) (x59 : Value) (x60 : Value) (x62 : Value) (x63 : Value) (x64 : Value) (x65 : Value) (x66 : Value) (x67 : Value) (x68 : Value) (x69 : Value) (x70 : Value) (x72 : Value) (x73 : Value) (x74 : Value) (x75 : Value) (x76 : Value) (x77 : Value) (x78 : Value) (x79 : Value) (x80 : Value), ac = { tmps := #[.slice (some { block := lb, off := lo }) n c, undef, u2, .slice (some { block := ob, off := oo }) n oc, .int .i64 ↑(j + 1), .slice (some { block := lb, off := lo }) n c, .int .i64 ↑n, .bool (decide ((20 : Int) < (n : Int))), .bool (decide ((20 : Int) < (n : Int))), .slice (some { block := lb, off := lo }) n c, .bool false, .bool (decide ((20 : Int) < (n : Int))), undef, .slice (some ⟨w.heap.size, 0, none⟩) 0 0, .slice (some { block := lb, off := lo }) n c, .slice (some { block := ob, off := oo }) n oc, .slice (some { block := ob, off := oo }) n oc, .agg #[.bool z, .string o], .slice (some { block := lb, off := lo }) n c, .agg #[.bool z, .string o], .bool false, .int .i64 ↑(j + 1), .slice (some { block := lb, off := lo }) n c, .int .i64 ↑n, .bool b24, u25, u26, x27, x28, x29, x30, x31, x32, x33, x34, x35, .bool false, x37, x38, .bool true, x40, x41, x42, x43, x44, x45, x46, x47, x48, x49, x50, x51, x52, x53, x54, x55, x56, x57, x58, x59, x60, .bool false, x62, x63, x64, x65, x66, x67, x68, x69, x70, .int .i64 cc, x72, x73, x74, x75, x76, x77, x78, x79, x80, .int .i64 cc, u82, u83, u84, u85, undef], defers := [] }))) (by kernel_rfl) ?_ ?_
              · exact ⟨hin, Or.inl (⟨rfl, rfl, rfl⟩)⟩
              · clear hin
                rintro fu li ac Wn ⟨hS, hI⟩ IH
                rcases hI with ⟨rfl, rfl, rfl⟩ | hI
                · refine dag_take (i := 0) (d := some 27) (v := ?v0n16) rfl rfl (by kernel_rfl) (by kernel_rfl) (by kernel_rfl) (fun _ _ _ h => h) (Or.inl ⟨by rfl, ?y0n16⟩) hS ?_
                  case y0n16 => intro w hSw; (try dsimp only at hSw); go_simp; first | done | with_reducible rfl
                  try simp only [Act.put, List.setIfInBounds_toArray, List.set_cons_zero, List.set_cons_succ]
                  refine dag_take (i := 1) (d := some 28) (v := ?v1n17) rfl rfl (by kernel_rfl) (by kernel_rfl) (by kernel_rfl) (fun _ _ _ h => h) (Or.inl ⟨by rfl, ?y1n17⟩) hS ?_
                  case y1n17 => intro w hSw; (try dsimp only at hSw); go_simp; first | done | with_reducible rfl
                  try simp only [Act.put, List.setIfInBounds_toArray, List.set_cons_zero, List.set_cons_succ]
                  refine dag_take (i := 2) (d := some 29) (v := ?v2n18) rfl rfl (by kernel_rfl) (by kernel_rfl) (by kernel_rfl) (fun _ _ _ h => h) (Or.inl ⟨by rfl, ?y2n18⟩) hS ?_
                  case y2n18 => intro w hSw; (try dsimp only at hSw); go_simp; first | done | with_reducible rfl
                  try simp only [Act.put, List.setIfInBounds_toArray, List.set_cons_zero, List.set_cons_succ]
                  refine dag_take (i := 3) (d := some 30) (v := ?v3n19) rfl rfl (by kernel_rfl) (by kernel_rfl) (by kernel_rfl) (fun _ _ _ h => h) (Or.inl ⟨by rfl, ?y3n19⟩) hS ?_
                  case y3n19 => intro w hSw; (try dsimp only at hSw); go_simp; first | done | with_reducible rfl
                  try simp only [Act.put, List.setIfInBounds_toArray, List.set_cons_zero, List.set_cons_succ]
                  refine dag_take (i := 4) (d := some 31) (v := ?v4n20) rfl rfl (by kernel_rfl) (by kernel_rfl) (by kernel_rfl) (fun _ _ _ h => h) (Or.inl ⟨by rfl, ?y4n20⟩) hS ?_
                  case y4n20 => intro w hSw; (try dsimp only at hSw); go_simp; first | done | with_reducible rfl
                  try simp only [Act.put, List.setIfInBounds_toArray, List.set_cons_zero, List.set_cons_succ]
                  refine dag_take (i := 5) (d := some 32) (v := ?v5n21) rfl rfl (by kernel_rfl) (by kernel_rfl) (by kernel_rfl) (fun _ _ _ h => h) (Or.inl ⟨by rfl, ?y5n21⟩) hS ?_
                  case y5n21 => intro w hSw; (try dsimp only at hSw); go_simp; first | done | with_reducible rfl
                  try simp only [Act.put, List.setIfInBounds_toArray, List.set_cons_zero, List.set_cons_succ]
                  refine dag_take (i := 6) (d := some 33) (v := ?v6n22) rfl rfl (by kernel_rfl) (by kernel_rfl) (by kernel_rfl) (fun _ _ _ h => h) (Or.inl ⟨by rfl, ?y6n22⟩) hS ?_
                  case y6n22 => intro w hSw; (try dsimp only at hSw); go_simp; first | done | with_reducible rfl
                  try simp only [Act.put, List.setIfInBounds_toArray, List.set_cons_zero, List.set_cons_succ]
                  refine dag_take (i := 7) (d := some 34) (v := ?v7n23) rfl rfl (by kernel_rfl) (by kernel_rfl) (by kernel_rfl) (fun _ _ _ h => h) (Or.inl ⟨by rfl, ?y7n23⟩) hS ?_
                  case y7n23 => intro w hSw; (try dsimp only at hSw); go_simp; first | done | with_reducible rfl
                  try simp only [Act.put, List.setIfInBounds_toArray, List.set_cons_zero, List.set_cons_succ]
                  refine dag_take (i := 8) (d := some 35) (v := ?v8n24) rfl rfl (by kernel_rfl) (by kernel_rfl) (by kernel_rfl) (fun _ _ _ h => h) (Or.inl ⟨by rfl, ?y8n24⟩) hS ?_
                  case y8n24 => intro w hSw; (try dsimp only at hSw); go_simp; first | done | with_reducible rfl
                  try simp only [Act.put, List.setIfInBounds_toArray, List.set_cons_zero, List.set_cons_succ]
                  refine dag_take (i := 9) (d := some 36) (v := ?v9n25) rfl rfl (by kernel_rfl) (by kernel_rfl) (by kernel_rfl) (fun _ _ _ h => h) (Or.inl ⟨by rfl, ?y9n25⟩) hS ?_
                  case y9n25 => intro w hSw; (try dsimp only at hSw); go_simp; first | done | with_reducible rfl
                  try simp only [Act.put, List.setIfInBounds_toArray, List.set_cons_zero, List.set_cons_succ]
                  refine dag_take (i := 10) (d := some 37) (v := ?v10n26) rfl rfl (by kernel_rfl) (by kernel_rfl) (by kernel_rfl) (fun _ _ _ h => h) (Or.inl ⟨by rfl, ?y10n26⟩) hS ?_
                  case y10n26 => intro w hSw; (try dsimp only at hSw); go_simp; first | done | with_reducible rfl
                  try simp only [Act.put, List.setIfInBounds_toArray, List.set_cons_zero, List.set_cons_succ]
                  refine dag_take (i := 11) (d := some 38) (v := ?v11n27) rfl rfl (by kernel_rfl) (by kernel_rfl) (by kernel_rfl) (fun _ _ _ h => h) (Or.inl ⟨by rfl, ?y11n27⟩) hS ?_
                  case y11n27 => intro w hSw; (try dsimp only at hSw); go_simp; first | done | with_reducible rfl
                  try simp only [Act.put, List.setIfInBounds_toArray, List.set_cons_zero, List.set_cons_succ]
                  refine dag_take (i := 12) (d := some 39) (v := ?v12n28) rfl rfl (by kernel_rfl) (by kernel_rfl) (by kernel_rfl) (fun _ _ _ h => h) (Or.inl ⟨by rfl, ?y12n28⟩) hS ?_
                  case y12n28 => intro w hSw; (try dsimp only at hSw); go_simp; first | done | with_reducible rfl
                  try simp only [Act.put, List.setIfInBounds_toArray, List.set_cons_zero, List.set_cons_succ]
                  refine dag_take (i := 13) (d := some 40) (v := ?v13n29) rfl rfl (by kernel_rfl) (by kernel_rfl) (by kernel_rfl) (fun _ _ _ h => h) (Or.inl ⟨by rfl, ?y13n29⟩) hS ?_
                  case y13n29 => intro w hSw; (try dsimp only at hSw); go_simp; first | done | with_reducible rfl
                  try simp only [Act.put, List.setIfInBounds_toArray, List.set_cons_zero, List.set_cons_succ]
                  refine dag_take (i := 14) (d := some 41) (v := ?v14n30) rfl rfl (by kernel_rfl) (by kernel_rfl) (by kernel_rfl) (fun _ _ _ h => h) (Or.inl ⟨by rfl, ?y14n30⟩) hS ?_
                  case y14n30 => intro w hSw; (try dsimp only at hSw); go_simp; first | done | with_reducible rfl
                  try simp only [Act.put, List.setIfInBounds_toArray, List.set_cons_zero, List.set_cons_succ]
                  refine dag_take (i := 15) (d := some 42) (v := ?v15n31) rfl rfl (by kernel_rfl) (by kernel_rfl) (by kernel_rfl) (fun _ _ _ h => h) (Or.inl ⟨by rfl, ?y15n31⟩) hS ?_
                  case y15n31 => intro w hSw; (try dsimp only at hSw); go_simp; first | done | with_reducible rfl
                  try simp only [Act.put, List.setIfInBounds_toArray, List.set_cons_zero, List.set_cons_succ]
                  refine dag_take (i := 16) (d := some 43) (v := ?v16n32) rfl rfl (by kernel_rfl) (by kernel_rfl) (by kernel_rfl) (fun _ _ _ h => h) (Or.inl ⟨by rfl, ?y16n32⟩) hS ?_
                  case y16n32 => intro w hSw; (try dsimp only at hSw); go_simp; first | done | with_reducible rfl
                  try simp only [Act.put, List.setIfInBounds_toArray, List.set_cons_zero, List.set_cons_succ]
                  refine dag_take (i := 17) (d := some 44) (v := ?v17n33) rfl rfl (by kernel_rfl) (by kernel_rfl) (by kernel_rfl) (fun _ _ _ h => h) (Or.inl ⟨by rfl, ?y17n33⟩) hS ?_
                  case y17n33 => intro w hSw; (try dsimp only at hSw); go_simp; first | done | with_reducible rfl
                  try simp only [Act.put, List.setIfInBounds_toArray, List.set_cons_zero, List.set_cons_succ]
                  refine dag_take (i := 18) (d := some 45) (v := ?v18n34) rfl rfl (by kernel_rfl) (by kernel_rfl) (by kernel_rfl) (fun _ _ _ h => h) (Or.inl ⟨by rfl, ?y18n34⟩) hS ?_
                  case y18n34 => intro w hSw; (try dsimp only at hSw); go_simp; first | done | with_reducible rfl
                  try simp only [Act.put, List.setIfInBounds_toArray, List.set_cons_zero, List.set_cons_succ]
                  refine dag_take (i := 19) (d := some 46) (v := ?v19n35) rfl rfl (by kernel_rfl) (by kernel_rfl) (by kernel_rfl) (fun _ _ _ h => h) (Or.inl ⟨by rfl, ?y19n35⟩) hS ?_
                  case y19n35 => intro w hSw; (try dsimp only at hSw); go_simp; first | done | with_reducible rfl
                  try simp only [Act.put, List.setIfInBounds_toArray, List.set_cons_zero, List.set_cons_succ]
                  refine dag_take (i := 20) (d := some 47) (v := ?v20n36) rfl rfl (by kernel_rfl) (by kernel_rfl) (by kernel_rfl) (fun _ _ _ h => h) (Or.inl ⟨by rfl, ?y20n36⟩) hS ?_
                  case y20n36 => intro w hSw; (try dsimp only at hSw); go_simp; first | done | with_reducible rfl
                  try simp only [Act.put, List.setIfInBounds_toArray, List.set_cons_zero, List.set_cons_succ]
                  refine dag_take (i := 21) (d := some 48) (v := ?v21n37) rfl rfl (by kernel_rfl) (by kernel_rfl) (by kernel_rfl) (fun _ _ _ h => h) (Or.inl ⟨by rfl, ?y21n37⟩) hS ?_
                  case y21n37 => intro w hSw; (try dsimp only at hSw); go_simp; first | done | with_reducible rfl
                  try simp only [Act.put, List.setIfInBounds_toArray, List.set_cons_zero, List.set_cons_succ]
                  refine dag_take (i := 23) (d := some 50) (v := ?v23n38) rfl rfl (by kernel_rfl) (by kernel_rfl) (by kernel_rfl) (fun _ _ _ h => h) (Or.inl ⟨by rfl, ?y23n38⟩) hS ?_
                  case y23n38 => intro w hSw; (try dsimp only at hSw); go_simp; first | done | with_reducible rfl
                  try simp only [Act.put, List.setIfInBounds_toArray, List.set_cons_zero, List.set_cons_succ]
                  refine dag_take (i := 24) (d := some 51) (v := ?v24n39) rfl rfl (by kernel_rfl) (by kernel_rfl) (by kernel_rfl) (fun _ _ _ h => h) (Or.inl ⟨by rfl, ?y24n39⟩) hS ?_
                  case y24n39 => intro w hSw; (try dsimp only at hSw); go_simp; first | done | with_reducible rfl
                  try simp only [Act.put, List.setIfInBounds_toArray, List.set_cons_zero, List.set_cons_succ]
                  refine dag_take (i := 25) (d := some 52) (v := ?v25n40) rfl rfl (by kernel_rfl) (by kernel_rfl) (by kernel_rfl) (fun _ _ _ h => h) (Or.inl ⟨by rfl, ?y25n40⟩) hS ?_
                  case y25n40 => intro w hSw; (try dsimp only at hSw); go_simp; first | done | with_reducible rfl
                  try simp only [Act.put, List.setIfInBounds_toArray, List.set_cons_zero, List.set_cons_succ]
                  refine dag_take (i := 26) (d := some 53) (v := ?v26n41) rfl rfl (by kernel_rfl) (by kernel_rfl) (by kernel_rfl) (fun _ _ _ h => h) (Or.inl ⟨by rfl, ?y26n41⟩) hS ?_
                  case y26n41 => intro w hSw; (try dsimp only at hSw); go_simp; first | done | with_reducible rfl
                  try simp only [Act.put, List.setIfInBounds_toArray, List.set_cons_zero, List.set_cons_succ]
                  refine dag_take (i := 27) (d := some 54) (v := ?v27n42) rfl rfl (by kernel_rfl) (by kernel_rfl) (by kernel_rfl) (fun _ _ _ h => h) (Or.inl ⟨by rfl, ?y27n42⟩) hS ?_
                  case y27n42 => intro w hSw; (try dsimp only at hSw); go_simp; first | done | with_reducible rfl
                  try simp only [Act.put, List.setIfInBounds_toArray, List.set_cons_zero, List.set_cons_succ]
                  refine dag_take (i := 28) (d := some 55) (v := ?v28n43) rfl rfl (by kernel_rfl) (by kernel_rfl) (by kernel_rfl) (fun _ _ _ h => h) (Or.inl ⟨by rfl, ?y28n43⟩) hS ?_
                  case y28n43 => intro w hSw; (try dsimp only at hSw); go_simp; first | done | with_reducible rfl
                  try simp only [Act.put, List.setIfInBounds_toArray, List.set_cons_zero, List.set_cons_succ]
                  refine dag_take (i := 29) (d := some 56) (v := ?v29n44) rfl rfl (by kernel_rfl) (by kernel_rfl) (by kernel_rfl) (fun _ _ _ h => h) (Or.inl ⟨by rfl, ?y29n44⟩) hS ?_
                  case y29n44 => intro w hSw; (try dsimp only at hSw); go_simp; first | done | with_reducible rfl
                  try simp only [Act.put, List.setIfInBounds_toArray, List.set_cons_zero, List.set_cons_succ]
                  refine dag_take (i := 30) (d := some 57) (v := ?v30n45) rfl rfl (by kernel_rfl) (by kernel_rfl) (by kernel_rfl) (fun _ _ _ h => h) (Or.inl ⟨by rfl, ?y30n45⟩) hS ?_
                  case y30n45 => intro w hSw; (try dsimp only at hSw); go_simp; first | done | with_reducible rfl
                  try simp only [Act.put, List.setIfInBounds_toArray, List.set_cons_zero, List.set_cons_succ]
                  refine dag_take (i := 31) (d := some 58) (v := ?v31n46) rfl rfl (by kernel_rfl) (by kernel_rfl) (by kernel_rfl) (fun _ _ _ h => h) (Or.inl ⟨by rfl, ?y31n46⟩) hS ?_
                  case y31n46 => intro w hSw; (try dsimp only at hSw); go_simp; first | done | with_reducible rfl
                  try simp only [Act.put, List.setIfInBounds_toArray, List.set_cons_zero, List.set_cons_succ]
                  refine wpAnyH_ready (rs := [22]) (by kernel_rfl) (by simp) ?_
                  refine AllReadyH.cons rfl (fun Kc hK => ?_) AllReadyH.nil
                  go_simp
                  go_fit (wsub_any _ m0 m1 s0 s1 (by omega) (by omega) zd dd HD.out.1)
                  rintro e V ⟨rfl, hq⟩
                  refine hK.out _ _ (hbc3 hq hS) (fun hS' => ?_)
                  exact IH.out _ _ _ _ (by omega) ⟨hS', Or.inr (Or.inl (⟨rfl, by kernel_rfl, _, _, _, _, _, _, _, _, _, _, _, _, _, _, _, _, _, _, _, _, _, _, _, _, _, _, _, rfl⟩))⟩
                rcases hI with ⟨rfl, rfl, x27, x28, x29, x30, x31, x32, x33, x34, x35, x37, x38, x40, x41, x42, x43, x44, x45, x46, x47, x48, x50, x51, x52, x53, x55, x56, x57, rfl⟩ | hI
                · refine wpAnyH_ready (rs := [32]) (by kernel_rfl) (by simp) ?_
                  refine AllReadyH.cons rfl (fun Kc hK => ?_) AllReadyH.nil
                  go_simp
                  go_fit (rsub_any _ m0 m1 s0 s1 (by omega) (by omega) zd dd HD.out.1)
                  rintro e V ⟨rfl, hq⟩
                  refine hK.out _ _ (hbc3 hq hS) (fun hS' => ?_)
                  exact IH.out _ _ _ _ (by omega) ⟨hS', Or.inr (Or.inr (Or.inl (⟨rfl, by kernel_rfl, _, _, _, _, _, _, _, _, _, _, _, _, _, _, _, _, _, _, _, _, _, _, _, _, _, _, _, _, _, rfl⟩)))⟩
                rcases hI with ⟨rfl, rfl, x27, x28, x29, x30, x31, x32, x33, x34, x35, x37, x38, x40, x41, x42, x43, x44, x45, x46, x47, x48, x50, x51, x52, x53, x54, x55, x56, x57, x58, rfl⟩ | hI
                · refine dag_take (i := 33) (d := some 60) (v := ?v33n47) rfl rfl (by kernel_rfl) (by kernel_rfl) (by kernel_rfl) (fun _ _ _ h => h) (Or.inl ⟨by rfl, ?y33n47⟩) hS ?_
                  case y33n47 => intro w hSw; (try dsimp only at hSw); go_simp; first | done | with_reducible rfl
                  try simp only [Act.put, List.setIfInBounds_toArray, List.set_cons_zero, List.set_cons_succ]
                  refine dag_take (i := 34) (d := some 61) (v := ?v34n48) rfl rfl (by kernel_rfl) (by kernel_rfl) (by kernel_rfl) (fun _ _ _ h => h) (Or.inl ⟨by rfl, ?y34n48⟩) hS ?_
                  case y34n48 => intro w hSw; (try dsimp only at hSw); go_simp; first | done | with_reducible rfl
                  try simp only [Act.put, List.setIfInBounds_toArray, List.set_cons_zero, List.set_cons_succ]
                  refine dag_take (i := 35) (d := some 62) (v := ?v35n49) rfl rfl (by kernel_rfl) (by kernel_rfl) (by kernel_rfl) (fun _ _ _ h => h) (Or.inl ⟨by rfl, ?y35n49⟩) hS ?_
                  case y35n49 => intro w hSw; (try dsimp only at hSw); go_simp; first | done | with_reducible rfl
                  try simp only [Act.put, List.setIfInBounds_toArray, List.set_cons_zero, List.set_cons_succ]
                  refine dag_take (i := 36) (d := some 63) (v := ?v36n50) rfl rfl (by kernel_rfl) (by kernel_rfl) (by kernel_rfl) (fun _ _ _ h => h) (Or.inl ⟨by rfl, ?y36n50⟩) hS ?_
                  case y36n50 => intro w hSw; (try dsimp only at hSw); go_simp; first | done | with_reducible rfl
                  try simp only [Act.put, List.setIfInBounds_toArray, List.set_cons_zero, List.set_cons_succ]
                  refine dag_take (i := 37) (d := some 64) (v := ?v37n51) rfl rfl (by kernel_rfl) (by kernel_rfl) (by kernel_rfl) (fun _ _ _ h => h) (Or.inl ⟨by rfl, ?y37n51⟩) hS ?_
                  case y37n51 => intro w hSw; (try dsimp only at hSw); go_simp; first | done | with_reducible rfl
                  try simp only [Act.put, List.setIfInBounds_toArray, List.set_cons_zero, List.set_cons_succ]
                  refine dag_take (i := 38) (d := some 65) (v := ?v38n52) rfl rfl (by kernel_rfl) (by kernel_rfl) (by kernel_rfl) (fun _ _ _ h => h) (Or.inl ⟨by rfl, ?y38n52⟩) hS ?_
                  case y38n52 => intro w hSw; (try dsimp only at hSw); go_simp; first | done | with_reducible rfl
                  try simp only [Act.put, List.setIfInBounds_toArray, List.set_cons_zero, List.set_cons_succ]
                  refine dag_take (i := 39) (d := some 66) (v := ?v39n53) rfl rfl (by kernel_rfl) (by kernel_rfl) (by kernel_rfl) (fun _ _ _ h => h) (Or.inl ⟨by rfl, ?y39n53⟩) hS ?_
                  case y39n53 => intro w hSw; (try dsimp only at hSw); go_simp; first | done | with_reducible rfl
                  try simp only [Act.put, List.setIfInBounds_toArray, List.set_cons_zero, List.set_cons_succ]
                  refine dag_take (i := 40) (d := some 67) (v := ?v40n54) rfl rfl (by kernel_rfl) (by kernel_rfl) (by kernel_rfl) (fun _ _ _ h => h) (Or.inl ⟨by rfl, ?y40n54⟩) hS ?_
                  case y40n54 => intro w hSw; (try dsimp only at hSw); go_simp; first | done | with_reducible rfl
                  try simp only [Act.put, List.setIfInBounds_toArray, List.set_cons_zero, List.set_cons_succ]
                  refine dag_take (i := 41) (d := some 68) (v := ?v41n55) rfl rfl (by kernel_rfl) (by kernel_rfl) (by kernel_rfl) (fun _ _ _ h => h) (Or.inl ⟨by rfl, ?y41n55⟩) hS ?_
                  case y41n55 => intro w hSw; (try dsimp only at hSw); go_simp; first | done | with_reducible rfl
                  try simp only [Act.put, List.setIfInBounds_toArray, List.set_cons_zero, List.set_cons_succ]
                  refine dag_take (i := 42) (d := some 69) (v := ?v42n56) rfl rfl (by kernel_rfl) (by kernel_rfl) (by kernel_rfl) (fun _ _ _ h => h) (Or.inl ⟨by rfl, ?y42n56⟩) hS ?_
                  case y42n56 => intro w hSw; (try dsimp only at hSw); go_simp; first | done | with_reducible rfl
                  try simp only [Act.put, List.setIfInBounds_toArray, List.set_cons_zero, List.set_cons_succ]
                  refine dag_take (i := 43) (d := some 70) (v := ?v43n57) rfl rfl (by kernel_rfl) (by kernel_rfl) (by kernel_rfl) (fun _ _ _ h => h) (Or.inl ⟨by rfl, ?y43n57⟩) hS ?_
                  case y43n57 => intro w hSw; (try dsimp only at hSw); go_simp; first | done | with_reducible rfl
                  try simp only [Act.put, List.setIfInBounds_toArray, List.set_cons_zero, List.set_cons_succ]
                  refine dag_take (i := 45) (d := some 72) (v := ?v45n58) rfl rfl (by kernel_rfl) (by kernel_rfl) (by kernel_rfl) (fun _ _ _ h => h) (Or.inl ⟨by rfl, ?y45n58⟩) hS ?_
                  case y45n58 => intro w hSw; (try dsimp only at hSw); go_simp; first | done | with_reducible rfl
                  try simp only [Act.put, List.setIfInBounds_toArray, List.set_cons_zero, List.set_cons_succ]
                  refine dag_take (i := 46) (d := some 73) (v := ?v46n59) rfl rfl (by kernel_rfl) (by kernel_rfl) (by kernel_rfl) (fun _ _ _ h => h) (Or.inl ⟨by rfl, ?y46n59⟩) hS ?_
                  case y46n59 => intro w hSw; (try dsimp only at hSw); go_simp; first | done | with_reducible rfl
                  try simp only [Act.put, List.setIfInBounds_toArray, List.set_cons_zero, List.set_cons_succ]
                  refine dag_take (i := 47) (d := some 74) (v := ?v47n60) rfl rfl (by kernel_rfl) (by kernel_rfl) (by kernel_rfl) (fun _ _ _ h => h) (Or.inl ⟨by rfl, ?y47n60⟩) hS ?_
                  case y47n60 => intro w hSw; (try dsimp only at hSw); go_simp; first | done | with_reducible rfl
                  try simp only [Act.put, List.setIfInBounds_toArray, List.set_cons_zero, List.set_cons_succ]
                  refine dag_take (i := 48) (d := some 75) (v := ?v48n61) rfl rfl (by kernel_rfl) (by kernel_rfl) (by kernel_rfl) (fun _ _ _ h => h) (Or.inl ⟨by rfl, ?y48n61⟩) hS ?_
                  case y48n61 => intro w hSw; (try dsimp only at hSw); go_simp; first | done | with_reducible rfl
                  try simp only [Act.put, List.setIfInBounds_toArray, List.set_cons_zero, List.set_cons_succ]
                  refine dag_take (i := 49) (d := some 76) (v := ?v49n62) rfl rfl (by kernel_rfl) (by kernel_rfl) (by kernel_rfl) (fun _ _ _ h => h) (Or.inl ⟨by rfl, ?y49n62⟩) hS ?_
                  case y49n62 => intro w hSw; (try dsimp only at hSw); go_simp; first | done | with_reducible rfl
                  try simp only [Act.put, List.setIfInBounds_toArray, List.set_cons_zero, List.set_cons_succ]
                  refine dag_take (i := 50) (d := some 77) (v := ?v50n63) rfl rfl (by kernel_rfl) (by kernel_rfl) (by kernel_rfl) (fun _ _ _ h => h) (Or.inl ⟨by rfl, ?y50n63⟩) hS ?_
                  case y50n63 => intro w hSw; (try dsimp only at hSw); go_simp; first | done | with_reducible rfl
                  try simp only [Act.put, List.setIfInBounds_toArray, List.set_cons_zero, List.set_cons_succ]
                  refine dag_take (i := 51) (d := some 78) (v := ?v51n64) rfl rfl (by kernel_rfl) (by kernel_rfl) (by kernel_rfl) (fun _ _ _ h => h) (Or.inl ⟨by rfl, ?y51n64⟩) hS ?_
                  case y51n64 => intro w hSw; (try dsimp only at hSw); go_simp; first | done | with_reducible rfl
                  try simp only [Act.put, List.setIfInBounds_toArray, List.set_cons_zero, List.set_cons_succ]
                  refine dag_take (i := 52) (d := some 79) (v := ?v52n65) rfl rfl (by kernel_rfl) (by kernel_rfl) (by kernel_rfl) (fun _ _ _ h => h) (Or.inl ⟨by rfl, ?y52n65⟩) hS ?_
                  case y52n65 => intro w hSw; (try dsimp only at hSw); go_simp; first | done | with_reducible rfl
                  try simp only [Act.put, List.setIfInBounds_toArray, List.set_cons_zero, List.set_cons_succ]
                  refine dag_take (i := 53) (d := some 80) (v := ?v53n66) rfl rfl (by kernel_rfl) (by kernel_rfl) (by kernel_rfl) (fun _ _ _ h => h) (Or.inl ⟨by rfl, ?y53n66⟩) hS ?_
                  case y53n66 => intro w hSw; (try dsimp only at hSw); go_simp; first | done | with_reducible rfl
                  try simp only [Act.put, List.setIfInBounds_toArray, List.set_cons_zero, List.set_cons_succ]
                  refine wpAnyH_ready (rs := [44]) (by kernel_rfl) (by simp) ?_
                  refine AllReadyH.cons rfl (fun Kc hK => ?_) AllReadyH.nil
                  go_simp
                  go_fit (wcmp_any _ m0 m1 s0 s1 (by omega) (by omega) cc HD.out.2)
                  rintro e V ⟨rfl, hq⟩
                  refine hK.out _ _ (hbc3 hq hS) (fun hS' => ?_)
                  exact IH.out _ _ _ _ (by omega) ⟨hS', Or.inr (Or.inr (Or.inr (Or.inl (⟨rfl, by kernel_rfl, _, _, _, _, _, _, _, _, _, _, _, _, _, _, _, _, _, _, _, _, _, _, _, _, _, _, _, _, _, _, _, _, _, _, _, _, _, _, _, _, _, _, _, _, _, _, _, _, rfl⟩))))⟩
                rcases hI with ⟨rfl, rfl, x27, x28, x29, x30, x31, x32, x33, x34, x35, x37, x38, x40, x41, x42, x43, x44, x45, x46, x47, x48, x49, x50, x51, x52, x53, x54, x55, x56, x57, x58, x59, x60, x62, x63, x64, x65, x66, x67, x68, x69, x70, x72, x73, x74, x75, x77, x78, x79, rfl⟩ | hI
                · refine wpAnyH_ready (rs := [54]) (by kernel_rfl) (by simp) ?_
                  refine AllReadyH.cons rfl (fun Kc hK => ?_) AllReadyH.nil
                  go_simp
                  go_fit (rcmp_any _ m0 m1 s0 s1 (by omega) (by omega) cc HD.out.2)
                  rintro e V ⟨rfl, hq⟩
                  refine hK.out _ _ (hbc3 hq hS) (fun hS' => ?_)
                  exact IH.out _ _ _ _ (by omega) ⟨hS', Or.inr (Or.inr (Or.inr (Or.inr (⟨rfl, by kernel_rfl, _, _, _, _, _, _, _, _, _, _, _, _, _, _, _, _, _, _, _, _, _, _, _, _, _, _, _, _, _, _, _, _, _, _, _, _, _, _, _, _, _, _, _, _, _, _, _, _, _, _, rfl⟩))))⟩
                obtain ⟨rfl, rfl, x27, x28, x29, x30, x31, x32, x33, x34, x35, x37, x38, x40, x41, x42, x43, x44, x45, x46, x47, x48, x49, x50, x51, x52, x53, x54, x55, x56, x57, x58, x59, x60, x62, x63, x64, x65, x66, x67, x68, x69, x70, x72, x73, x74, x75, x76, x77, x78, x79, x80, rfl⟩ := hI
                refine dag_take (i := 55) (d := some 82) (v := ?v55n67) rfl rfl (by kernel_rfl) (by kernel_rfl) (by kernel_rfl) (fun _ _ _ h => h) (Or.inl ⟨by rfl, ?y55n67⟩) hS ?_
                case y55n67 => intro w hSw; (try dsimp only at hSw); go_simp; first | done | with_reducible rfl
                try simp only [Act.put, List.setIfInBounds_toArray, List.set_cons_zero, List.set_cons_succ]
                refine dag_take (i := 56) (d := some 83) (v := ?v56n68) rfl rfl (by kernel_rfl) (by kernel_rfl) (by kernel_rfl) (fun _ _ _ h => h) (Or.inl ⟨by rfl, ?y56n68⟩) hS ?_
                case y56n68 => intro w hSw; (try dsimp only at hSw); go_simp; first | done | with_reducible rfl
                try simp only [Act.put, List.setIfInBounds_toArray, List.set_cons_zero, List.set_cons_succ]
                refine dag_take (i := 57) (d := some 84) (v := ?v57n69) rfl rfl (by kernel_rfl) (by kernel_rfl) (by kernel_rfl) (fun _ _ _ h => h) (Or.inl ⟨by rfl, ?y57n69⟩) hS ?_
                case y57n69 => intro w hSw; (try dsimp only at hSw); go_simp; first | done | with_reducible rfl
                try simp only [Act.put, List.setIfInBounds_toArray, List.set_cons_zero, List.set_cons_succ]
                refine dag_take (i := 58) (d := some 85) (v := ?v58n70) rfl rfl (by kernel_rfl) (by kernel_rfl) (by kernel_rfl) (fun _ _ _ h => h) (Or.inl ⟨by rfl, ?y58n70⟩) hS ?_
                case y58n70 => intro w hSw; (try dsimp only at hSw); go_simp; first | done | with_reducible rfl
                try simp only [Act.put, List.setIfInBounds_toArray, List.set_cons_zero, List.set_cons_succ]
                refine wpAnyH_done (by kernel_rfl) ?_ _
                clear IH
                go_wp2
                go_roundw
                case rel => exact ⟨j + 1 + 1, by omega, by simp, hS.1⟩
                case measure => simp [intAd]; omega
          · go_wp2_with fail
            refine (wawake_any _).mono ?_
            rintro e V ⟨rfl, hq⟩
            replace hb := below_next (below_next hbw hbr) hq
            go_wp2
            go_ret
            exact ⟨rfl, hb⟩

theorem wadds_law (w : World) (ad : Option Addr) (l : List IV) (n c : Nat) (hn : l.length = n) (hc : n ≤ c ∧ (ad = none → c = 0)) (hl : IAt w ad l) :
    Calls Tryz.prog 4 #[.slice ad n c] w (Ret (.bool true) w) := wadds_any w ad l n c hn hc hl
end Go.Proofs.YtmenngmejehofaaGreatDoor
