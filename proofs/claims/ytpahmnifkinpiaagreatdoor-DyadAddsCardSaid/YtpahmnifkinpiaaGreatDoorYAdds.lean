/- DyadAdds: for every input it answers true. -/
import Derived.Test.YtpahmnifkinpiaaGreatDoorY17
import Derived.Test.YtpahmnifkinpiaaGreatDoorYR9
import Derived.Test.YtpahmnifkinpiaaGreatDoorYBnd
import Derived.Test.YtpahmnifkinpiaaGreatDoorYAwake
import Derived.Test.YtpahmnifkinpiaaGreatDoorYFormsL
import Derived.Test.YtpahmnifkinpiaaGreatDoorHL
import Derived.Test.YtpahmnifkinpiaaGreatDoorHW
namespace Go.Proofs.YtpahmnifkinpiaaGreatDoor
open Go.RowKit Go.Shelf

theorem ncells_len : ∀ l : List NV, (ncells l).length = l.length * 3
  | [] => rfl
  | x :: l => by rw [ncells, List.length_cons, List.length_cons, List.length_cons, ncells_len l, List.length_cons]; omega
theorem ncells_one : ∀ (l : List NV) (u : Value), u ∈ ncells l → u.oneCell' = true
  | [], _, h => by cases h
  | x :: l, u, h => by
    rw [ncells, List.mem_cons, List.mem_cons, List.mem_cons] at h
    rcases h with rfl | rfl | rfl | h
    · rfl
    · rfl
    · rfl
    · exact ncells_one l u h
theorem ncells_at {w : World} {a : Addr} {l : List NV} (h : NAt w (some a) l) (j : Nat) (u : Value) (hj : (ncells l)[j]? = some u) : w.cell? (a.add j) = some u := by
  obtain ⟨hlt,hju⟩ := List.getElem?_eq_some_iff.1 hj
  rw [ncells_len] at hlt
  have hi : j / 3 < l.length := by omega
  obtain ⟨lb,lo,e,_,h1,h2,h3⟩ := h (j / 3) hi; obtain rfl : a = ⟨lb, lo, none⟩ := by simpa using e
  have ea : (⟨lb, lo, none⟩ : Addr).add j = ⟨lb, lo + j, none⟩ := by unfold Addr.add; split <;> simp_all
  obtain ⟨g1,g2,g3⟩ := ncells_get l (j / 3) hi
  rw [ea]
  have hm : j % 3 = 0 ∨ j % 3 = 1 ∨ j % 3 = 2 := by omega
  rcases hm with hm | hm | hm
  · rw [show j / 3 * 3 = j by omega] at g1 h1
    rw [h1, ← hj, g1]
  · rw [show j / 3 * 3 + 1 = j by omega] at g2
    rw [show lo + j / 3 * 3 + 1 = lo + j by omega] at h2
    rw [h2, ← hj, g2]
  · rw [show j / 3 * 3 + 2 = j by omega] at g3
    rw [show lo + j / 3 * 3 + 2 = lo + j by omega] at h3
    rw [h3, ← hj, g3]
theorem own_nums {w : World} {B n : Nat} {v : Value} {l : List NV} (hn : l.length = n) (h : w.ownsRow B 25 3 v n (ncells l)) : ∃ od oc, v = .slice od n oc ∧ n ≤ oc ∧ NAt w od l := by
  rcases h.2 with ⟨rfl, rfl⟩ | ⟨g, cap, cur, rfl, _, hg, hc, _, _, _⟩
  · obtain rfl : l = [] := List.eq_nil_of_length_eq_zero hn
    exact ⟨none, 0, rfl, Nat.le_refl _, fun i h => by simp at h⟩
  · refine ⟨some ⟨g, 0, none⟩, cap, rfl, hc, fun i hi => ?_⟩
    have hcell := h.cells (g := g) rfl
    obtain ⟨g1,g2,g3⟩ := ncells_get l i hi
    have ea : ∀ j : Nat, (⟨g, 0, none⟩ : Addr).add j = ⟨g, 0 + j, none⟩ := fun j => by unfold Addr.add; split <;> simp_all
    have h1 := hcell _ _ g1
    have h2 := hcell _ _ g2
    have h3 := hcell _ _ g3
    rw [ea] at h1 h2 h3
    exact ⟨g, 0, rfl, World.block_lt_of_cell? w _ h1, h1, by rw [Nat.add_assoc]; exact h2, by rw [Nat.add_assoc]; exact h3⟩
theorem infoN4 : (Tryz.prog.info? 25).map (fun i => (i.zero, i.size, i.bytes)) = some (some (.agg #[.bool false, .string ⟨#[]⟩, .int .i64 0]), 3, 32) := by kernel_rfl

set_option maxRecDepth 100000 in
set_option maxHeartbeats 6400000 in
theorem adds_law (w : World) (ad : Option Addr) (l : List NV) (n c : Nat) (hn : l.length = n) (hc : n ≤ c ∧ (ad = none → c = 0)) (hl : NAt w ad l) (_hm : n ≤ maxLen) (_hw : ∀ x ∈ l, x.2.1.size ≤ maxLen ∧ (Lit.int .i64 x.2.2).wf = true) :
    Calls Tryz.prog 4 #[.slice ad n c] w (Ret (.bool true) w) := by
  obtain ⟨i0,hi0,hy0,hy1,hy2⟩ := info_parts infoN4
  have hb := Below.refl w.heap.size w
  have HN := Lib.hid hn
  by_cases hn15 : 15 < n
  · have d1 : decide ((15 : Int) < (n : Int)) = true := decide_eq_true (by omega)
    clear hn
    go_enter Tryz.func4, Tryz.ntmps4
    go_wp2_with fail
    refine (yawake_any _).mono ?_
    rintro e9 V9 ⟨rfl, hq⟩
    replace hb := below_next hb hq
    clear hq
    go_wp2
    go_ret
    exact ⟨rfl, hb⟩
  · have d1 : decide ((15 : Int) < (n : Int)) = false := decide_eq_false (by omega)
    obtain ⟨r,hr⟩ : ∃ r,longD 40 300 l = r := ⟨_,rfl⟩
    have HR := Lib.hid hr
    cases r with
    | true =>
      clear hr hn
      go_enter Tryz.func4, Tryz.ntmps4
      go_wp2_with fail
      refine (longd_any _ 40 300 (by omega) ad l n c HN.out (by omega) hl).mono ?_
      rintro e1 W ⟨rfl, hq⟩
      replace hb := below_next hb hq
      clear hq
      rw [HR.out]
      go_wp2_with fail
      refine (yawake_any _).mono ?_
      rintro e9 V9 ⟨rfl, hq⟩
      replace hb := below_next hb hq
      clear hq
      go_wp2
      go_ret
      exact ⟨rfl, hb⟩
    | false =>
      have hbd := longd_false hr
      have HX := Lib.hid hbd
      have HS := Lib.hid (show ∀ x ∈ l, x.2.1.size ≤ 500 ∧ -1000 ≤ x.2.2 ∧ x.2.2 ≤ 1000 from fun x hx => by have := hbd x hx; omega)
      have HS1 := Lib.hid (show ∀ x ∈ l, x.2.1.size ≤ 10000 ∧ -100000 ≤ x.2.2 ∧ x.2.2 ≤ 100000 from fun x hx => by have := hbd x hx; omega)
      have HS2 := Lib.hid (show ∀ x ∈ l, x.2.1.size ≤ 50000 ∧ -100000 ≤ x.2.2 ∧ x.2.2 ≤ 100000 from fun x hx => by have := hbd x hx; omega)
      clear hr hn hbd
      obtain ⟨z1,o1,e1,k1⟩ := df_some (sumD l n); obtain ⟨z2,o2,e2,k2⟩ := df_some (farD (-1) l n); obtain ⟨z3,o3,e3,k3⟩ := df_some (farD 1 l n)
      have HK := Lib.hid (And.intro k1 (And.intro k2 k3))
      clear k1 k2 k3
      go_enter Tryz.func4, Tryz.ntmps4
      go_wp2_with fail
      refine (longd_any _ 40 300 (by omega) ad l n c HN.out (by omega) hl).mono ?_
      rintro e9 W ⟨rfl, hq⟩
      replace hb := below_next hb hq
      have hWs := hb.size
      have hl2 := (hl.below hq).alloc (.cells #[] 25)
      clear hq
      rw [HR.out]
      have hown := World.ownsRow_made W (base := W.heap.size) (e := 25) (size := 3) #[] 0 (Nat.le_refl _) (by decide) rfl
      cases ad with
      | none =>
        have hc0 := hc.2 rfl
        obtain rfl : c = 0 := hc0; obtain rfl : n = 0 := by omega
        go_wp2_with (first | (at_builtin; refine wpList_append_own_none rfl (.tmp 13) (.tmp 14) 34 rfl W.heap.size 25 i0 3 Tryz.underlying34 hi0 _ 0 [] rfl hown rfl ?_))
        have hoW : NAt (W.alloc (.cells #[] 25)) (some ⟨W.heap.size, 0, none⟩) l := fun i h => by have := HN.out; omega
        replace hb := hb.alloc hb.size (.cells #[] 25)
        generalize (W.alloc (.cells #[] 25)) = W1 at *
        go_wp2_with fail
        refine (yadd_any _ (some ⟨W.heap.size, 0, none⟩) l 0 0 HN.out (by omega) HS1.out hoW z1 o1 e1 HK.out.1).mono ?_
        rintro e9 V1 ⟨rfl, hq⟩
        replace hb := below_next hb hq
        replace hoW := hoW.below hq
        clear hq
        go_wp2_with fail
        refine (ryadd_any _ none l 0 0 HN.out (by omega) HS.out (hl.below hb) z1 o1 e1 HK.out.1).mono ?_
        rintro e9 U1 ⟨rfl, hq⟩
        replace hb := below_next hb hq
        replace hoW := hoW.below hq
        clear hq
        go_wp2_with fail
        refine (ymin_any _ (some ⟨W.heap.size, 0, none⟩) l 0 0 HN.out (by omega) hoW HS2.out z2 o2 e2 HK.out.2.1).mono ?_
        rintro e9 V2 ⟨rfl, hq⟩
        replace hb := below_next hb hq
        replace hoW := hoW.below hq
        clear hq
        go_wp2_with fail
        refine (rymin_any _ none l 0 0 HN.out (by omega) (hl.below hb) HS.out z2 o2 e2 HK.out.2.1).mono ?_
        rintro e9 U2 ⟨rfl, hq⟩
        replace hb := below_next hb hq
        replace hoW := hoW.below hq
        clear hq
        go_wp2_with fail
        refine (ymax_any _ (some ⟨W.heap.size, 0, none⟩) l 0 0 HN.out (by omega) hoW HS2.out z3 o3 e3 HK.out.2.2).mono ?_
        rintro e9 V3 ⟨rfl, hq⟩
        replace hb := below_next hb hq
        replace hoW := hoW.below hq
        clear hq
        go_wp2_with fail
        refine (rymax_any _ none l 0 0 HN.out (by omega) (hl.below hb) HS.out z3 o3 e3 HK.out.2.2).mono ?_
        rintro e9 U3 ⟨rfl, hq⟩
        replace hb := below_next hb hq
        replace hoW := hoW.below hq
        clear hq
        go_wp2
        go_loopw [4] (fun i wr => ∃ k : Nat, k ≤ 0 ∧ i = .int .i64 k ∧ Below U3.heap.size U3 wr) (fun i _ => 0 - intY i)
        case atStart => exact ⟨0, Nat.zero_le _, rfl, Below.refl _ _⟩
        case round =>
          obtain ⟨k,hk,rfl,hbr⟩ := hrel
          by_cases hkn : k < 0
          · omega
          · replace hb := below_next hb hbr
            go_wp2_with fail
            refine (yawake_any _).mono ?_
            rintro e9 V9 ⟨rfl, hq⟩
            replace hb := below_next hb hq
            go_wp2
            go_ret
            exact ⟨rfl, hb⟩
      | some a =>
        go_wp2_with (first | (at_builtin; refine wpList_append_own _ rfl (.tmp 13) (.tmp 14) 34 rfl W.heap.size 25 i0 (.agg #[.bool false, .string ⟨#[]⟩, .int .i64 0]) 3 32 Tryz.underlying34 hi0 hy0 hy1 hy2 rfl (by decide) _ 0 [] rfl hown a n c (ncells l) rfl (by rw [ncells_len, HN.out]) (ncells_at hl2) (ncells_one l) (by unfold maxLen; omega) (by omega) (by rw [World.size_alloc]; omega) ?_))
        intro v' w1 hown' hgrow _
        have hbw : Below W.heap.size W w1 := ((Below.refl W.heap.size W).alloc (Nat.le_refl _) (.cells #[] 25)).grown hgrow (by rw [World.size_alloc]; omega) (fun k hk => (hown.lt k hk).1)
        replace hb := below_next hb hbw
        obtain ⟨od,oc,rfl,hoc,hoW⟩ := own_nums HN.out hown'
        have hcc := hc.1
        clear hl2 hown hown' hgrow hbw hc
        go_wp2_with fail
        refine (yadd_any _ od l n oc HN.out (by omega) HS1.out hoW z1 o1 e1 HK.out.1).mono ?_
        rintro e9 V1 ⟨rfl, hq⟩
        replace hb := below_next hb hq
        replace hoW := hoW.below hq
        clear hq
        go_wp2_with fail
        refine (ryadd_any _ (some a) l n c HN.out (by omega) HS.out (hl.below hb) z1 o1 e1 HK.out.1).mono ?_
        rintro e9 U1 ⟨rfl, hq⟩
        replace hb := below_next hb hq
        replace hoW := hoW.below hq
        clear hq
        go_wp2_with fail
        refine (ymin_any _ od l n oc HN.out (by omega) hoW HS2.out z2 o2 e2 HK.out.2.1).mono ?_
        rintro e9 V2 ⟨rfl, hq⟩
        replace hb := below_next hb hq
        replace hoW := hoW.below hq
        clear hq
        go_wp2_with fail
        refine (rymin_any _ (some a) l n c HN.out (by omega) (hl.below hb) HS.out z2 o2 e2 HK.out.2.1).mono ?_
        rintro e9 U2 ⟨rfl, hq⟩
        replace hb := below_next hb hq
        replace hoW := hoW.below hq
        clear hq
        go_wp2_with fail
        refine (ymax_any _ od l n oc HN.out (by omega) hoW HS2.out z3 o3 e3 HK.out.2.2).mono ?_
        rintro e9 V3 ⟨rfl, hq⟩
        replace hb := below_next hb hq
        replace hoW := hoW.below hq
        clear hq
        go_wp2_with fail
        refine (rymax_any _ (some a) l n c HN.out (by omega) (hl.below hb) HS.out z3 o3 e3 HK.out.2.2).mono ?_
        rintro e9 U3 ⟨rfl, hq⟩
        replace hb := below_next hb hq
        replace hoW := hoW.below hq
        clear hq
        go_wp2
        have hU3 := hb.size
        have hb3 := hb
        go_loopw [4] (fun i wr => ∃ k : Nat, k ≤ n ∧ i = .int .i64 k ∧ Below U3.heap.size U3 wr) (fun i _ => n - intY i)
        case atStart => exact ⟨0, Nat.zero_le _, rfl, Below.refl _ _⟩
        case round =>
          obtain ⟨k,hk,rfl,hbr⟩ := hrel
          replace hb := below_next hb hbr
          by_cases hkn : k < n
          · have hkl : k < l.length := by rw [HN.out]; exact hkn
            obtain ⟨lb,lo,hae,hlb,hc1,hc2,hc3⟩ := hl k hkl; obtain rfl : a = ⟨lb, lo, none⟩ := by simpa using hae
            obtain ⟨ob,oo,rfl,hob,hd1,hd2,hd3⟩ := hoW k hkl; obtain ⟨m1,s1,x1,hx⟩ : ∃ m s e,l[k] = (m,s,e) := ⟨_,_,_,rfl⟩
            have hm1 := HX.out l[k] (List.getElem_mem hkl)
            rw [hx] at hc1 hc2 hc3 hd1 hd2 hd3 hm1
            simp only at hc1 hc2 hc3 hd1 hd2 hd3 hm1
            have hnk : (k : Int) < (n : Int) := by omega
            have hoc2 : (k : Int) < (oc : Int) := by omega
            have hcc2 : (k : Int) < (c : Int) := by omega
            clear hx hae
            have hobr : ob < U3.heap.size := hob
            have hcw1 : wr.cell? ⟨lb, lo + k * 3, none⟩ = some (.bool m1) := by rw [hb.cell hlb]; exact hc1
            have hcw2 : wr.cell? ⟨lb, lo + k * 3 + 1, none⟩ = some (.string s1) := by rw [hb.cell hlb]; exact hc2
            have hcw3 : wr.cell? ⟨lb, lo + k * 3 + 2, none⟩ = some (.int .i64 x1) := by rw [hb.cell hlb]; exact hc3
            have hdw1 : wr.cell? ⟨ob, oo + k * 3, none⟩ = some (.bool m1) := by rw [hbr.cell hob]; exact hd1
            have hdw2 : wr.cell? ⟨ob, oo + k * 3 + 1, none⟩ = some (.string s1) := by rw [hbr.cell hob]; exact hd2
            have hdw3 : wr.cell? ⟨ob, oo + k * 3 + 2, none⟩ = some (.int .i64 x1) := by rw [hbr.cell hob]; exact hd3
            by_cases hk0 : k = 0
            · have hk0b : decide ((0 : Int) < (k : Int)) = false := decide_eq_false (by omega)
              go_wp2_with fail
              have hlbU : lb < U3.heap.size := by have := hb3.size; omega
              have gc1 : U3.cell? ⟨lb, lo + k * 3, none⟩ = some (.bool m1) := by rw [hb3.cell hlb]; exact hc1
              have gc2 : U3.cell? ⟨lb, lo + k * 3 + 1, none⟩ = some (.string s1) := by rw [hb3.cell hlb]; exact hc2
              have gc3 : U3.cell? ⟨lb, lo + k * 3 + 2, none⟩ = some (.int .i64 x1) := by rw [hb3.cell hlb]; exact hc3
              have gd1 := hd1
              have gd2 := hd2
              have gd3 := hd3
              clear hcw1 hcw2 hcw3 hdw1 hdw2 hdw3
              have HK0 := Lib.hid hk0
              clear hk0
              refine region_segs (n := 59) #[false, false, false, false, false, false, false, false, false, false, false, false, false, false, false, false, false, false, false, false, false, false, false, false, false, false, false, false, false, false, false, false, false, false, false, false, false, false, false, false, false, false, false, false, false, false, false, false, false, false, false, false, false, false, false, false, false, false, false] (by kernel_rfl) (by kernel_rfl) (by kernel_rfl) ?_
              intro fu hf
              refine lin_seg 59 [0,1,2,3,4,5,6,7,8,9] 9 (fun L ac Wn => ∃ l0 l1 l2 l3 l4 l5 l6 l7 l8 : Bool,L = #[l0,l1,l2,l3,l4,l5,l6,l7,l8,false,false,false,false,false,false,false,false,false,false,false,false,false,false,false,false,false,false,false,false,false,false,false,false,false,false,false,false,false,false,false,false,false,false,false,false,false,false,false,false,false,false,false,false,false,false,false,false,false,false]∧ac = { tmps := #[.slice (some { block := lb,off := lo }) n c,undef,u2,.slice (some { block := ob,off := oo }) n oc,.int .i64 ↑k,.slice (some { block := lb,off := lo }) n c,.int .i64 ↑n,.bool false,.bool false,.slice (some { block := lb,off := lo }) n c,.bool false,.bool false,undef,.slice (some ⟨W.heap.size,0,none⟩) 0 0,.slice (some { block := lb,off := lo }) n c,.slice (some { block := ob,off := oo }) n oc,.slice (some { block := ob,off := oo }) n oc,.agg #[.bool z1,.string o1,.int .i64 e1],.slice (some { block := lb,off := lo }) n c,.agg #[.bool z1,.string o1,.int .i64 e1],.bool false,.bool false,.slice (some { block := ob,off := oo }) n oc,.agg #[.bool z2,.string o2,.int .i64 e2],.slice (some { block := lb,off := lo }) n c,.agg #[.bool z2,.string o2,.int .i64 e2],.bool false,.bool false,.bool false,.slice (some { block := ob,off := oo }) n oc,.agg #[.bool z3,.string o3,.int .i64 e3],.slice (some { block := lb,off := lo }) n c,.agg #[.bool z3,.string o3,.int .i64 e3],.bool false,.bool false,.int .i64 ↑k,.slice (some { block := lb,off := lo }) n c,.int .i64 ↑n,.bool (decide (0 < n)),u39,u40,sel l0 (.slice (some { block := ob,off := oo }) n oc) (u41),sel l1 (.int .i64 ↑k) (u42),sel l2 (.pointer (some { block := ob,off := oo + k * 3 })) (u43),sel l3 (.agg #[.bool m1,.string s1,.int .i64 x1]) (u44),sel l4 (.slice (some { block := lb,off := lo }) n c) (u45),sel l5 (.int .i64 ↑k) (u46),sel l6 (.pointer (some { block := lb,off := lo + k * 3 })) (u47),sel l7 (.agg #[.bool m1,.string s1,.int .i64 x1]) (u48),sel l8 (.bool false) (u49),u50,u51,u52,u53,u54,u55,u56,u57,u58,u59,u60,u61,u62,u63,u64,u65,u66,u67,u68,u69,u70,u71,u72,u73,u74,u75,u76,u77,u78,u79,u80,u81,u82,u83,u84,u85,u86,u87,u88,u89,u90,u91,u92,u93,u94,u95,u96,u97,u98,u99,undef],defers := [] }∧Below (U3.heap.size) U3 Wn) (by kernel_rfl) (by kernel_rfl) (by kernel_rfl) (by kernel_rfl) hf ?_ ?_ ?_ (by kernel_rfl) ?_ (by decide)
              · exact ⟨false, false, false, false, false, false, false, false, false, by kernel_rfl, by kernel_rfl, hbr.drew⟩
              · rintro L ac Wn ⟨l0, l1, l2, l3, l4, l5, l6, l7, l8, rfl, _⟩
                kernel_rfl
              · refine (seg_all (b := 9) [0,1,2,3,4,5,6,7,8] ?_ : ∀ j ∈ [0,1,2,3,4,5,6,7,8,9],j ≠ 9 → _)
                refine lin_cons [] [2,3,8] rfl (by kernel_rfl) (by kernel_rfl) ?_ ?_
                · intro L ac Wn hI hi hds hus Kc hK; obtain ⟨l0,l1,l2,l3,l4,l5,l6,l7,l8,rfl,hI⟩ := hI; obtain rfl : l0 = false := hi; obtain ⟨rfl,rfl,rfl,-⟩ : l2=false∧l3=false∧l8=false∧True := hus; simp only [sel_f] at hI; obtain ⟨rfl,hb⟩ := hI
                  refine lin_yield (.slice (some { block := ob, off := oo }) n oc) rfl (by go_simp; first | done | with_reducible rfl | assumption) ?_
                  exact hK.out _ _ ⟨true,l1,false,false,l4,l5,l6,l7,false,by kernel_rfl,by kernel_rfl,hb⟩
                refine lin_cons [] [2,3,8] rfl (by kernel_rfl) (by kernel_rfl) ?_ ?_
                · intro L ac Wn hI hi hds hus Kc hK; obtain ⟨l0,l1,l2,l3,l4,l5,l6,l7,l8,rfl,hI⟩ := hI; obtain rfl : l1 = false := hi; obtain ⟨rfl,rfl,rfl,-⟩ : l2=false∧l3=false∧l8=false∧True := hus; simp only [sel_f] at hI; obtain ⟨rfl,hb⟩ := hI
                  refine lin_yield (.int .i64 ↑k) rfl (by go_simp; first | done | with_reducible rfl | assumption) ?_
                  exact hK.out _ _ ⟨l0,true,false,false,l4,l5,l6,l7,false,by kernel_rfl,by kernel_rfl,hb⟩
                refine lin_cons [0,1] [3,8] rfl (by kernel_rfl) (by kernel_rfl) ?_ ?_
                · intro L ac Wn hI hi hds hus Kc hK; obtain ⟨l0,l1,l2,l3,l4,l5,l6,l7,l8,rfl,hI⟩ := hI; obtain rfl : l2 = false := hi; obtain ⟨rfl,rfl,-⟩ : l0=true∧l1=true∧True := hds; obtain ⟨rfl,rfl,-⟩ : l3=false∧l8=false∧True := hus; simp only [sel_t, sel_f] at hI; obtain ⟨rfl,hb⟩ := hI
                  refine lin_yield (.pointer (some { block := ob, off := oo + k * 3 })) rfl (by go_simp; first | done | with_reducible rfl | assumption) ?_
                  exact hK.out _ _ ⟨true,true,true,false,l4,l5,l6,l7,false,by kernel_rfl,by kernel_rfl,hb⟩
                refine lin_cons [0,1,2] [8] rfl (by kernel_rfl) (by kernel_rfl) ?_ ?_
                · intro L ac Wn hI hi hds hus Kc hK; obtain ⟨l0,l1,l2,l3,l4,l5,l6,l7,l8,rfl,hI⟩ := hI; obtain rfl : l3 = false := hi; obtain ⟨rfl,rfl,rfl,-⟩ : l0=true∧l1=true∧l2=true∧True := hds; obtain ⟨rfl,-⟩ : l8=false∧True := hus; simp only [sel_t, sel_f] at hI; obtain ⟨rfl,hb⟩ := hI
                  have q0 : Wn.cell? ⟨ob, oo + k * 3, none⟩ = some (.bool m1) := by rw [hb.cell hob]; exact gd1
                  have q1 : Wn.cell? ⟨ob, oo + k * 3 + 1, none⟩ = some (.string s1) := by rw [hb.cell hob]; exact gd2
                  have q2 : Wn.cell? ⟨ob, oo + k * 3 + 2, none⟩ = some (.int .i64 x1) := by rw [hb.cell hob]; exact gd3
                  refine lin_yield (.agg #[.bool m1, .string s1, .int .i64 x1]) rfl (by go_simp; first | done | with_reducible rfl | assumption) ?_
                  exact hK.out _ _ ⟨true,true,true,true,l4,l5,l6,l7,false,by kernel_rfl,by kernel_rfl,hb⟩
                refine lin_cons [] [6,7,8] rfl (by kernel_rfl) (by kernel_rfl) ?_ ?_
                · intro L ac Wn hI hi hds hus Kc hK; obtain ⟨l0,l1,l2,l3,l4,l5,l6,l7,l8,rfl,hI⟩ := hI; obtain rfl : l4 = false := hi; obtain ⟨rfl,rfl,rfl,-⟩ : l6=false∧l7=false∧l8=false∧True := hus; simp only [sel_f] at hI; obtain ⟨rfl,hb⟩ := hI
                  refine lin_yield (.slice (some { block := lb, off := lo }) n c) rfl (by go_simp; first | done | with_reducible rfl | assumption) ?_
                  exact hK.out _ _ ⟨l0,l1,l2,l3,true,l5,false,false,false,by kernel_rfl,by kernel_rfl,hb⟩
                refine lin_cons [] [6,7,8] rfl (by kernel_rfl) (by kernel_rfl) ?_ ?_
                · intro L ac Wn hI hi hds hus Kc hK; obtain ⟨l0,l1,l2,l3,l4,l5,l6,l7,l8,rfl,hI⟩ := hI; obtain rfl : l5 = false := hi; obtain ⟨rfl,rfl,rfl,-⟩ : l6=false∧l7=false∧l8=false∧True := hus; simp only [sel_f] at hI; obtain ⟨rfl,hb⟩ := hI
                  refine lin_yield (.int .i64 ↑k) rfl (by go_simp; first | done | with_reducible rfl | assumption) ?_
                  exact hK.out _ _ ⟨l0,l1,l2,l3,l4,true,false,false,false,by kernel_rfl,by kernel_rfl,hb⟩
                refine lin_cons [4,5] [7,8] rfl (by kernel_rfl) (by kernel_rfl) ?_ ?_
                · intro L ac Wn hI hi hds hus Kc hK; obtain ⟨l0,l1,l2,l3,l4,l5,l6,l7,l8,rfl,hI⟩ := hI; obtain rfl : l6 = false := hi; obtain ⟨rfl,rfl,-⟩ : l4=true∧l5=true∧True := hds; obtain ⟨rfl,rfl,-⟩ : l7=false∧l8=false∧True := hus; simp only [sel_t, sel_f] at hI; obtain ⟨rfl,hb⟩ := hI
                  refine lin_yield (.pointer (some { block := lb, off := lo + k * 3 })) rfl (by go_simp; first | done | with_reducible rfl | assumption) ?_
                  exact hK.out _ _ ⟨l0,l1,l2,l3,true,true,true,false,false,by kernel_rfl,by kernel_rfl,hb⟩
                refine lin_cons [4,5,6] [8] rfl (by kernel_rfl) (by kernel_rfl) ?_ ?_
                · intro L ac Wn hI hi hds hus Kc hK; obtain ⟨l0,l1,l2,l3,l4,l5,l6,l7,l8,rfl,hI⟩ := hI; obtain rfl : l7 = false := hi; obtain ⟨rfl,rfl,rfl,-⟩ : l4=true∧l5=true∧l6=true∧True := hds; obtain ⟨rfl,-⟩ : l8=false∧True := hus; simp only [sel_t, sel_f] at hI; obtain ⟨rfl,hb⟩ := hI
                  have q0 : Wn.cell? ⟨lb, lo + k * 3, none⟩ = some (.bool m1) := by rw [hb.cell hlbU]; exact gc1
                  have q1 : Wn.cell? ⟨lb, lo + k * 3 + 1, none⟩ = some (.string s1) := by rw [hb.cell hlbU]; exact gc2
                  have q2 : Wn.cell? ⟨lb, lo + k * 3 + 2, none⟩ = some (.int .i64 x1) := by rw [hb.cell hlbU]; exact gc3
                  refine lin_yield (.agg #[.bool m1, .string s1, .int .i64 x1]) rfl (by go_simp; first | done | with_reducible rfl | assumption) ?_
                  exact hK.out _ _ ⟨l0,l1,l2,l3,true,true,true,true,false,by kernel_rfl,by kernel_rfl,hb⟩
                refine lin_cons [0,1,2,3,4,5,6,7] [] rfl (by kernel_rfl) (by kernel_rfl) ?_ lin_nil
                intro L ac Wn hI hi hds hus Kc hK; obtain ⟨l0,l1,l2,l3,l4,l5,l6,l7,l8,rfl,hI⟩ := hI; obtain rfl : l8 = false := hi; obtain ⟨rfl,rfl,rfl,rfl,rfl,rfl,rfl,rfl,-⟩ : l0=true∧l1=true∧l2=true∧l3=true∧l4=true∧l5=true∧l6=true∧l7=true∧True := hds; simp only [sel_t, sel_f] at hI; obtain ⟨rfl,hb⟩ := hI
                refine lin_yield (.bool false) rfl (by go_simp; first | done | with_reducible rfl | assumption) ?_
                exact hK.out _ _ ⟨true,true,true,true,true,true,true,true,true,by kernel_rfl,by kernel_rfl,hb⟩
              refine bar_of [0, 1, 2, 3, 4, 5, 6, 7, 8] rfl (by kernel_rfl) ?_
              intro L ac Wn hI hds Kc hK; obtain ⟨l0,l1,l2,l3,l4,l5,l6,l7,l8,rfl,hI⟩ := hI; obtain ⟨rfl,rfl,rfl,rfl,rfl,rfl,rfl,rfl,rfl,-⟩ : l0=true∧l1=true∧l2=true∧l3=true∧l4=true∧l5=true∧l6=true∧l7=true∧l8=true∧True := hds; simp only [sel_t] at hI; obtain ⟨rfl,hb⟩ := hI
              refine lin_yield (.bool false) rfl (by go_simp; first | done | with_reducible rfl | assumption) ?_
              refine hK.out _ _ (fun fu hf => ?_)
              clear hK Kc
              refine lin_seg 59 [10,11,12,13,14,15,16,17,18,19,20,21,22,23,24,25,26,27,28,29,30,31,32,33,34] 34 (fun L ac Wn => ∃ C0 C1 C2 C3 C4 C5 C6 C7 C8 C9 D0 D1 D2 D3 D4 D5 D6 D7 D8 D9 E0 E1 E2 E3 : Bool,L = #[true,true,true,true,true,true,true,true,true,true,C0,C1,C2,C3,C4,C5,C6,C7,C8,C9,D0,D1,D2,D3,D4,D5,D6,D7,D8,D9,E0,E1,E2,E3,false,false,false,false,false,false,false,false,false,false,false,false,false,false,false,false,false,false,false,false,false,false,false,false,false]∧ac = { tmps := #[.slice (some { block := lb,off := lo }) n c,undef,u2,.slice (some { block := ob,off := oo }) n oc,.int .i64 ↑k,.slice (some { block := lb,off := lo }) n c,.int .i64 ↑n,.bool false,.bool false,.slice (some { block := lb,off := lo }) n c,.bool false,.bool false,undef,.slice (some ⟨W.heap.size,0,none⟩) 0 0,.slice (some { block := lb,off := lo }) n c,.slice (some { block := ob,off := oo }) n oc,.slice (some { block := ob,off := oo }) n oc,.agg #[.bool z1,.string o1,.int .i64 e1],.slice (some { block := lb,off := lo }) n c,.agg #[.bool z1,.string o1,.int .i64 e1],.bool false,.bool false,.slice (some { block := ob,off := oo }) n oc,.agg #[.bool z2,.string o2,.int .i64 e2],.slice (some { block := lb,off := lo }) n c,.agg #[.bool z2,.string o2,.int .i64 e2],.bool false,.bool false,.bool false,.slice (some { block := ob,off := oo }) n oc,.agg #[.bool z3,.string o3,.int .i64 e3],.slice (some { block := lb,off := lo }) n c,.agg #[.bool z3,.string o3,.int .i64 e3],.bool false,.bool false,.int .i64 ↑k,.slice (some { block := lb,off := lo }) n c,.int .i64 ↑n,.bool (decide (0 < n)),u39,u40,.slice (some { block := ob,off := oo }) n oc,.int .i64 ↑k,.pointer (some { block := ob,off := oo + k * 3 }),.agg #[.bool m1,.string s1,.int .i64 x1],.slice (some { block := lb,off := lo }) n c,.int .i64 ↑k,.pointer (some { block := lb,off := lo + k * 3 }),.agg #[.bool m1,.string s1,.int .i64 x1],.bool false,.bool false,sel C0 (.int .i64 ↑k) (u51),sel C1 (.bool false) (u52),sel C2 (.bool false) (u53),sel C3 (undef) (u54),sel C4 (undef) (u55),sel C5 (undef) (u56),sel C6 (undef) (u57),sel C7 (undef) (u58),sel C8 (undef) (u59),sel C9 (undef) (u60),sel D0 (undef) (u61),sel D1 (undef) (u62),sel D2 (undef) (u63),sel D3 (undef) (u64),sel D4 (undef) (u65),sel D5 (undef) (u66),sel D6 (undef) (u67),sel D7 (undef) (u68),sel D8 (undef) (u69),sel D9 (undef) (u70),sel E0 (undef) (u71),sel E1 (undef) (u72),sel E2 (undef) (u73),sel E3 (undef) (u74),u75,u76,u77,u78,u79,u80,u81,u82,u83,u84,u85,u86,u87,u88,u89,u90,u91,u92,u93,u94,u95,u96,u97,u98,u99,undef],defers := [] }∧Below (U3.heap.size) U3 Wn) (by kernel_rfl) (by kernel_rfl) (by kernel_rfl) (by kernel_rfl) hf ?_ ?_ ?_ (by kernel_rfl) ?_ (by decide)
              · exact ⟨false, false, false, false, false, false, false, false, false, false, false, false, false, false, false, false, false, false, false, false, false, false, false, false, by kernel_rfl, by kernel_rfl, hb⟩
              · rintro L ac Wn ⟨C0, C1, C2, C3, C4, C5, C6, C7, C8, C9, D0, D1, D2, D3, D4, D5, D6, D7, D8, D9, E0, E1, E2, E3, rfl, _⟩
                kernel_rfl
              · refine (seg_all (b := 34) [10,11,12,13,14,15,16,17,18,19,20,21,22,23,24,25,26,27,28,29,30,31,32,33] ?_ : ∀ j ∈ [10,11,12,13,14,15,16,17,18,19,20,21,22,23,24,25,26,27,28,29,30,31,32,33,34],j ≠ 34 → _)
                refine lin_cons [] [11,12,13,14,15,16,17,18,19,20,21,22,23,24,25,26,27,28,29,30,31,32,33] rfl (by kernel_rfl) (by kernel_rfl) ?_ ?_
                · intro L ac Wn hI hi hds hus Kc hK; obtain ⟨C0,C1,C2,C3,C4,C5,C6,C7,C8,C9,D0,D1,D2,D3,D4,D5,D6,D7,D8,D9,E0,E1,E2,E3,rfl,hI⟩ := hI; obtain rfl : C0 = false := hi; obtain ⟨rfl,rfl,rfl,rfl,rfl,rfl,rfl,rfl,rfl,rfl,rfl,rfl,rfl,rfl,rfl,rfl,rfl,rfl,rfl,rfl,rfl,rfl,rfl,-⟩ : C1=false∧C2=false∧C3=false∧C4=false∧C5=false∧C6=false∧C7=false∧C8=false∧C9=false∧D0=false∧D1=false∧D2=false∧D3=false∧D4=false∧D5=false∧D6=false∧D7=false∧D8=false∧D9=false∧E0=false∧E1=false∧E2=false∧E3=false∧True := hus; simp only [sel_f] at hI; obtain ⟨rfl,hb⟩ := hI
                  refine lin_yield (.int .i64 ↑k) rfl (by go_simp; first | done | with_reducible rfl | assumption) ?_
                  exact hK.out _ _ ⟨true,false,false,false,false,false,false,false,false,false,false,false,false,false,false,false,false,false,false,false,false,false,false,false,by kernel_rfl,by kernel_rfl,hb⟩
                refine lin_cons [10] [12,13,14,15,16,17,18,19,20,21,22,23,24,25,26,27,28,29,30,31,32,33] rfl (by kernel_rfl) (by kernel_rfl) ?_ ?_
                · intro L ac Wn hI hi hds hus Kc hK; obtain ⟨C0,C1,C2,C3,C4,C5,C6,C7,C8,C9,D0,D1,D2,D3,D4,D5,D6,D7,D8,D9,E0,E1,E2,E3,rfl,hI⟩ := hI; obtain rfl : C1 = false := hi; obtain ⟨rfl,-⟩ : C0=true∧True := hds; obtain ⟨rfl,rfl,rfl,rfl,rfl,rfl,rfl,rfl,rfl,rfl,rfl,rfl,rfl,rfl,rfl,rfl,rfl,rfl,rfl,rfl,rfl,rfl,-⟩ : C2=false∧C3=false∧C4=false∧C5=false∧C6=false∧C7=false∧C8=false∧C9=false∧D0=false∧D1=false∧D2=false∧D3=false∧D4=false∧D5=false∧D6=false∧D7=false∧D8=false∧D9=false∧E0=false∧E1=false∧E2=false∧E3=false∧True := hus; simp only [sel_t, sel_f] at hI; obtain ⟨rfl,hb⟩ := hI
                  have hk0 := HK0.out
                  refine lin_yield (.bool false) rfl (by go_simp; first | done | with_reducible rfl | assumption) ?_
                  exact hK.out _ _ ⟨true,true,false,false,false,false,false,false,false,false,false,false,false,false,false,false,false,false,false,false,false,false,false,false,by kernel_rfl,by kernel_rfl,hb⟩
                refine lin_cons [10,11] [13,14,15,16,17,18,19,20,21,22,23,24,25,26,27,28,29,30,31,32,33] rfl (by kernel_rfl) (by kernel_rfl) ?_ ?_
                · intro L ac Wn hI hi hds hus Kc hK; obtain ⟨C0,C1,C2,C3,C4,C5,C6,C7,C8,C9,D0,D1,D2,D3,D4,D5,D6,D7,D8,D9,E0,E1,E2,E3,rfl,hI⟩ := hI; obtain rfl : C2 = false := hi; obtain ⟨rfl,rfl,-⟩ : C0=true∧C1=true∧True := hds; obtain ⟨rfl,rfl,rfl,rfl,rfl,rfl,rfl,rfl,rfl,rfl,rfl,rfl,rfl,rfl,rfl,rfl,rfl,rfl,rfl,rfl,rfl,-⟩ : C3=false∧C4=false∧C5=false∧C6=false∧C7=false∧C8=false∧C9=false∧D0=false∧D1=false∧D2=false∧D3=false∧D4=false∧D5=false∧D6=false∧D7=false∧D8=false∧D9=false∧E0=false∧E1=false∧E2=false∧E3=false∧True := hus; simp only [sel_t, sel_f] at hI; obtain ⟨rfl,hb⟩ := hI
                  refine lin_yield (.bool false) rfl (by go_simp; first | done | with_reducible rfl | assumption) ?_
                  exact hK.out _ _ ⟨true,true,true,false,false,false,false,false,false,false,false,false,false,false,false,false,false,false,false,false,false,false,false,false,by kernel_rfl,by kernel_rfl,hb⟩
                refine lin_cons [10,11,12] [16,17,22,32,33] rfl (by kernel_rfl) (by kernel_rfl) ?_ ?_
                · intro L ac Wn hI hi hds hus Kc hK; obtain ⟨C0,C1,C2,C3,C4,C5,C6,C7,C8,C9,D0,D1,D2,D3,D4,D5,D6,D7,D8,D9,E0,E1,E2,E3,rfl,hI⟩ := hI; obtain rfl : C3 = false := hi; obtain ⟨rfl,rfl,rfl,-⟩ : C0=true∧C1=true∧C2=true∧True := hds; obtain ⟨rfl,rfl,rfl,rfl,rfl,-⟩ : C6=false∧C7=false∧D2=false∧E2=false∧E3=false∧True := hus; simp only [sel_t, sel_f] at hI; obtain ⟨rfl,hb⟩ := hI
                  refine lin_skip rfl ?_
                  exact hK.out _ _ ⟨true,true,true,true,C4,C5,false,false,C8,C9,D0,D1,false,D3,D4,D5,D6,D7,D8,D9,E0,E1,false,false,by kernel_rfl,by kernel_rfl,hb⟩
                refine lin_cons [10,11,12] [15,16,17,22,32,33] rfl (by kernel_rfl) (by kernel_rfl) ?_ ?_
                · intro L ac Wn hI hi hds hus Kc hK; obtain ⟨C0,C1,C2,C3,C4,C5,C6,C7,C8,C9,D0,D1,D2,D3,D4,D5,D6,D7,D8,D9,E0,E1,E2,E3,rfl,hI⟩ := hI; obtain rfl : C4 = false := hi; obtain ⟨rfl,rfl,rfl,-⟩ : C0=true∧C1=true∧C2=true∧True := hds; obtain ⟨rfl,rfl,rfl,rfl,rfl,rfl,-⟩ : C5=false∧C6=false∧C7=false∧D2=false∧E2=false∧E3=false∧True := hus; simp only [sel_t, sel_f] at hI; obtain ⟨rfl,hb⟩ := hI
                  refine lin_skip rfl ?_
                  exact hK.out _ _ ⟨true,true,true,C3,true,false,false,false,C8,C9,D0,D1,false,D3,D4,D5,D6,D7,D8,D9,E0,E1,false,false,by kernel_rfl,by kernel_rfl,hb⟩
                refine lin_cons [10,11,12,14] [16,17,22,32,33] rfl (by kernel_rfl) (by kernel_rfl) ?_ ?_
                · intro L ac Wn hI hi hds hus Kc hK; obtain ⟨C0,C1,C2,C3,C4,C5,C6,C7,C8,C9,D0,D1,D2,D3,D4,D5,D6,D7,D8,D9,E0,E1,E2,E3,rfl,hI⟩ := hI; obtain rfl : C5 = false := hi; obtain ⟨rfl,rfl,rfl,rfl,-⟩ : C0=true∧C1=true∧C2=true∧C4=true∧True := hds; obtain ⟨rfl,rfl,rfl,rfl,rfl,-⟩ : C6=false∧C7=false∧D2=false∧E2=false∧E3=false∧True := hus; simp only [sel_t, sel_f] at hI; obtain ⟨rfl,hb⟩ := hI
                  refine lin_skip rfl ?_
                  exact hK.out _ _ ⟨true,true,true,C3,true,true,false,false,C8,C9,D0,D1,false,D3,D4,D5,D6,D7,D8,D9,E0,E1,false,false,by kernel_rfl,by kernel_rfl,hb⟩
                refine lin_cons [10,11,12,13,14,15] [17,22,32,33] rfl (by kernel_rfl) (by kernel_rfl) ?_ ?_
                · intro L ac Wn hI hi hds hus Kc hK; obtain ⟨C0,C1,C2,C3,C4,C5,C6,C7,C8,C9,D0,D1,D2,D3,D4,D5,D6,D7,D8,D9,E0,E1,E2,E3,rfl,hI⟩ := hI; obtain rfl : C6 = false := hi; obtain ⟨rfl,rfl,rfl,rfl,rfl,rfl,-⟩ : C0=true∧C1=true∧C2=true∧C3=true∧C4=true∧C5=true∧True := hds; obtain ⟨rfl,rfl,rfl,rfl,-⟩ : C7=false∧D2=false∧E2=false∧E3=false∧True := hus; simp only [sel_t, sel_f] at hI; obtain ⟨rfl,hb⟩ := hI
                  refine lin_skip rfl ?_
                  exact hK.out _ _ ⟨true,true,true,true,true,true,true,false,C8,C9,D0,D1,false,D3,D4,D5,D6,D7,D8,D9,E0,E1,false,false,by kernel_rfl,by kernel_rfl,hb⟩
                refine lin_cons [10,11,12,13,14,15,16] [22,32,33] rfl (by kernel_rfl) (by kernel_rfl) ?_ ?_
                · intro L ac Wn hI hi hds hus Kc hK; obtain ⟨C0,C1,C2,C3,C4,C5,C6,C7,C8,C9,D0,D1,D2,D3,D4,D5,D6,D7,D8,D9,E0,E1,E2,E3,rfl,hI⟩ := hI; obtain rfl : C7 = false := hi; obtain ⟨rfl,rfl,rfl,rfl,rfl,rfl,rfl,-⟩ : C0=true∧C1=true∧C2=true∧C3=true∧C4=true∧C5=true∧C6=true∧True := hds; obtain ⟨rfl,rfl,rfl,-⟩ : D2=false∧E2=false∧E3=false∧True := hus; simp only [sel_t, sel_f] at hI; obtain ⟨rfl,hb⟩ := hI
                  refine lin_skip rfl ?_
                  exact hK.out _ _ ⟨true,true,true,true,true,true,true,true,C8,C9,D0,D1,false,D3,D4,D5,D6,D7,D8,D9,E0,E1,false,false,by kernel_rfl,by kernel_rfl,hb⟩
                refine lin_cons [10,11,12] [20,21,22,32,33] rfl (by kernel_rfl) (by kernel_rfl) ?_ ?_
                · intro L ac Wn hI hi hds hus Kc hK; obtain ⟨C0,C1,C2,C3,C4,C5,C6,C7,C8,C9,D0,D1,D2,D3,D4,D5,D6,D7,D8,D9,E0,E1,E2,E3,rfl,hI⟩ := hI; obtain rfl : C8 = false := hi; obtain ⟨rfl,rfl,rfl,-⟩ : C0=true∧C1=true∧C2=true∧True := hds; obtain ⟨rfl,rfl,rfl,rfl,rfl,-⟩ : D0=false∧D1=false∧D2=false∧E2=false∧E3=false∧True := hus; simp only [sel_t, sel_f] at hI; obtain ⟨rfl,hb⟩ := hI
                  refine lin_skip rfl ?_
                  exact hK.out _ _ ⟨true,true,true,C3,C4,C5,C6,C7,true,C9,false,false,false,D3,D4,D5,D6,D7,D8,D9,E0,E1,false,false,by kernel_rfl,by kernel_rfl,hb⟩
                refine lin_cons [10,11,12] [20,21,22,32,33] rfl (by kernel_rfl) (by kernel_rfl) ?_ ?_
                · intro L ac Wn hI hi hds hus Kc hK; obtain ⟨C0,C1,C2,C3,C4,C5,C6,C7,C8,C9,D0,D1,D2,D3,D4,D5,D6,D7,D8,D9,E0,E1,E2,E3,rfl,hI⟩ := hI; obtain rfl : C9 = false := hi; obtain ⟨rfl,rfl,rfl,-⟩ : C0=true∧C1=true∧C2=true∧True := hds; obtain ⟨rfl,rfl,rfl,rfl,rfl,-⟩ : D0=false∧D1=false∧D2=false∧E2=false∧E3=false∧True := hus; simp only [sel_t, sel_f] at hI; obtain ⟨rfl,hb⟩ := hI
                  refine lin_skip rfl ?_
                  exact hK.out _ _ ⟨true,true,true,C3,C4,C5,C6,C7,C8,true,false,false,false,D3,D4,D5,D6,D7,D8,D9,E0,E1,false,false,by kernel_rfl,by kernel_rfl,hb⟩
                refine lin_cons [10,11,12,18,19] [21,22,32,33] rfl (by kernel_rfl) (by kernel_rfl) ?_ ?_
                · intro L ac Wn hI hi hds hus Kc hK; obtain ⟨C0,C1,C2,C3,C4,C5,C6,C7,C8,C9,D0,D1,D2,D3,D4,D5,D6,D7,D8,D9,E0,E1,E2,E3,rfl,hI⟩ := hI; obtain rfl : D0 = false := hi; obtain ⟨rfl,rfl,rfl,rfl,rfl,-⟩ : C0=true∧C1=true∧C2=true∧C8=true∧C9=true∧True := hds; obtain ⟨rfl,rfl,rfl,rfl,-⟩ : D1=false∧D2=false∧E2=false∧E3=false∧True := hus; simp only [sel_t, sel_f] at hI; obtain ⟨rfl,hb⟩ := hI
                  refine lin_skip rfl ?_
                  exact hK.out _ _ ⟨true,true,true,C3,C4,C5,C6,C7,true,true,true,false,false,D3,D4,D5,D6,D7,D8,D9,E0,E1,false,false,by kernel_rfl,by kernel_rfl,hb⟩
                refine lin_cons [10,11,12,18,19,20] [22,32,33] rfl (by kernel_rfl) (by kernel_rfl) ?_ ?_
                · intro L ac Wn hI hi hds hus Kc hK; obtain ⟨C0,C1,C2,C3,C4,C5,C6,C7,C8,C9,D0,D1,D2,D3,D4,D5,D6,D7,D8,D9,E0,E1,E2,E3,rfl,hI⟩ := hI; obtain rfl : D1 = false := hi; obtain ⟨rfl,rfl,rfl,rfl,rfl,rfl,-⟩ : C0=true∧C1=true∧C2=true∧C8=true∧C9=true∧D0=true∧True := hds; obtain ⟨rfl,rfl,rfl,-⟩ : D2=false∧E2=false∧E3=false∧True := hus; simp only [sel_t, sel_f] at hI; obtain ⟨rfl,hb⟩ := hI
                  refine lin_skip rfl ?_
                  exact hK.out _ _ ⟨true,true,true,C3,C4,C5,C6,C7,true,true,true,true,false,D3,D4,D5,D6,D7,D8,D9,E0,E1,false,false,by kernel_rfl,by kernel_rfl,hb⟩
                refine lin_cons [10,11,12,13,14,15,16,17,18,19,20,21] [32,33] rfl (by kernel_rfl) (by kernel_rfl) ?_ ?_
                · intro L ac Wn hI hi hds hus Kc hK; obtain ⟨C0,C1,C2,C3,C4,C5,C6,C7,C8,C9,D0,D1,D2,D3,D4,D5,D6,D7,D8,D9,E0,E1,E2,E3,rfl,hI⟩ := hI; obtain rfl : D2 = false := hi; obtain ⟨rfl,rfl,rfl,rfl,rfl,rfl,rfl,rfl,rfl,rfl,rfl,rfl,-⟩ : C0=true∧C1=true∧C2=true∧C3=true∧C4=true∧C5=true∧C6=true∧C7=true∧C8=true∧C9=true∧D0=true∧D1=true∧True := hds; obtain ⟨rfl,rfl,-⟩ : E2=false∧E3=false∧True := hus; simp only [sel_t, sel_f] at hI; obtain ⟨rfl,hb⟩ := hI
                  refine lin_skip rfl ?_
                  exact hK.out _ _ ⟨true,true,true,true,true,true,true,true,true,true,true,true,true,D3,D4,D5,D6,D7,D8,D9,E0,E1,false,false,by kernel_rfl,by kernel_rfl,hb⟩
                refine lin_cons [10,11,12] [26,27,32,33] rfl (by kernel_rfl) (by kernel_rfl) ?_ ?_
                · intro L ac Wn hI hi hds hus Kc hK; obtain ⟨C0,C1,C2,C3,C4,C5,C6,C7,C8,C9,D0,D1,D2,D3,D4,D5,D6,D7,D8,D9,E0,E1,E2,E3,rfl,hI⟩ := hI; obtain rfl : D3 = false := hi; obtain ⟨rfl,rfl,rfl,-⟩ : C0=true∧C1=true∧C2=true∧True := hds; obtain ⟨rfl,rfl,rfl,rfl,-⟩ : D6=false∧D7=false∧E2=false∧E3=false∧True := hus; simp only [sel_t, sel_f] at hI; obtain ⟨rfl,hb⟩ := hI
                  refine lin_skip rfl ?_
                  exact hK.out _ _ ⟨true,true,true,C3,C4,C5,C6,C7,C8,C9,D0,D1,D2,true,D4,D5,false,false,D8,D9,E0,E1,false,false,by kernel_rfl,by kernel_rfl,hb⟩
                refine lin_cons [10,11,12] [25,26,27,32,33] rfl (by kernel_rfl) (by kernel_rfl) ?_ ?_
                · intro L ac Wn hI hi hds hus Kc hK; obtain ⟨C0,C1,C2,C3,C4,C5,C6,C7,C8,C9,D0,D1,D2,D3,D4,D5,D6,D7,D8,D9,E0,E1,E2,E3,rfl,hI⟩ := hI; obtain rfl : D4 = false := hi; obtain ⟨rfl,rfl,rfl,-⟩ : C0=true∧C1=true∧C2=true∧True := hds; obtain ⟨rfl,rfl,rfl,rfl,rfl,-⟩ : D5=false∧D6=false∧D7=false∧E2=false∧E3=false∧True := hus; simp only [sel_t, sel_f] at hI; obtain ⟨rfl,hb⟩ := hI
                  refine lin_skip rfl ?_
                  exact hK.out _ _ ⟨true,true,true,C3,C4,C5,C6,C7,C8,C9,D0,D1,D2,D3,true,false,false,false,D8,D9,E0,E1,false,false,by kernel_rfl,by kernel_rfl,hb⟩
                refine lin_cons [10,11,12,24] [26,27,32,33] rfl (by kernel_rfl) (by kernel_rfl) ?_ ?_
                · intro L ac Wn hI hi hds hus Kc hK; obtain ⟨C0,C1,C2,C3,C4,C5,C6,C7,C8,C9,D0,D1,D2,D3,D4,D5,D6,D7,D8,D9,E0,E1,E2,E3,rfl,hI⟩ := hI; obtain rfl : D5 = false := hi; obtain ⟨rfl,rfl,rfl,rfl,-⟩ : C0=true∧C1=true∧C2=true∧D4=true∧True := hds; obtain ⟨rfl,rfl,rfl,rfl,-⟩ : D6=false∧D7=false∧E2=false∧E3=false∧True := hus; simp only [sel_t, sel_f] at hI; obtain ⟨rfl,hb⟩ := hI
                  refine lin_skip rfl ?_
                  exact hK.out _ _ ⟨true,true,true,C3,C4,C5,C6,C7,C8,C9,D0,D1,D2,D3,true,true,false,false,D8,D9,E0,E1,false,false,by kernel_rfl,by kernel_rfl,hb⟩
                refine lin_cons [10,11,12,23,24,25] [27,32,33] rfl (by kernel_rfl) (by kernel_rfl) ?_ ?_
                · intro L ac Wn hI hi hds hus Kc hK; obtain ⟨C0,C1,C2,C3,C4,C5,C6,C7,C8,C9,D0,D1,D2,D3,D4,D5,D6,D7,D8,D9,E0,E1,E2,E3,rfl,hI⟩ := hI; obtain rfl : D6 = false := hi; obtain ⟨rfl,rfl,rfl,rfl,rfl,rfl,-⟩ : C0=true∧C1=true∧C2=true∧D3=true∧D4=true∧D5=true∧True := hds; obtain ⟨rfl,rfl,rfl,-⟩ : D7=false∧E2=false∧E3=false∧True := hus; simp only [sel_t, sel_f] at hI; obtain ⟨rfl,hb⟩ := hI
                  refine lin_skip rfl ?_
                  exact hK.out _ _ ⟨true,true,true,C3,C4,C5,C6,C7,C8,C9,D0,D1,D2,true,true,true,true,false,D8,D9,E0,E1,false,false,by kernel_rfl,by kernel_rfl,hb⟩
                refine lin_cons [10,11,12,23,24,25,26] [32,33] rfl (by kernel_rfl) (by kernel_rfl) ?_ ?_
                · intro L ac Wn hI hi hds hus Kc hK; obtain ⟨C0,C1,C2,C3,C4,C5,C6,C7,C8,C9,D0,D1,D2,D3,D4,D5,D6,D7,D8,D9,E0,E1,E2,E3,rfl,hI⟩ := hI; obtain rfl : D7 = false := hi; obtain ⟨rfl,rfl,rfl,rfl,rfl,rfl,rfl,-⟩ : C0=true∧C1=true∧C2=true∧D3=true∧D4=true∧D5=true∧D6=true∧True := hds; obtain ⟨rfl,rfl,-⟩ : E2=false∧E3=false∧True := hus; simp only [sel_t, sel_f] at hI; obtain ⟨rfl,hb⟩ := hI
                  refine lin_skip rfl ?_
                  exact hK.out _ _ ⟨true,true,true,C3,C4,C5,C6,C7,C8,C9,D0,D1,D2,true,true,true,true,true,D8,D9,E0,E1,false,false,by kernel_rfl,by kernel_rfl,hb⟩
                refine lin_cons [10,11,12] [30,31,32,33] rfl (by kernel_rfl) (by kernel_rfl) ?_ ?_
                · intro L ac Wn hI hi hds hus Kc hK; obtain ⟨C0,C1,C2,C3,C4,C5,C6,C7,C8,C9,D0,D1,D2,D3,D4,D5,D6,D7,D8,D9,E0,E1,E2,E3,rfl,hI⟩ := hI; obtain rfl : D8 = false := hi; obtain ⟨rfl,rfl,rfl,-⟩ : C0=true∧C1=true∧C2=true∧True := hds; obtain ⟨rfl,rfl,rfl,rfl,-⟩ : E0=false∧E1=false∧E2=false∧E3=false∧True := hus; simp only [sel_t, sel_f] at hI; obtain ⟨rfl,hb⟩ := hI
                  refine lin_skip rfl ?_
                  exact hK.out _ _ ⟨true,true,true,C3,C4,C5,C6,C7,C8,C9,D0,D1,D2,D3,D4,D5,D6,D7,true,D9,false,false,false,false,by kernel_rfl,by kernel_rfl,hb⟩
                refine lin_cons [10,11,12] [30,31,32,33] rfl (by kernel_rfl) (by kernel_rfl) ?_ ?_
                · intro L ac Wn hI hi hds hus Kc hK; obtain ⟨C0,C1,C2,C3,C4,C5,C6,C7,C8,C9,D0,D1,D2,D3,D4,D5,D6,D7,D8,D9,E0,E1,E2,E3,rfl,hI⟩ := hI; obtain rfl : D9 = false := hi; obtain ⟨rfl,rfl,rfl,-⟩ : C0=true∧C1=true∧C2=true∧True := hds; obtain ⟨rfl,rfl,rfl,rfl,-⟩ : E0=false∧E1=false∧E2=false∧E3=false∧True := hus; simp only [sel_t, sel_f] at hI; obtain ⟨rfl,hb⟩ := hI
                  refine lin_skip rfl ?_
                  exact hK.out _ _ ⟨true,true,true,C3,C4,C5,C6,C7,C8,C9,D0,D1,D2,D3,D4,D5,D6,D7,D8,true,false,false,false,false,by kernel_rfl,by kernel_rfl,hb⟩
                refine lin_cons [10,11,12,28,29] [31,32,33] rfl (by kernel_rfl) (by kernel_rfl) ?_ ?_
                · intro L ac Wn hI hi hds hus Kc hK; obtain ⟨C0,C1,C2,C3,C4,C5,C6,C7,C8,C9,D0,D1,D2,D3,D4,D5,D6,D7,D8,D9,E0,E1,E2,E3,rfl,hI⟩ := hI; obtain rfl : E0 = false := hi; obtain ⟨rfl,rfl,rfl,rfl,rfl,-⟩ : C0=true∧C1=true∧C2=true∧D8=true∧D9=true∧True := hds; obtain ⟨rfl,rfl,rfl,-⟩ : E1=false∧E2=false∧E3=false∧True := hus; simp only [sel_t, sel_f] at hI; obtain ⟨rfl,hb⟩ := hI
                  refine lin_skip rfl ?_
                  exact hK.out _ _ ⟨true,true,true,C3,C4,C5,C6,C7,C8,C9,D0,D1,D2,D3,D4,D5,D6,D7,true,true,true,false,false,false,by kernel_rfl,by kernel_rfl,hb⟩
                refine lin_cons [10,11,12,28,29,30] [32,33] rfl (by kernel_rfl) (by kernel_rfl) ?_ ?_
                · intro L ac Wn hI hi hds hus Kc hK; obtain ⟨C0,C1,C2,C3,C4,C5,C6,C7,C8,C9,D0,D1,D2,D3,D4,D5,D6,D7,D8,D9,E0,E1,E2,E3,rfl,hI⟩ := hI; obtain rfl : E1 = false := hi; obtain ⟨rfl,rfl,rfl,rfl,rfl,rfl,-⟩ : C0=true∧C1=true∧C2=true∧D8=true∧D9=true∧E0=true∧True := hds; obtain ⟨rfl,rfl,-⟩ : E2=false∧E3=false∧True := hus; simp only [sel_t, sel_f] at hI; obtain ⟨rfl,hb⟩ := hI
                  refine lin_skip rfl ?_
                  exact hK.out _ _ ⟨true,true,true,C3,C4,C5,C6,C7,C8,C9,D0,D1,D2,D3,D4,D5,D6,D7,true,true,true,true,false,false,by kernel_rfl,by kernel_rfl,hb⟩
                refine lin_cons [10,11,12,13,14,15,16,17,18,19,20,21,22,23,24,25,26,27,28,29,30,31] [33] rfl (by kernel_rfl) (by kernel_rfl) ?_ ?_
                · intro L ac Wn hI hi hds hus Kc hK; obtain ⟨C0,C1,C2,C3,C4,C5,C6,C7,C8,C9,D0,D1,D2,D3,D4,D5,D6,D7,D8,D9,E0,E1,E2,E3,rfl,hI⟩ := hI; obtain rfl : E2 = false := hi; obtain ⟨rfl,rfl,rfl,rfl,rfl,rfl,rfl,rfl,rfl,rfl,rfl,rfl,rfl,rfl,rfl,rfl,rfl,rfl,rfl,rfl,rfl,rfl,-⟩ : C0=true∧C1=true∧C2=true∧C3=true∧C4=true∧C5=true∧C6=true∧C7=true∧C8=true∧C9=true∧D0=true∧D1=true∧D2=true∧D3=true∧D4=true∧D5=true∧D6=true∧D7=true∧D8=true∧D9=true∧E0=true∧E1=true∧True := hds; obtain ⟨rfl,-⟩ : E3=false∧True := hus; simp only [sel_t, sel_f] at hI; obtain ⟨rfl,hb⟩ := hI
                  refine lin_skip rfl ?_
                  exact hK.out _ _ ⟨true,true,true,true,true,true,true,true,true,true,true,true,true,true,true,true,true,true,true,true,true,true,true,false,by kernel_rfl,by kernel_rfl,hb⟩
                refine lin_cons [10,11,12,13,14,15,16,17,18,19,20,21,22,23,24,25,26,27,28,29,30,31,32] [] rfl (by kernel_rfl) (by kernel_rfl) ?_ lin_nil
                intro L ac Wn hI hi hds hus Kc hK; obtain ⟨C0,C1,C2,C3,C4,C5,C6,C7,C8,C9,D0,D1,D2,D3,D4,D5,D6,D7,D8,D9,E0,E1,E2,E3,rfl,hI⟩ := hI; obtain rfl : E3 = false := hi; obtain ⟨rfl,rfl,rfl,rfl,rfl,rfl,rfl,rfl,rfl,rfl,rfl,rfl,rfl,rfl,rfl,rfl,rfl,rfl,rfl,rfl,rfl,rfl,rfl,-⟩ : C0=true∧C1=true∧C2=true∧C3=true∧C4=true∧C5=true∧C6=true∧C7=true∧C8=true∧C9=true∧D0=true∧D1=true∧D2=true∧D3=true∧D4=true∧D5=true∧D6=true∧D7=true∧D8=true∧D9=true∧E0=true∧E1=true∧E2=true∧True := hds; simp only [sel_t, sel_f] at hI; obtain ⟨rfl,hb⟩ := hI
                refine lin_skip rfl ?_
                exact hK.out _ _ ⟨true,true,true,true,true,true,true,true,true,true,true,true,true,true,true,true,true,true,true,true,true,true,true,true,by kernel_rfl,by kernel_rfl,hb⟩
              refine bar_of [10, 11, 12, 13, 14, 15, 16, 17, 18, 19, 20, 21, 22, 23, 24, 25, 26, 27, 28, 29, 30, 31, 32, 33] rfl (by kernel_rfl) ?_
              intro L ac Wn hI hds Kc hK; obtain ⟨C0,C1,C2,C3,C4,C5,C6,C7,C8,C9,D0,D1,D2,D3,D4,D5,D6,D7,D8,D9,E0,E1,E2,E3,rfl,hI⟩ := hI; obtain ⟨rfl,rfl,rfl,rfl,rfl,rfl,rfl,rfl,rfl,rfl,rfl,rfl,rfl,rfl,rfl,rfl,rfl,rfl,rfl,rfl,rfl,rfl,rfl,rfl,-⟩ : C0=true∧C1=true∧C2=true∧C3=true∧C4=true∧C5=true∧C6=true∧C7=true∧C8=true∧C9=true∧D0=true∧D1=true∧D2=true∧D3=true∧D4=true∧D5=true∧D6=true∧D7=true∧D8=true∧D9=true∧E0=true∧E1=true∧E2=true∧E3=true∧True := hds; simp only [sel_t] at hI; obtain ⟨rfl,hb⟩ := hI
              refine lin_skip rfl ?_
              refine hK.out _ _ (fun fu hf => ?_)
              clear hK Kc
              refine lin_seg 59 [35,36,37,38,39,40,41,42,43,44,45,46,47,48,49,50,51,52,53,54,55,56,57,58] 58 (fun L ac Wn => ∃ E5 E6 E7 E8 E9 F0 F1 F2 F3 F4 F5 F6 F7 F8 F9 G0 G1 G2 G3 G4 G5 G6 G7 : Bool,L = #[true,true,true,true,true,true,true,true,true,true,true,true,true,true,true,true,true,true,true,true,true,true,true,true,true,true,true,true,true,true,true,true,true,true,true,E5,E6,E7,E8,E9,F0,F1,F2,F3,F4,F5,F6,F7,F8,F9,G0,G1,G2,G3,G4,G5,G6,G7,false]∧ac = { tmps := #[.slice (some { block := lb,off := lo }) n c,undef,u2,.slice (some { block := ob,off := oo }) n oc,.int .i64 ↑k,.slice (some { block := lb,off := lo }) n c,.int .i64 ↑n,.bool false,.bool false,.slice (some { block := lb,off := lo }) n c,.bool false,.bool false,undef,.slice (some ⟨W.heap.size,0,none⟩) 0 0,.slice (some { block := lb,off := lo }) n c,.slice (some { block := ob,off := oo }) n oc,.slice (some { block := ob,off := oo }) n oc,.agg #[.bool z1,.string o1,.int .i64 e1],.slice (some { block := lb,off := lo }) n c,.agg #[.bool z1,.string o1,.int .i64 e1],.bool false,.bool false,.slice (some { block := ob,off := oo }) n oc,.agg #[.bool z2,.string o2,.int .i64 e2],.slice (some { block := lb,off := lo }) n c,.agg #[.bool z2,.string o2,.int .i64 e2],.bool false,.bool false,.bool false,.slice (some { block := ob,off := oo }) n oc,.agg #[.bool z3,.string o3,.int .i64 e3],.slice (some { block := lb,off := lo }) n c,.agg #[.bool z3,.string o3,.int .i64 e3],.bool false,.bool false,.int .i64 ↑k,.slice (some { block := lb,off := lo }) n c,.int .i64 ↑n,.bool (decide (0 < n)),u39,u40,.slice (some { block := ob,off := oo }) n oc,.int .i64 ↑k,.pointer (some { block := ob,off := oo + k * 3 }),.agg #[.bool m1,.string s1,.int .i64 x1],.slice (some { block := lb,off := lo }) n c,.int .i64 ↑k,.pointer (some { block := lb,off := lo + k * 3 }),.agg #[.bool m1,.string s1,.int .i64 x1],.bool false,.bool false,.int .i64 ↑k,.bool false,.bool false,undef,undef,undef,undef,undef,undef,undef,undef,undef,undef,undef,undef,undef,undef,undef,undef,undef,undef,undef,undef,undef,undef,sel E5 (undef) (u76),sel E6 (undef) (u77),sel E7 (undef) (u78),sel E8 (undef) (u79),sel E9 (undef) (u80),sel F0 (undef) (u81),sel F1 (undef) (u82),sel F2 (undef) (u83),sel F3 (undef) (u84),sel F4 (undef) (u85),sel F5 (undef) (u86),sel F6 (undef) (u87),sel F7 (undef) (u88),sel F8 (undef) (u89),sel F9 (undef) (u90),sel G0 (undef) (u91),sel G1 (undef) (u92),sel G2 (undef) (u93),sel G3 (undef) (u94),sel G4 (undef) (u95),sel G5 (undef) (u96),sel G6 (undef) (u97),sel G7 (.bool false) (u98),u99,undef],defers := [] }∧Below (U3.heap.size) U3 Wn) (by kernel_rfl) (by kernel_rfl) (by kernel_rfl) (by kernel_rfl) hf ?_ ?_ ?_ (by kernel_rfl) ?_ (by decide)
              · exact ⟨false, false, false, false, false, false, false, false, false, false, false, false, false, false, false, false, false, false, false, false, false, false, false, by kernel_rfl, by kernel_rfl, hb⟩
              · rintro L ac Wn ⟨E5, E6, E7, E8, E9, F0, F1, F2, F3, F4, F5, F6, F7, F8, F9, G0, G1, G2, G3, G4, G5, G6, G7, rfl, _⟩
                kernel_rfl
              · refine (seg_all (b := 58) [35,36,37,38,39,40,41,42,43,44,45,46,47,48,49,50,51,52,53,54,55,56,57] ?_ : ∀ j ∈ [35,36,37,38,39,40,41,42,43,44,45,46,47,48,49,50,51,52,53,54,55,56,57,58],j ≠ 58 → _)
                refine lin_cons [] [38,39,44,54,55,56,57] rfl (by kernel_rfl) (by kernel_rfl) ?_ ?_
                · intro L ac Wn hI hi hds hus Kc hK; obtain ⟨E5,E6,E7,E8,E9,F0,F1,F2,F3,F4,F5,F6,F7,F8,F9,G0,G1,G2,G3,G4,G5,G6,G7,rfl,hI⟩ := hI; obtain rfl : E5 = false := hi; obtain ⟨rfl,rfl,rfl,rfl,rfl,rfl,rfl,-⟩ : E8=false∧E9=false∧F4=false∧G4=false∧G5=false∧G6=false∧G7=false∧True := hus; simp only [sel_f] at hI; obtain ⟨rfl,hb⟩ := hI
                  refine lin_skip rfl ?_
                  exact hK.out _ _ ⟨true,E6,E7,false,false,F0,F1,F2,F3,false,F5,F6,F7,F8,F9,G0,G1,G2,G3,false,false,false,false,by kernel_rfl,by kernel_rfl,hb⟩
                refine lin_cons [] [37,38,39,44,54,55,56,57] rfl (by kernel_rfl) (by kernel_rfl) ?_ ?_
                · intro L ac Wn hI hi hds hus Kc hK; obtain ⟨E5,E6,E7,E8,E9,F0,F1,F2,F3,F4,F5,F6,F7,F8,F9,G0,G1,G2,G3,G4,G5,G6,G7,rfl,hI⟩ := hI; obtain rfl : E6 = false := hi; obtain ⟨rfl,rfl,rfl,rfl,rfl,rfl,rfl,rfl,-⟩ : E7=false∧E8=false∧E9=false∧F4=false∧G4=false∧G5=false∧G6=false∧G7=false∧True := hus; simp only [sel_f] at hI; obtain ⟨rfl,hb⟩ := hI
                  refine lin_skip rfl ?_
                  exact hK.out _ _ ⟨E5,true,false,false,false,F0,F1,F2,F3,false,F5,F6,F7,F8,F9,G0,G1,G2,G3,false,false,false,false,by kernel_rfl,by kernel_rfl,hb⟩
                refine lin_cons [36] [38,39,44,54,55,56,57] rfl (by kernel_rfl) (by kernel_rfl) ?_ ?_
                · intro L ac Wn hI hi hds hus Kc hK; obtain ⟨E5,E6,E7,E8,E9,F0,F1,F2,F3,F4,F5,F6,F7,F8,F9,G0,G1,G2,G3,G4,G5,G6,G7,rfl,hI⟩ := hI; obtain rfl : E7 = false := hi; obtain ⟨rfl,-⟩ : E6=true∧True := hds; obtain ⟨rfl,rfl,rfl,rfl,rfl,rfl,rfl,-⟩ : E8=false∧E9=false∧F4=false∧G4=false∧G5=false∧G6=false∧G7=false∧True := hus; simp only [sel_t, sel_f] at hI; obtain ⟨rfl,hb⟩ := hI
                  refine lin_skip rfl ?_
                  exact hK.out _ _ ⟨E5,true,true,false,false,F0,F1,F2,F3,false,F5,F6,F7,F8,F9,G0,G1,G2,G3,false,false,false,false,by kernel_rfl,by kernel_rfl,hb⟩
                refine lin_cons [35,36,37] [39,44,54,55,56,57] rfl (by kernel_rfl) (by kernel_rfl) ?_ ?_
                · intro L ac Wn hI hi hds hus Kc hK; obtain ⟨E5,E6,E7,E8,E9,F0,F1,F2,F3,F4,F5,F6,F7,F8,F9,G0,G1,G2,G3,G4,G5,G6,G7,rfl,hI⟩ := hI; obtain rfl : E8 = false := hi; obtain ⟨rfl,rfl,rfl,-⟩ : E5=true∧E6=true∧E7=true∧True := hds; obtain ⟨rfl,rfl,rfl,rfl,rfl,rfl,-⟩ : E9=false∧F4=false∧G4=false∧G5=false∧G6=false∧G7=false∧True := hus; simp only [sel_t, sel_f] at hI; obtain ⟨rfl,hb⟩ := hI
                  refine lin_skip rfl ?_
                  exact hK.out _ _ ⟨true,true,true,true,false,F0,F1,F2,F3,false,F5,F6,F7,F8,F9,G0,G1,G2,G3,false,false,false,false,by kernel_rfl,by kernel_rfl,hb⟩
                refine lin_cons [35,36,37,38] [44,54,55,56,57] rfl (by kernel_rfl) (by kernel_rfl) ?_ ?_
                · intro L ac Wn hI hi hds hus Kc hK; obtain ⟨E5,E6,E7,E8,E9,F0,F1,F2,F3,F4,F5,F6,F7,F8,F9,G0,G1,G2,G3,G4,G5,G6,G7,rfl,hI⟩ := hI; obtain rfl : E9 = false := hi; obtain ⟨rfl,rfl,rfl,rfl,-⟩ : E5=true∧E6=true∧E7=true∧E8=true∧True := hds; obtain ⟨rfl,rfl,rfl,rfl,rfl,-⟩ : F4=false∧G4=false∧G5=false∧G6=false∧G7=false∧True := hus; simp only [sel_t, sel_f] at hI; obtain ⟨rfl,hb⟩ := hI
                  refine lin_skip rfl ?_
                  exact hK.out _ _ ⟨true,true,true,true,true,F0,F1,F2,F3,false,F5,F6,F7,F8,F9,G0,G1,G2,G3,false,false,false,false,by kernel_rfl,by kernel_rfl,hb⟩
                refine lin_cons [] [42,43,44,54,55,56,57] rfl (by kernel_rfl) (by kernel_rfl) ?_ ?_
                · intro L ac Wn hI hi hds hus Kc hK; obtain ⟨E5,E6,E7,E8,E9,F0,F1,F2,F3,F4,F5,F6,F7,F8,F9,G0,G1,G2,G3,G4,G5,G6,G7,rfl,hI⟩ := hI; obtain rfl : F0 = false := hi; obtain ⟨rfl,rfl,rfl,rfl,rfl,rfl,rfl,-⟩ : F2=false∧F3=false∧F4=false∧G4=false∧G5=false∧G6=false∧G7=false∧True := hus; simp only [sel_f] at hI; obtain ⟨rfl,hb⟩ := hI
                  refine lin_skip rfl ?_
                  exact hK.out _ _ ⟨E5,E6,E7,E8,E9,true,F1,false,false,false,F5,F6,F7,F8,F9,G0,G1,G2,G3,false,false,false,false,by kernel_rfl,by kernel_rfl,hb⟩
                refine lin_cons [] [42,43,44,54,55,56,57] rfl (by kernel_rfl) (by kernel_rfl) ?_ ?_
                · intro L ac Wn hI hi hds hus Kc hK; obtain ⟨E5,E6,E7,E8,E9,F0,F1,F2,F3,F4,F5,F6,F7,F8,F9,G0,G1,G2,G3,G4,G5,G6,G7,rfl,hI⟩ := hI; obtain rfl : F1 = false := hi; obtain ⟨rfl,rfl,rfl,rfl,rfl,rfl,rfl,-⟩ : F2=false∧F3=false∧F4=false∧G4=false∧G5=false∧G6=false∧G7=false∧True := hus; simp only [sel_f] at hI; obtain ⟨rfl,hb⟩ := hI
                  refine lin_skip rfl ?_
                  exact hK.out _ _ ⟨E5,E6,E7,E8,E9,F0,true,false,false,false,F5,F6,F7,F8,F9,G0,G1,G2,G3,false,false,false,false,by kernel_rfl,by kernel_rfl,hb⟩
                refine lin_cons [40,41] [43,44,54,55,56,57] rfl (by kernel_rfl) (by kernel_rfl) ?_ ?_
                · intro L ac Wn hI hi hds hus Kc hK; obtain ⟨E5,E6,E7,E8,E9,F0,F1,F2,F3,F4,F5,F6,F7,F8,F9,G0,G1,G2,G3,G4,G5,G6,G7,rfl,hI⟩ := hI; obtain rfl : F2 = false := hi; obtain ⟨rfl,rfl,-⟩ : F0=true∧F1=true∧True := hds; obtain ⟨rfl,rfl,rfl,rfl,rfl,rfl,-⟩ : F3=false∧F4=false∧G4=false∧G5=false∧G6=false∧G7=false∧True := hus; simp only [sel_t, sel_f] at hI; obtain ⟨rfl,hb⟩ := hI
                  refine lin_skip rfl ?_
                  exact hK.out _ _ ⟨E5,E6,E7,E8,E9,true,true,true,false,false,F5,F6,F7,F8,F9,G0,G1,G2,G3,false,false,false,false,by kernel_rfl,by kernel_rfl,hb⟩
                refine lin_cons [40,41,42] [44,54,55,56,57] rfl (by kernel_rfl) (by kernel_rfl) ?_ ?_
                · intro L ac Wn hI hi hds hus Kc hK; obtain ⟨E5,E6,E7,E8,E9,F0,F1,F2,F3,F4,F5,F6,F7,F8,F9,G0,G1,G2,G3,G4,G5,G6,G7,rfl,hI⟩ := hI; obtain rfl : F3 = false := hi; obtain ⟨rfl,rfl,rfl,-⟩ : F0=true∧F1=true∧F2=true∧True := hds; obtain ⟨rfl,rfl,rfl,rfl,rfl,-⟩ : F4=false∧G4=false∧G5=false∧G6=false∧G7=false∧True := hus; simp only [sel_t, sel_f] at hI; obtain ⟨rfl,hb⟩ := hI
                  refine lin_skip rfl ?_
                  exact hK.out _ _ ⟨E5,E6,E7,E8,E9,true,true,true,true,false,F5,F6,F7,F8,F9,G0,G1,G2,G3,false,false,false,false,by kernel_rfl,by kernel_rfl,hb⟩
                refine lin_cons [35,36,37,38,39,40,41,42,43] [54,55,56,57] rfl (by kernel_rfl) (by kernel_rfl) ?_ ?_
                · intro L ac Wn hI hi hds hus Kc hK; obtain ⟨E5,E6,E7,E8,E9,F0,F1,F2,F3,F4,F5,F6,F7,F8,F9,G0,G1,G2,G3,G4,G5,G6,G7,rfl,hI⟩ := hI; obtain rfl : F4 = false := hi; obtain ⟨rfl,rfl,rfl,rfl,rfl,rfl,rfl,rfl,rfl,-⟩ : E5=true∧E6=true∧E7=true∧E8=true∧E9=true∧F0=true∧F1=true∧F2=true∧F3=true∧True := hds; obtain ⟨rfl,rfl,rfl,rfl,-⟩ : G4=false∧G5=false∧G6=false∧G7=false∧True := hus; simp only [sel_t, sel_f] at hI; obtain ⟨rfl,hb⟩ := hI
                  refine lin_skip rfl ?_
                  exact hK.out _ _ ⟨true,true,true,true,true,true,true,true,true,true,F5,F6,F7,F8,F9,G0,G1,G2,G3,false,false,false,false,by kernel_rfl,by kernel_rfl,hb⟩
                refine lin_cons [] [48,49,54,55,56,57] rfl (by kernel_rfl) (by kernel_rfl) ?_ ?_
                · intro L ac Wn hI hi hds hus Kc hK; obtain ⟨E5,E6,E7,E8,E9,F0,F1,F2,F3,F4,F5,F6,F7,F8,F9,G0,G1,G2,G3,G4,G5,G6,G7,rfl,hI⟩ := hI; obtain rfl : F5 = false := hi; obtain ⟨rfl,rfl,rfl,rfl,rfl,rfl,-⟩ : F8=false∧F9=false∧G4=false∧G5=false∧G6=false∧G7=false∧True := hus; simp only [sel_f] at hI; obtain ⟨rfl,hb⟩ := hI
                  refine lin_skip rfl ?_
                  exact hK.out _ _ ⟨E5,E6,E7,E8,E9,F0,F1,F2,F3,F4,true,F6,F7,false,false,G0,G1,G2,G3,false,false,false,false,by kernel_rfl,by kernel_rfl,hb⟩
                refine lin_cons [] [47,48,49,54,55,56,57] rfl (by kernel_rfl) (by kernel_rfl) ?_ ?_
                · intro L ac Wn hI hi hds hus Kc hK; obtain ⟨E5,E6,E7,E8,E9,F0,F1,F2,F3,F4,F5,F6,F7,F8,F9,G0,G1,G2,G3,G4,G5,G6,G7,rfl,hI⟩ := hI; obtain rfl : F6 = false := hi; obtain ⟨rfl,rfl,rfl,rfl,rfl,rfl,rfl,-⟩ : F7=false∧F8=false∧F9=false∧G4=false∧G5=false∧G6=false∧G7=false∧True := hus; simp only [sel_f] at hI; obtain ⟨rfl,hb⟩ := hI
                  refine lin_skip rfl ?_
                  exact hK.out _ _ ⟨E5,E6,E7,E8,E9,F0,F1,F2,F3,F4,F5,true,false,false,false,G0,G1,G2,G3,false,false,false,false,by kernel_rfl,by kernel_rfl,hb⟩
                refine lin_cons [46] [48,49,54,55,56,57] rfl (by kernel_rfl) (by kernel_rfl) ?_ ?_
                · intro L ac Wn hI hi hds hus Kc hK; obtain ⟨E5,E6,E7,E8,E9,F0,F1,F2,F3,F4,F5,F6,F7,F8,F9,G0,G1,G2,G3,G4,G5,G6,G7,rfl,hI⟩ := hI; obtain rfl : F7 = false := hi; obtain ⟨rfl,-⟩ : F6=true∧True := hds; obtain ⟨rfl,rfl,rfl,rfl,rfl,rfl,-⟩ : F8=false∧F9=false∧G4=false∧G5=false∧G6=false∧G7=false∧True := hus; simp only [sel_t, sel_f] at hI; obtain ⟨rfl,hb⟩ := hI
                  refine lin_skip rfl ?_
                  exact hK.out _ _ ⟨E5,E6,E7,E8,E9,F0,F1,F2,F3,F4,F5,true,true,false,false,G0,G1,G2,G3,false,false,false,false,by kernel_rfl,by kernel_rfl,hb⟩
                refine lin_cons [45,46,47] [49,54,55,56,57] rfl (by kernel_rfl) (by kernel_rfl) ?_ ?_
                · intro L ac Wn hI hi hds hus Kc hK; obtain ⟨E5,E6,E7,E8,E9,F0,F1,F2,F3,F4,F5,F6,F7,F8,F9,G0,G1,G2,G3,G4,G5,G6,G7,rfl,hI⟩ := hI; obtain rfl : F8 = false := hi; obtain ⟨rfl,rfl,rfl,-⟩ : F5=true∧F6=true∧F7=true∧True := hds; obtain ⟨rfl,rfl,rfl,rfl,rfl,-⟩ : F9=false∧G4=false∧G5=false∧G6=false∧G7=false∧True := hus; simp only [sel_t, sel_f] at hI; obtain ⟨rfl,hb⟩ := hI
                  refine lin_skip rfl ?_
                  exact hK.out _ _ ⟨E5,E6,E7,E8,E9,F0,F1,F2,F3,F4,true,true,true,true,false,G0,G1,G2,G3,false,false,false,false,by kernel_rfl,by kernel_rfl,hb⟩
                refine lin_cons [45,46,47,48] [54,55,56,57] rfl (by kernel_rfl) (by kernel_rfl) ?_ ?_
                · intro L ac Wn hI hi hds hus Kc hK; obtain ⟨E5,E6,E7,E8,E9,F0,F1,F2,F3,F4,F5,F6,F7,F8,F9,G0,G1,G2,G3,G4,G5,G6,G7,rfl,hI⟩ := hI; obtain rfl : F9 = false := hi; obtain ⟨rfl,rfl,rfl,rfl,-⟩ : F5=true∧F6=true∧F7=true∧F8=true∧True := hds; obtain ⟨rfl,rfl,rfl,rfl,-⟩ : G4=false∧G5=false∧G6=false∧G7=false∧True := hus; simp only [sel_t, sel_f] at hI; obtain ⟨rfl,hb⟩ := hI
                  refine lin_skip rfl ?_
                  exact hK.out _ _ ⟨E5,E6,E7,E8,E9,F0,F1,F2,F3,F4,true,true,true,true,true,G0,G1,G2,G3,false,false,false,false,by kernel_rfl,by kernel_rfl,hb⟩
                refine lin_cons [] [52,53,54,55,56,57] rfl (by kernel_rfl) (by kernel_rfl) ?_ ?_
                · intro L ac Wn hI hi hds hus Kc hK; obtain ⟨E5,E6,E7,E8,E9,F0,F1,F2,F3,F4,F5,F6,F7,F8,F9,G0,G1,G2,G3,G4,G5,G6,G7,rfl,hI⟩ := hI; obtain rfl : G0 = false := hi; obtain ⟨rfl,rfl,rfl,rfl,rfl,rfl,-⟩ : G2=false∧G3=false∧G4=false∧G5=false∧G6=false∧G7=false∧True := hus; simp only [sel_f] at hI; obtain ⟨rfl,hb⟩ := hI
                  refine lin_skip rfl ?_
                  exact hK.out _ _ ⟨E5,E6,E7,E8,E9,F0,F1,F2,F3,F4,F5,F6,F7,F8,F9,true,G1,false,false,false,false,false,false,by kernel_rfl,by kernel_rfl,hb⟩
                refine lin_cons [] [52,53,54,55,56,57] rfl (by kernel_rfl) (by kernel_rfl) ?_ ?_
                · intro L ac Wn hI hi hds hus Kc hK; obtain ⟨E5,E6,E7,E8,E9,F0,F1,F2,F3,F4,F5,F6,F7,F8,F9,G0,G1,G2,G3,G4,G5,G6,G7,rfl,hI⟩ := hI; obtain rfl : G1 = false := hi; obtain ⟨rfl,rfl,rfl,rfl,rfl,rfl,-⟩ : G2=false∧G3=false∧G4=false∧G5=false∧G6=false∧G7=false∧True := hus; simp only [sel_f] at hI; obtain ⟨rfl,hb⟩ := hI
                  refine lin_skip rfl ?_
                  exact hK.out _ _ ⟨E5,E6,E7,E8,E9,F0,F1,F2,F3,F4,F5,F6,F7,F8,F9,G0,true,false,false,false,false,false,false,by kernel_rfl,by kernel_rfl,hb⟩
                refine lin_cons [50,51] [53,54,55,56,57] rfl (by kernel_rfl) (by kernel_rfl) ?_ ?_
                · intro L ac Wn hI hi hds hus Kc hK; obtain ⟨E5,E6,E7,E8,E9,F0,F1,F2,F3,F4,F5,F6,F7,F8,F9,G0,G1,G2,G3,G4,G5,G6,G7,rfl,hI⟩ := hI; obtain rfl : G2 = false := hi; obtain ⟨rfl,rfl,-⟩ : G0=true∧G1=true∧True := hds; obtain ⟨rfl,rfl,rfl,rfl,rfl,-⟩ : G3=false∧G4=false∧G5=false∧G6=false∧G7=false∧True := hus; simp only [sel_t, sel_f] at hI; obtain ⟨rfl,hb⟩ := hI
                  refine lin_skip rfl ?_
                  exact hK.out _ _ ⟨E5,E6,E7,E8,E9,F0,F1,F2,F3,F4,F5,F6,F7,F8,F9,true,true,true,false,false,false,false,false,by kernel_rfl,by kernel_rfl,hb⟩
                refine lin_cons [50,51,52] [54,55,56,57] rfl (by kernel_rfl) (by kernel_rfl) ?_ ?_
                · intro L ac Wn hI hi hds hus Kc hK; obtain ⟨E5,E6,E7,E8,E9,F0,F1,F2,F3,F4,F5,F6,F7,F8,F9,G0,G1,G2,G3,G4,G5,G6,G7,rfl,hI⟩ := hI; obtain rfl : G3 = false := hi; obtain ⟨rfl,rfl,rfl,-⟩ : G0=true∧G1=true∧G2=true∧True := hds; obtain ⟨rfl,rfl,rfl,rfl,-⟩ : G4=false∧G5=false∧G6=false∧G7=false∧True := hus; simp only [sel_t, sel_f] at hI; obtain ⟨rfl,hb⟩ := hI
                  refine lin_skip rfl ?_
                  exact hK.out _ _ ⟨E5,E6,E7,E8,E9,F0,F1,F2,F3,F4,F5,F6,F7,F8,F9,true,true,true,true,false,false,false,false,by kernel_rfl,by kernel_rfl,hb⟩
                refine lin_cons [35,36,37,38,39,40,41,42,43,44,45,46,47,48,49,50,51,52,53] [55,56,57] rfl (by kernel_rfl) (by kernel_rfl) ?_ ?_
                · intro L ac Wn hI hi hds hus Kc hK; obtain ⟨E5,E6,E7,E8,E9,F0,F1,F2,F3,F4,F5,F6,F7,F8,F9,G0,G1,G2,G3,G4,G5,G6,G7,rfl,hI⟩ := hI; obtain rfl : G4 = false := hi; obtain ⟨rfl,rfl,rfl,rfl,rfl,rfl,rfl,rfl,rfl,rfl,rfl,rfl,rfl,rfl,rfl,rfl,rfl,rfl,rfl,-⟩ : E5=true∧E6=true∧E7=true∧E8=true∧E9=true∧F0=true∧F1=true∧F2=true∧F3=true∧F4=true∧F5=true∧F6=true∧F7=true∧F8=true∧F9=true∧G0=true∧G1=true∧G2=true∧G3=true∧True := hds; obtain ⟨rfl,rfl,rfl,-⟩ : G5=false∧G6=false∧G7=false∧True := hus; simp only [sel_t, sel_f] at hI; obtain ⟨rfl,hb⟩ := hI
                  refine lin_skip rfl ?_
                  exact hK.out _ _ ⟨true,true,true,true,true,true,true,true,true,true,true,true,true,true,true,true,true,true,true,true,false,false,false,by kernel_rfl,by kernel_rfl,hb⟩
                refine lin_cons [35,36,37,38,39,40,41,42,43,44,45,46,47,48,49,50,51,52,53,54] [56,57] rfl (by kernel_rfl) (by kernel_rfl) ?_ ?_
                · intro L ac Wn hI hi hds hus Kc hK; obtain ⟨E5,E6,E7,E8,E9,F0,F1,F2,F3,F4,F5,F6,F7,F8,F9,G0,G1,G2,G3,G4,G5,G6,G7,rfl,hI⟩ := hI; obtain rfl : G5 = false := hi; obtain ⟨rfl,rfl,rfl,rfl,rfl,rfl,rfl,rfl,rfl,rfl,rfl,rfl,rfl,rfl,rfl,rfl,rfl,rfl,rfl,rfl,-⟩ : E5=true∧E6=true∧E7=true∧E8=true∧E9=true∧F0=true∧F1=true∧F2=true∧F3=true∧F4=true∧F5=true∧F6=true∧F7=true∧F8=true∧F9=true∧G0=true∧G1=true∧G2=true∧G3=true∧G4=true∧True := hds; obtain ⟨rfl,rfl,-⟩ : G6=false∧G7=false∧True := hus; simp only [sel_t, sel_f] at hI; obtain ⟨rfl,hb⟩ := hI
                  refine lin_skip rfl ?_
                  exact hK.out _ _ ⟨true,true,true,true,true,true,true,true,true,true,true,true,true,true,true,true,true,true,true,true,true,false,false,by kernel_rfl,by kernel_rfl,hb⟩
                refine lin_cons [35,36,37,38,39,40,41,42,43,44,45,46,47,48,49,50,51,52,53,54,55] [57] rfl (by kernel_rfl) (by kernel_rfl) ?_ ?_
                · intro L ac Wn hI hi hds hus Kc hK; obtain ⟨E5,E6,E7,E8,E9,F0,F1,F2,F3,F4,F5,F6,F7,F8,F9,G0,G1,G2,G3,G4,G5,G6,G7,rfl,hI⟩ := hI; obtain rfl : G6 = false := hi; obtain ⟨rfl,rfl,rfl,rfl,rfl,rfl,rfl,rfl,rfl,rfl,rfl,rfl,rfl,rfl,rfl,rfl,rfl,rfl,rfl,rfl,rfl,-⟩ : E5=true∧E6=true∧E7=true∧E8=true∧E9=true∧F0=true∧F1=true∧F2=true∧F3=true∧F4=true∧F5=true∧F6=true∧F7=true∧F8=true∧F9=true∧G0=true∧G1=true∧G2=true∧G3=true∧G4=true∧G5=true∧True := hds; obtain ⟨rfl,-⟩ : G7=false∧True := hus; simp only [sel_t, sel_f] at hI; obtain ⟨rfl,hb⟩ := hI
                  refine lin_skip rfl ?_
                  exact hK.out _ _ ⟨true,true,true,true,true,true,true,true,true,true,true,true,true,true,true,true,true,true,true,true,true,true,false,by kernel_rfl,by kernel_rfl,hb⟩
                refine lin_cons [35,36,37,38,39,40,41,42,43,44,45,46,47,48,49,50,51,52,53,54,55,56] [] rfl (by kernel_rfl) (by kernel_rfl) ?_ lin_nil
                intro L ac Wn hI hi hds hus Kc hK; obtain ⟨E5,E6,E7,E8,E9,F0,F1,F2,F3,F4,F5,F6,F7,F8,F9,G0,G1,G2,G3,G4,G5,G6,G7,rfl,hI⟩ := hI; obtain rfl : G7 = false := hi; obtain ⟨rfl,rfl,rfl,rfl,rfl,rfl,rfl,rfl,rfl,rfl,rfl,rfl,rfl,rfl,rfl,rfl,rfl,rfl,rfl,rfl,rfl,rfl,-⟩ : E5=true∧E6=true∧E7=true∧E8=true∧E9=true∧F0=true∧F1=true∧F2=true∧F3=true∧F4=true∧F5=true∧F6=true∧F7=true∧F8=true∧F9=true∧G0=true∧G1=true∧G2=true∧G3=true∧G4=true∧G5=true∧G6=true∧True := hds; simp only [sel_t, sel_f] at hI; obtain ⟨rfl,hb⟩ := hI
                refine lin_yield (.bool false) rfl (by go_simp; first | done | with_reducible rfl | assumption) ?_
                exact hK.out _ _ ⟨true,true,true,true,true,true,true,true,true,true,true,true,true,true,true,true,true,true,true,true,true,true,true,by kernel_rfl,by kernel_rfl,hb⟩
              refine bar_of [35, 36, 37, 38, 39, 40, 41, 42, 43, 44, 45, 46, 47, 48, 49, 50, 51, 52, 53, 54, 55, 56, 57] rfl (by kernel_rfl) ?_
              intro L ac Wn hI hds Kc hK; obtain ⟨E5,E6,E7,E8,E9,F0,F1,F2,F3,F4,F5,F6,F7,F8,F9,G0,G1,G2,G3,G4,G5,G6,G7,rfl,hI⟩ := hI; obtain ⟨rfl,rfl,rfl,rfl,rfl,rfl,rfl,rfl,rfl,rfl,rfl,rfl,rfl,rfl,rfl,rfl,rfl,rfl,rfl,rfl,rfl,rfl,rfl,-⟩ : E5=true∧E6=true∧E7=true∧E8=true∧E9=true∧F0=true∧F1=true∧F2=true∧F3=true∧F4=true∧F5=true∧F6=true∧F7=true∧F8=true∧F9=true∧G0=true∧G1=true∧G2=true∧G3=true∧G4=true∧G5=true∧G6=true∧G7=true∧True := hds; simp only [sel_t] at hI; obtain ⟨rfl,hb⟩ := hI
              refine lin_yield (.bool false) rfl (by go_simp; first | done | with_reducible rfl | assumption) ?_
              refine hK.out _ _ (fun fu hf => wpAnyH_done (by kernel_rfl) ?_ _)
              clear hK Kc hf
              go_wp2
              exact ⟨⟨k + 1, by omega, by simp, hb⟩, by simp [intY]; omega⟩
            · have hk0b : decide ((0 : Int) < (k : Int)) = true := decide_eq_true (by omega)
              have hkl1 : k - 1 < l.length := by omega
              obtain ⟨lb',lo',hae,_,hp1,hp2,hp3⟩ := hl (k - 1) hkl1; obtain ⟨rfl,rfl⟩ : lb = lb'∧lo = lo' := by simpa using hae
              obtain ⟨m0,s0,x0,hx0⟩ : ∃ m s e,l[k - 1] = (m,s,e) := ⟨_,_,_,rfl⟩
              have hm0 := HX.out l[k - 1] (List.getElem_mem hkl1)
              rw [hx0] at hp1 hp2 hp3 hm0
              simp only at hp1 hp2 hp3 hm0
              have hwk : IntKind.i64.wrap ((k : Int) - 1) = ((k - 1 : Nat) : Int) := by rw [IntKind.wrap_i64]; omega
              have hk1a : (0 : Int) ≤ ((k - 1 : Nat) : Int) := by omega
              have hk1b : ((k - 1 : Nat) : Int) < (n : Int) := by omega
              obtain ⟨z4,o4,e4,k4⟩ := df_some (nv m0 s0 x0 - nv m1 s1 x1); obtain ⟨cc,hcc⟩ : ∃ cc,dsg (nv m0 s0 x0 - nv m1 s1 x1) = cc := ⟨_,rfl⟩
              have HC := Lib.hid (And.intro k4 hcc)
              have hpw1 : wr.cell? ⟨lb, lo + (k - 1) * 3, none⟩ = some (.bool m0) := by rw [hb.cell hlb]; exact hp1
              clear hx0 hae k4 hcc
              go_wp2_with fail
              have hlbU : lb < U3.heap.size := by have := hb3.size; omega
              have gc1 : U3.cell? ⟨lb, lo + k * 3, none⟩ = some (.bool m1) := by rw [hb3.cell hlb]; exact hc1
              have gc2 : U3.cell? ⟨lb, lo + k * 3 + 1, none⟩ = some (.string s1) := by rw [hb3.cell hlb]; exact hc2
              have gc3 : U3.cell? ⟨lb, lo + k * 3 + 2, none⟩ = some (.int .i64 x1) := by rw [hb3.cell hlb]; exact hc3
              have gd1 := hd1
              have gd2 := hd2
              have gd3 := hd3
              clear hcw1 hcw2 hcw3 hdw1 hdw2 hdw3
              have gp1 : U3.cell? ⟨lb, lo + (k - 1) * 3, none⟩ = some (.bool m0) := by rw [hb3.cell hlb]; exact hp1
              have gp2 : U3.cell? ⟨lb, lo + (k - 1) * 3 + 1, none⟩ = some (.string s0) := by rw [hb3.cell hlb]; exact hp2
              have gp3 : U3.cell? ⟨lb, lo + (k - 1) * 3 + 2, none⟩ = some (.int .i64 x0) := by rw [hb3.cell hlb]; exact hp3
              clear hpw1
              refine region_segs (n := 59) #[false, false, false, false, false, false, false, false, false, false, false, false, false, false, false, false, false, false, false, false, false, false, false, false, false, false, false, false, false, false, false, false, false, false, false, false, false, false, false, false, false, false, false, false, false, false, false, false, false, false, false, false, false, false, false, false, false, false, false] (by kernel_rfl) (by kernel_rfl) (by kernel_rfl) ?_
              intro fu hf
              refine lin_seg 59 [0,1,2,3,4,5,6,7,8,9] 9 (fun L ac Wn => ∃ l0 l1 l2 l3 l4 l5 l6 l7 l8 : Bool,L = #[l0,l1,l2,l3,l4,l5,l6,l7,l8,false,false,false,false,false,false,false,false,false,false,false,false,false,false,false,false,false,false,false,false,false,false,false,false,false,false,false,false,false,false,false,false,false,false,false,false,false,false,false,false,false,false,false,false,false,false,false,false,false,false]∧ac = { tmps := #[.slice (some { block := lb,off := lo }) n c,undef,u2,.slice (some { block := ob,off := oo }) n oc,.int .i64 ↑k,.slice (some { block := lb,off := lo }) n c,.int .i64 ↑n,.bool false,.bool false,.slice (some { block := lb,off := lo }) n c,.bool false,.bool false,undef,.slice (some ⟨W.heap.size,0,none⟩) 0 0,.slice (some { block := lb,off := lo }) n c,.slice (some { block := ob,off := oo }) n oc,.slice (some { block := ob,off := oo }) n oc,.agg #[.bool z1,.string o1,.int .i64 e1],.slice (some { block := lb,off := lo }) n c,.agg #[.bool z1,.string o1,.int .i64 e1],.bool false,.bool false,.slice (some { block := ob,off := oo }) n oc,.agg #[.bool z2,.string o2,.int .i64 e2],.slice (some { block := lb,off := lo }) n c,.agg #[.bool z2,.string o2,.int .i64 e2],.bool false,.bool false,.bool false,.slice (some { block := ob,off := oo }) n oc,.agg #[.bool z3,.string o3,.int .i64 e3],.slice (some { block := lb,off := lo }) n c,.agg #[.bool z3,.string o3,.int .i64 e3],.bool false,.bool false,.int .i64 ↑k,.slice (some { block := lb,off := lo }) n c,.int .i64 ↑n,.bool true,u39,u40,sel l0 (.slice (some { block := ob,off := oo }) n oc) (u41),sel l1 (.int .i64 ↑k) (u42),sel l2 (.pointer (some { block := ob,off := oo + k * 3 })) (u43),sel l3 (.agg #[.bool m1,.string s1,.int .i64 x1]) (u44),sel l4 (.slice (some { block := lb,off := lo }) n c) (u45),sel l5 (.int .i64 ↑k) (u46),sel l6 (.pointer (some { block := lb,off := lo + k * 3 })) (u47),sel l7 (.agg #[.bool m1,.string s1,.int .i64 x1]) (u48),sel l8 (.bool false) (u49),u50,u51,u52,u53,u54,u55,u56,u57,u58,u59,u60,u61,u62,u63,u64,u65,u66,u67,u68,u69,u70,u71,u72,u73,u74,u75,u76,u77,u78,u79,u80,u81,u82,u83,u84,u85,u86,u87,u88,u89,u90,u91,u92,u93,u94,u95,u96,u97,u98,u99,undef],defers := [] }∧Below (U3.heap.size) U3 Wn) (by kernel_rfl) (by kernel_rfl) (by kernel_rfl) (by kernel_rfl) hf ?_ ?_ ?_ (by kernel_rfl) ?_ (by decide)
              · exact ⟨false, false, false, false, false, false, false, false, false, by kernel_rfl, by kernel_rfl, hbr.drew⟩
              · rintro L ac Wn ⟨l0, l1, l2, l3, l4, l5, l6, l7, l8, rfl, _⟩
                kernel_rfl
              · refine (seg_all (b := 9) [0,1,2,3,4,5,6,7,8] ?_ : ∀ j ∈ [0,1,2,3,4,5,6,7,8,9],j ≠ 9 → _)
                refine lin_cons [] [2,3,8] rfl (by kernel_rfl) (by kernel_rfl) ?_ ?_
                · intro L ac Wn hI hi hds hus Kc hK; obtain ⟨l0,l1,l2,l3,l4,l5,l6,l7,l8,rfl,hI⟩ := hI; obtain rfl : l0 = false := hi; obtain ⟨rfl,rfl,rfl,-⟩ : l2=false∧l3=false∧l8=false∧True := hus; simp only [sel_f] at hI; obtain ⟨rfl,hb⟩ := hI
                  refine lin_yield (.slice (some { block := ob, off := oo }) n oc) rfl (by go_simp; first | done | with_reducible rfl | assumption) ?_
                  exact hK.out _ _ ⟨true,l1,false,false,l4,l5,l6,l7,false,by kernel_rfl,by kernel_rfl,hb⟩
                refine lin_cons [] [2,3,8] rfl (by kernel_rfl) (by kernel_rfl) ?_ ?_
                · intro L ac Wn hI hi hds hus Kc hK; obtain ⟨l0,l1,l2,l3,l4,l5,l6,l7,l8,rfl,hI⟩ := hI; obtain rfl : l1 = false := hi; obtain ⟨rfl,rfl,rfl,-⟩ : l2=false∧l3=false∧l8=false∧True := hus; simp only [sel_f] at hI; obtain ⟨rfl,hb⟩ := hI
                  refine lin_yield (.int .i64 ↑k) rfl (by go_simp; first | done | with_reducible rfl | assumption) ?_
                  exact hK.out _ _ ⟨l0,true,false,false,l4,l5,l6,l7,false,by kernel_rfl,by kernel_rfl,hb⟩
                refine lin_cons [0,1] [3,8] rfl (by kernel_rfl) (by kernel_rfl) ?_ ?_
                · intro L ac Wn hI hi hds hus Kc hK; obtain ⟨l0,l1,l2,l3,l4,l5,l6,l7,l8,rfl,hI⟩ := hI; obtain rfl : l2 = false := hi; obtain ⟨rfl,rfl,-⟩ : l0=true∧l1=true∧True := hds; obtain ⟨rfl,rfl,-⟩ : l3=false∧l8=false∧True := hus; simp only [sel_t, sel_f] at hI; obtain ⟨rfl,hb⟩ := hI
                  refine lin_yield (.pointer (some { block := ob, off := oo + k * 3 })) rfl (by go_simp; first | done | with_reducible rfl | assumption) ?_
                  exact hK.out _ _ ⟨true,true,true,false,l4,l5,l6,l7,false,by kernel_rfl,by kernel_rfl,hb⟩
                refine lin_cons [0,1,2] [8] rfl (by kernel_rfl) (by kernel_rfl) ?_ ?_
                · intro L ac Wn hI hi hds hus Kc hK; obtain ⟨l0,l1,l2,l3,l4,l5,l6,l7,l8,rfl,hI⟩ := hI; obtain rfl : l3 = false := hi; obtain ⟨rfl,rfl,rfl,-⟩ : l0=true∧l1=true∧l2=true∧True := hds; obtain ⟨rfl,-⟩ : l8=false∧True := hus; simp only [sel_t, sel_f] at hI; obtain ⟨rfl,hb⟩ := hI
                  have q0 : Wn.cell? ⟨ob, oo + k * 3, none⟩ = some (.bool m1) := by rw [hb.cell hob]; exact gd1
                  have q1 : Wn.cell? ⟨ob, oo + k * 3 + 1, none⟩ = some (.string s1) := by rw [hb.cell hob]; exact gd2
                  have q2 : Wn.cell? ⟨ob, oo + k * 3 + 2, none⟩ = some (.int .i64 x1) := by rw [hb.cell hob]; exact gd3
                  refine lin_yield (.agg #[.bool m1, .string s1, .int .i64 x1]) rfl (by go_simp; first | done | with_reducible rfl | assumption) ?_
                  exact hK.out _ _ ⟨true,true,true,true,l4,l5,l6,l7,false,by kernel_rfl,by kernel_rfl,hb⟩
                refine lin_cons [] [6,7,8] rfl (by kernel_rfl) (by kernel_rfl) ?_ ?_
                · intro L ac Wn hI hi hds hus Kc hK; obtain ⟨l0,l1,l2,l3,l4,l5,l6,l7,l8,rfl,hI⟩ := hI; obtain rfl : l4 = false := hi; obtain ⟨rfl,rfl,rfl,-⟩ : l6=false∧l7=false∧l8=false∧True := hus; simp only [sel_f] at hI; obtain ⟨rfl,hb⟩ := hI
                  refine lin_yield (.slice (some { block := lb, off := lo }) n c) rfl (by go_simp; first | done | with_reducible rfl | assumption) ?_
                  exact hK.out _ _ ⟨l0,l1,l2,l3,true,l5,false,false,false,by kernel_rfl,by kernel_rfl,hb⟩
                refine lin_cons [] [6,7,8] rfl (by kernel_rfl) (by kernel_rfl) ?_ ?_
                · intro L ac Wn hI hi hds hus Kc hK; obtain ⟨l0,l1,l2,l3,l4,l5,l6,l7,l8,rfl,hI⟩ := hI; obtain rfl : l5 = false := hi; obtain ⟨rfl,rfl,rfl,-⟩ : l6=false∧l7=false∧l8=false∧True := hus; simp only [sel_f] at hI; obtain ⟨rfl,hb⟩ := hI
                  refine lin_yield (.int .i64 ↑k) rfl (by go_simp; first | done | with_reducible rfl | assumption) ?_
                  exact hK.out _ _ ⟨l0,l1,l2,l3,l4,true,false,false,false,by kernel_rfl,by kernel_rfl,hb⟩
                refine lin_cons [4,5] [7,8] rfl (by kernel_rfl) (by kernel_rfl) ?_ ?_
                · intro L ac Wn hI hi hds hus Kc hK; obtain ⟨l0,l1,l2,l3,l4,l5,l6,l7,l8,rfl,hI⟩ := hI; obtain rfl : l6 = false := hi; obtain ⟨rfl,rfl,-⟩ : l4=true∧l5=true∧True := hds; obtain ⟨rfl,rfl,-⟩ : l7=false∧l8=false∧True := hus; simp only [sel_t, sel_f] at hI; obtain ⟨rfl,hb⟩ := hI
                  refine lin_yield (.pointer (some { block := lb, off := lo + k * 3 })) rfl (by go_simp; first | done | with_reducible rfl | assumption) ?_
                  exact hK.out _ _ ⟨l0,l1,l2,l3,true,true,true,false,false,by kernel_rfl,by kernel_rfl,hb⟩
                refine lin_cons [4,5,6] [8] rfl (by kernel_rfl) (by kernel_rfl) ?_ ?_
                · intro L ac Wn hI hi hds hus Kc hK; obtain ⟨l0,l1,l2,l3,l4,l5,l6,l7,l8,rfl,hI⟩ := hI; obtain rfl : l7 = false := hi; obtain ⟨rfl,rfl,rfl,-⟩ : l4=true∧l5=true∧l6=true∧True := hds; obtain ⟨rfl,-⟩ : l8=false∧True := hus; simp only [sel_t, sel_f] at hI; obtain ⟨rfl,hb⟩ := hI
                  have q0 : Wn.cell? ⟨lb, lo + k * 3, none⟩ = some (.bool m1) := by rw [hb.cell hlbU]; exact gc1
                  have q1 : Wn.cell? ⟨lb, lo + k * 3 + 1, none⟩ = some (.string s1) := by rw [hb.cell hlbU]; exact gc2
                  have q2 : Wn.cell? ⟨lb, lo + k * 3 + 2, none⟩ = some (.int .i64 x1) := by rw [hb.cell hlbU]; exact gc3
                  refine lin_yield (.agg #[.bool m1, .string s1, .int .i64 x1]) rfl (by go_simp; first | done | with_reducible rfl | assumption) ?_
                  exact hK.out _ _ ⟨l0,l1,l2,l3,true,true,true,true,false,by kernel_rfl,by kernel_rfl,hb⟩
                refine lin_cons [0,1,2,3,4,5,6,7] [] rfl (by kernel_rfl) (by kernel_rfl) ?_ lin_nil
                intro L ac Wn hI hi hds hus Kc hK; obtain ⟨l0,l1,l2,l3,l4,l5,l6,l7,l8,rfl,hI⟩ := hI; obtain rfl : l8 = false := hi; obtain ⟨rfl,rfl,rfl,rfl,rfl,rfl,rfl,rfl,-⟩ : l0=true∧l1=true∧l2=true∧l3=true∧l4=true∧l5=true∧l6=true∧l7=true∧True := hds; simp only [sel_t, sel_f] at hI; obtain ⟨rfl,hb⟩ := hI
                refine lin_yield (.bool false) rfl (by go_simp; first | done | with_reducible rfl | assumption) ?_
                exact hK.out _ _ ⟨true,true,true,true,true,true,true,true,true,by kernel_rfl,by kernel_rfl,hb⟩
              refine bar_of [0, 1, 2, 3, 4, 5, 6, 7, 8] rfl (by kernel_rfl) ?_
              intro L ac Wn hI hds Kc hK; obtain ⟨l0,l1,l2,l3,l4,l5,l6,l7,l8,rfl,hI⟩ := hI; obtain ⟨rfl,rfl,rfl,rfl,rfl,rfl,rfl,rfl,rfl,-⟩ : l0=true∧l1=true∧l2=true∧l3=true∧l4=true∧l5=true∧l6=true∧l7=true∧l8=true∧True := hds; simp only [sel_t] at hI; obtain ⟨rfl,hb⟩ := hI
              refine lin_yield (.bool false) rfl (by go_simp; first | done | with_reducible rfl | assumption) ?_
              refine hK.out _ _ (fun fu hf => ?_)
              clear hK Kc
              refine lin_seg 59 [10,11,12,13,14,15,16,17,18,19,20,21,22,23,24,25,26,27,28,29,30,31,32,33,34] 34 (fun L ac Wn => ∃ C0 C1 C2 C3 C4 C5 C6 C7 C8 C9 D0 D1 D2 D3 D4 D5 D6 D7 D8 D9 E0 E1 E2 E3 : Bool,L = #[true,true,true,true,true,true,true,true,true,true,C0,C1,C2,C3,C4,C5,C6,C7,C8,C9,D0,D1,D2,D3,D4,D5,D6,D7,D8,D9,E0,E1,E2,E3,false,false,false,false,false,false,false,false,false,false,false,false,false,false,false,false,false,false,false,false,false,false,false,false,false]∧ac = { tmps := #[.slice (some { block := lb,off := lo }) n c,undef,u2,.slice (some { block := ob,off := oo }) n oc,.int .i64 ↑k,.slice (some { block := lb,off := lo }) n c,.int .i64 ↑n,.bool false,.bool false,.slice (some { block := lb,off := lo }) n c,.bool false,.bool false,undef,.slice (some ⟨W.heap.size,0,none⟩) 0 0,.slice (some { block := lb,off := lo }) n c,.slice (some { block := ob,off := oo }) n oc,.slice (some { block := ob,off := oo }) n oc,.agg #[.bool z1,.string o1,.int .i64 e1],.slice (some { block := lb,off := lo }) n c,.agg #[.bool z1,.string o1,.int .i64 e1],.bool false,.bool false,.slice (some { block := ob,off := oo }) n oc,.agg #[.bool z2,.string o2,.int .i64 e2],.slice (some { block := lb,off := lo }) n c,.agg #[.bool z2,.string o2,.int .i64 e2],.bool false,.bool false,.bool false,.slice (some { block := ob,off := oo }) n oc,.agg #[.bool z3,.string o3,.int .i64 e3],.slice (some { block := lb,off := lo }) n c,.agg #[.bool z3,.string o3,.int .i64 e3],.bool false,.bool false,.int .i64 ↑k,.slice (some { block := lb,off := lo }) n c,.int .i64 ↑n,.bool true,u39,u40,.slice (some { block := ob,off := oo }) n oc,.int .i64 ↑k,.pointer (some { block := ob,off := oo + k * 3 }),.agg #[.bool m1,.string s1,.int .i64 x1],.slice (some { block := lb,off := lo }) n c,.int .i64 ↑k,.pointer (some { block := lb,off := lo + k * 3 }),.agg #[.bool m1,.string s1,.int .i64 x1],.bool false,.bool false,sel C0 (.int .i64 ↑k) (u51),sel C1 (.bool true) (u52),sel C2 (.bool true) (u53),sel C3 (.slice (some { block := lb,off := lo }) n c) (u54),sel C4 (.int .i64 ↑k) (u55),sel C5 (.int .i64 ((k - 1 : Nat) : Int)) (u56),sel C6 (.pointer (some { block := lb,off := lo + (k - 1) * 3 })) (u57),sel C7 (.agg #[.bool m0,.string s0,.int .i64 x0]) (u58),sel C8 (.slice (some { block := lb,off := lo }) n c) (u59),sel C9 (.int .i64 ↑k) (u60),sel D0 (.pointer (some { block := lb,off := lo + k * 3 })) (u61),sel D1 (.agg #[.bool m1,.string s1,.int .i64 x1]) (u62),sel D2 (.agg #[.bool z4,.string o4,.int .i64 e4]) (u63),sel D3 (.slice (some { block := lb,off := lo }) n c) (u64),sel D4 (.int .i64 ↑k) (u65),sel D5 (.int .i64 ((k - 1 : Nat) : Int)) (u66),sel D6 (.pointer (some { block := lb,off := lo + (k - 1) * 3 })) (u67),sel D7 (.agg #[.bool m0,.string s0,.int .i64 x0]) (u68),sel D8 (.slice (some { block := lb,off := lo }) n c) (u69),sel D9 (.int .i64 ↑k) (u70),sel E0 (.pointer (some { block := lb,off := lo + k * 3 })) (u71),sel E1 (.agg #[.bool m1,.string s1,.int .i64 x1]) (u72),sel E2 (.agg #[.bool z4,.string o4,.int .i64 e4]) (u73),sel E3 (.bool false) (u74),u75,u76,u77,u78,u79,u80,u81,u82,u83,u84,u85,u86,u87,u88,u89,u90,u91,u92,u93,u94,u95,u96,u97,u98,u99,undef],defers := [] }∧Below (U3.heap.size) U3 Wn) (by kernel_rfl) (by kernel_rfl) (by kernel_rfl) (by kernel_rfl) hf ?_ ?_ ?_ (by kernel_rfl) ?_ (by decide)
              · exact ⟨false, false, false, false, false, false, false, false, false, false, false, false, false, false, false, false, false, false, false, false, false, false, false, false, by kernel_rfl, by kernel_rfl, hb⟩
              · rintro L ac Wn ⟨C0, C1, C2, C3, C4, C5, C6, C7, C8, C9, D0, D1, D2, D3, D4, D5, D6, D7, D8, D9, E0, E1, E2, E3, rfl, _⟩
                kernel_rfl
              · refine (seg_all (b := 34) [10,11,12,13,14,15,16,17,18,19,20,21,22,23,24,25,26,27,28,29,30,31,32,33] ?_ : ∀ j ∈ [10,11,12,13,14,15,16,17,18,19,20,21,22,23,24,25,26,27,28,29,30,31,32,33,34],j ≠ 34 → _)
                refine lin_cons [] [11,12,13,14,15,16,17,18,19,20,21,22,23,24,25,26,27,28,29,30,31,32,33] rfl (by kernel_rfl) (by kernel_rfl) ?_ ?_
                · intro L ac Wn hI hi hds hus Kc hK; obtain ⟨C0,C1,C2,C3,C4,C5,C6,C7,C8,C9,D0,D1,D2,D3,D4,D5,D6,D7,D8,D9,E0,E1,E2,E3,rfl,hI⟩ := hI; obtain rfl : C0 = false := hi; obtain ⟨rfl,rfl,rfl,rfl,rfl,rfl,rfl,rfl,rfl,rfl,rfl,rfl,rfl,rfl,rfl,rfl,rfl,rfl,rfl,rfl,rfl,rfl,rfl,-⟩ : C1=false∧C2=false∧C3=false∧C4=false∧C5=false∧C6=false∧C7=false∧C8=false∧C9=false∧D0=false∧D1=false∧D2=false∧D3=false∧D4=false∧D5=false∧D6=false∧D7=false∧D8=false∧D9=false∧E0=false∧E1=false∧E2=false∧E3=false∧True := hus; simp only [sel_f] at hI; obtain ⟨rfl,hb⟩ := hI
                  refine lin_yield (.int .i64 ↑k) rfl (by go_simp; first | done | with_reducible rfl | assumption) ?_
                  exact hK.out _ _ ⟨true,false,false,false,false,false,false,false,false,false,false,false,false,false,false,false,false,false,false,false,false,false,false,false,by kernel_rfl,by kernel_rfl,hb⟩
                refine lin_cons [10] [12,13,14,15,16,17,18,19,20,21,22,23,24,25,26,27,28,29,30,31,32,33] rfl (by kernel_rfl) (by kernel_rfl) ?_ ?_
                · intro L ac Wn hI hi hds hus Kc hK; obtain ⟨C0,C1,C2,C3,C4,C5,C6,C7,C8,C9,D0,D1,D2,D3,D4,D5,D6,D7,D8,D9,E0,E1,E2,E3,rfl,hI⟩ := hI; obtain rfl : C1 = false := hi; obtain ⟨rfl,-⟩ : C0=true∧True := hds; obtain ⟨rfl,rfl,rfl,rfl,rfl,rfl,rfl,rfl,rfl,rfl,rfl,rfl,rfl,rfl,rfl,rfl,rfl,rfl,rfl,rfl,rfl,rfl,-⟩ : C2=false∧C3=false∧C4=false∧C5=false∧C6=false∧C7=false∧C8=false∧C9=false∧D0=false∧D1=false∧D2=false∧D3=false∧D4=false∧D5=false∧D6=false∧D7=false∧D8=false∧D9=false∧E0=false∧E1=false∧E2=false∧E3=false∧True := hus; simp only [sel_t, sel_f] at hI; obtain ⟨rfl,hb⟩ := hI
                  have hkpos : 0 < k := by omega
                  refine lin_yield (.bool true) rfl (by go_simp; first | done | with_reducible rfl | assumption) ?_
                  exact hK.out _ _ ⟨true,true,false,false,false,false,false,false,false,false,false,false,false,false,false,false,false,false,false,false,false,false,false,false,by kernel_rfl,by kernel_rfl,hb⟩
                refine lin_cons [10,11] [13,14,15,16,17,18,19,20,21,22,23,24,25,26,27,28,29,30,31,32,33] rfl (by kernel_rfl) (by kernel_rfl) ?_ ?_
                · intro L ac Wn hI hi hds hus Kc hK; obtain ⟨C0,C1,C2,C3,C4,C5,C6,C7,C8,C9,D0,D1,D2,D3,D4,D5,D6,D7,D8,D9,E0,E1,E2,E3,rfl,hI⟩ := hI; obtain rfl : C2 = false := hi; obtain ⟨rfl,rfl,-⟩ : C0=true∧C1=true∧True := hds; obtain ⟨rfl,rfl,rfl,rfl,rfl,rfl,rfl,rfl,rfl,rfl,rfl,rfl,rfl,rfl,rfl,rfl,rfl,rfl,rfl,rfl,rfl,-⟩ : C3=false∧C4=false∧C5=false∧C6=false∧C7=false∧C8=false∧C9=false∧D0=false∧D1=false∧D2=false∧D3=false∧D4=false∧D5=false∧D6=false∧D7=false∧D8=false∧D9=false∧E0=false∧E1=false∧E2=false∧E3=false∧True := hus; simp only [sel_t, sel_f] at hI; obtain ⟨rfl,hb⟩ := hI
                  refine lin_yield (.bool true) rfl (by go_simp; first | done | with_reducible rfl | assumption) ?_
                  exact hK.out _ _ ⟨true,true,true,false,false,false,false,false,false,false,false,false,false,false,false,false,false,false,false,false,false,false,false,false,by kernel_rfl,by kernel_rfl,hb⟩
                refine lin_cons [10,11,12] [16,17,22,32,33] rfl (by kernel_rfl) (by kernel_rfl) ?_ ?_
                · intro L ac Wn hI hi hds hus Kc hK; obtain ⟨C0,C1,C2,C3,C4,C5,C6,C7,C8,C9,D0,D1,D2,D3,D4,D5,D6,D7,D8,D9,E0,E1,E2,E3,rfl,hI⟩ := hI; obtain rfl : C3 = false := hi; obtain ⟨rfl,rfl,rfl,-⟩ : C0=true∧C1=true∧C2=true∧True := hds; obtain ⟨rfl,rfl,rfl,rfl,rfl,-⟩ : C6=false∧C7=false∧D2=false∧E2=false∧E3=false∧True := hus; simp only [sel_t, sel_f] at hI; obtain ⟨rfl,hb⟩ := hI
                  refine lin_yield (.slice (some { block := lb, off := lo }) n c) rfl (by go_simp; first | done | with_reducible rfl | assumption) ?_
                  exact hK.out _ _ ⟨true,true,true,true,C4,C5,false,false,C8,C9,D0,D1,false,D3,D4,D5,D6,D7,D8,D9,E0,E1,false,false,by kernel_rfl,by kernel_rfl,hb⟩
                refine lin_cons [10,11,12] [15,16,17,22,32,33] rfl (by kernel_rfl) (by kernel_rfl) ?_ ?_
                · intro L ac Wn hI hi hds hus Kc hK; obtain ⟨C0,C1,C2,C3,C4,C5,C6,C7,C8,C9,D0,D1,D2,D3,D4,D5,D6,D7,D8,D9,E0,E1,E2,E3,rfl,hI⟩ := hI; obtain rfl : C4 = false := hi; obtain ⟨rfl,rfl,rfl,-⟩ : C0=true∧C1=true∧C2=true∧True := hds; obtain ⟨rfl,rfl,rfl,rfl,rfl,rfl,-⟩ : C5=false∧C6=false∧C7=false∧D2=false∧E2=false∧E3=false∧True := hus; simp only [sel_t, sel_f] at hI; obtain ⟨rfl,hb⟩ := hI
                  refine lin_yield (.int .i64 ↑k) rfl (by go_simp; first | done | with_reducible rfl | assumption) ?_
                  exact hK.out _ _ ⟨true,true,true,C3,true,false,false,false,C8,C9,D0,D1,false,D3,D4,D5,D6,D7,D8,D9,E0,E1,false,false,by kernel_rfl,by kernel_rfl,hb⟩
                refine lin_cons [10,11,12,14] [16,17,22,32,33] rfl (by kernel_rfl) (by kernel_rfl) ?_ ?_
                · intro L ac Wn hI hi hds hus Kc hK; obtain ⟨C0,C1,C2,C3,C4,C5,C6,C7,C8,C9,D0,D1,D2,D3,D4,D5,D6,D7,D8,D9,E0,E1,E2,E3,rfl,hI⟩ := hI; obtain rfl : C5 = false := hi; obtain ⟨rfl,rfl,rfl,rfl,-⟩ : C0=true∧C1=true∧C2=true∧C4=true∧True := hds; obtain ⟨rfl,rfl,rfl,rfl,rfl,-⟩ : C6=false∧C7=false∧D2=false∧E2=false∧E3=false∧True := hus; simp only [sel_t, sel_f] at hI; obtain ⟨rfl,hb⟩ := hI
                  refine lin_yield (.int .i64 ((k - 1 : Nat) : Int)) rfl (by go_simp; first | done | with_reducible rfl | assumption) ?_
                  exact hK.out _ _ ⟨true,true,true,C3,true,true,false,false,C8,C9,D0,D1,false,D3,D4,D5,D6,D7,D8,D9,E0,E1,false,false,by kernel_rfl,by kernel_rfl,hb⟩
                refine lin_cons [10,11,12,13,14,15] [17,22,32,33] rfl (by kernel_rfl) (by kernel_rfl) ?_ ?_
                · intro L ac Wn hI hi hds hus Kc hK; obtain ⟨C0,C1,C2,C3,C4,C5,C6,C7,C8,C9,D0,D1,D2,D3,D4,D5,D6,D7,D8,D9,E0,E1,E2,E3,rfl,hI⟩ := hI; obtain rfl : C6 = false := hi; obtain ⟨rfl,rfl,rfl,rfl,rfl,rfl,-⟩ : C0=true∧C1=true∧C2=true∧C3=true∧C4=true∧C5=true∧True := hds; obtain ⟨rfl,rfl,rfl,rfl,-⟩ : C7=false∧D2=false∧E2=false∧E3=false∧True := hus; simp only [sel_t, sel_f] at hI; obtain ⟨rfl,hb⟩ := hI
                  refine lin_yield (.pointer (some { block := lb, off := lo + (k - 1) * 3 })) rfl (by go_simp; first | done | with_reducible rfl | assumption) ?_
                  exact hK.out _ _ ⟨true,true,true,true,true,true,true,false,C8,C9,D0,D1,false,D3,D4,D5,D6,D7,D8,D9,E0,E1,false,false,by kernel_rfl,by kernel_rfl,hb⟩
                refine lin_cons [10,11,12,13,14,15,16] [22,32,33] rfl (by kernel_rfl) (by kernel_rfl) ?_ ?_
                · intro L ac Wn hI hi hds hus Kc hK; obtain ⟨C0,C1,C2,C3,C4,C5,C6,C7,C8,C9,D0,D1,D2,D3,D4,D5,D6,D7,D8,D9,E0,E1,E2,E3,rfl,hI⟩ := hI; obtain rfl : C7 = false := hi; obtain ⟨rfl,rfl,rfl,rfl,rfl,rfl,rfl,-⟩ : C0=true∧C1=true∧C2=true∧C3=true∧C4=true∧C5=true∧C6=true∧True := hds; obtain ⟨rfl,rfl,rfl,-⟩ : D2=false∧E2=false∧E3=false∧True := hus; simp only [sel_t, sel_f] at hI; obtain ⟨rfl,hb⟩ := hI
                  have q0 : Wn.cell? ⟨lb, lo + (k - 1) * 3, none⟩ = some (.bool m0) := by rw [hb.cell hlbU]; exact gp1
                  have q1 : Wn.cell? ⟨lb, lo + (k - 1) * 3 + 1, none⟩ = some (.string s0) := by rw [hb.cell hlbU]; exact gp2
                  have q2 : Wn.cell? ⟨lb, lo + (k - 1) * 3 + 2, none⟩ = some (.int .i64 x0) := by rw [hb.cell hlbU]; exact gp3
                  refine lin_yield (.agg #[.bool m0, .string s0, .int .i64 x0]) rfl (by go_simp; first | done | with_reducible rfl | assumption) ?_
                  exact hK.out _ _ ⟨true,true,true,true,true,true,true,true,C8,C9,D0,D1,false,D3,D4,D5,D6,D7,D8,D9,E0,E1,false,false,by kernel_rfl,by kernel_rfl,hb⟩
                refine lin_cons [10,11,12] [20,21,22,32,33] rfl (by kernel_rfl) (by kernel_rfl) ?_ ?_
                · intro L ac Wn hI hi hds hus Kc hK; obtain ⟨C0,C1,C2,C3,C4,C5,C6,C7,C8,C9,D0,D1,D2,D3,D4,D5,D6,D7,D8,D9,E0,E1,E2,E3,rfl,hI⟩ := hI; obtain rfl : C8 = false := hi; obtain ⟨rfl,rfl,rfl,-⟩ : C0=true∧C1=true∧C2=true∧True := hds; obtain ⟨rfl,rfl,rfl,rfl,rfl,-⟩ : D0=false∧D1=false∧D2=false∧E2=false∧E3=false∧True := hus; simp only [sel_t, sel_f] at hI; obtain ⟨rfl,hb⟩ := hI
                  refine lin_yield (.slice (some { block := lb, off := lo }) n c) rfl (by go_simp; first | done | with_reducible rfl | assumption) ?_
                  exact hK.out _ _ ⟨true,true,true,C3,C4,C5,C6,C7,true,C9,false,false,false,D3,D4,D5,D6,D7,D8,D9,E0,E1,false,false,by kernel_rfl,by kernel_rfl,hb⟩
                refine lin_cons [10,11,12] [20,21,22,32,33] rfl (by kernel_rfl) (by kernel_rfl) ?_ ?_
                · intro L ac Wn hI hi hds hus Kc hK; obtain ⟨C0,C1,C2,C3,C4,C5,C6,C7,C8,C9,D0,D1,D2,D3,D4,D5,D6,D7,D8,D9,E0,E1,E2,E3,rfl,hI⟩ := hI; obtain rfl : C9 = false := hi; obtain ⟨rfl,rfl,rfl,-⟩ : C0=true∧C1=true∧C2=true∧True := hds; obtain ⟨rfl,rfl,rfl,rfl,rfl,-⟩ : D0=false∧D1=false∧D2=false∧E2=false∧E3=false∧True := hus; simp only [sel_t, sel_f] at hI; obtain ⟨rfl,hb⟩ := hI
                  refine lin_yield (.int .i64 ↑k) rfl (by go_simp; first | done | with_reducible rfl | assumption) ?_
                  exact hK.out _ _ ⟨true,true,true,C3,C4,C5,C6,C7,C8,true,false,false,false,D3,D4,D5,D6,D7,D8,D9,E0,E1,false,false,by kernel_rfl,by kernel_rfl,hb⟩
                refine lin_cons [10,11,12,18,19] [21,22,32,33] rfl (by kernel_rfl) (by kernel_rfl) ?_ ?_
                · intro L ac Wn hI hi hds hus Kc hK; obtain ⟨C0,C1,C2,C3,C4,C5,C6,C7,C8,C9,D0,D1,D2,D3,D4,D5,D6,D7,D8,D9,E0,E1,E2,E3,rfl,hI⟩ := hI; obtain rfl : D0 = false := hi; obtain ⟨rfl,rfl,rfl,rfl,rfl,-⟩ : C0=true∧C1=true∧C2=true∧C8=true∧C9=true∧True := hds; obtain ⟨rfl,rfl,rfl,rfl,-⟩ : D1=false∧D2=false∧E2=false∧E3=false∧True := hus; simp only [sel_t, sel_f] at hI; obtain ⟨rfl,hb⟩ := hI
                  refine lin_yield (.pointer (some { block := lb, off := lo + k * 3 })) rfl (by go_simp; first | done | with_reducible rfl | assumption) ?_
                  exact hK.out _ _ ⟨true,true,true,C3,C4,C5,C6,C7,true,true,true,false,false,D3,D4,D5,D6,D7,D8,D9,E0,E1,false,false,by kernel_rfl,by kernel_rfl,hb⟩
                refine lin_cons [10,11,12,18,19,20] [22,32,33] rfl (by kernel_rfl) (by kernel_rfl) ?_ ?_
                · intro L ac Wn hI hi hds hus Kc hK; obtain ⟨C0,C1,C2,C3,C4,C5,C6,C7,C8,C9,D0,D1,D2,D3,D4,D5,D6,D7,D8,D9,E0,E1,E2,E3,rfl,hI⟩ := hI; obtain rfl : D1 = false := hi; obtain ⟨rfl,rfl,rfl,rfl,rfl,rfl,-⟩ : C0=true∧C1=true∧C2=true∧C8=true∧C9=true∧D0=true∧True := hds; obtain ⟨rfl,rfl,rfl,-⟩ : D2=false∧E2=false∧E3=false∧True := hus; simp only [sel_t, sel_f] at hI; obtain ⟨rfl,hb⟩ := hI
                  have q0 : Wn.cell? ⟨lb, lo + k * 3, none⟩ = some (.bool m1) := by rw [hb.cell hlbU]; exact gc1
                  have q1 : Wn.cell? ⟨lb, lo + k * 3 + 1, none⟩ = some (.string s1) := by rw [hb.cell hlbU]; exact gc2
                  have q2 : Wn.cell? ⟨lb, lo + k * 3 + 2, none⟩ = some (.int .i64 x1) := by rw [hb.cell hlbU]; exact gc3
                  refine lin_yield (.agg #[.bool m1, .string s1, .int .i64 x1]) rfl (by go_simp; first | done | with_reducible rfl | assumption) ?_
                  exact hK.out _ _ ⟨true,true,true,C3,C4,C5,C6,C7,true,true,true,true,false,D3,D4,D5,D6,D7,D8,D9,E0,E1,false,false,by kernel_rfl,by kernel_rfl,hb⟩
                refine lin_cons [10,11,12,13,14,15,16,17,18,19,20,21] [32,33] rfl (by kernel_rfl) (by kernel_rfl) ?_ ?_
                · intro L ac Wn hI hi hds hus Kc hK; obtain ⟨C0,C1,C2,C3,C4,C5,C6,C7,C8,C9,D0,D1,D2,D3,D4,D5,D6,D7,D8,D9,E0,E1,E2,E3,rfl,hI⟩ := hI; obtain rfl : D2 = false := hi; obtain ⟨rfl,rfl,rfl,rfl,rfl,rfl,rfl,rfl,rfl,rfl,rfl,rfl,-⟩ : C0=true∧C1=true∧C2=true∧C3=true∧C4=true∧C5=true∧C6=true∧C7=true∧C8=true∧C9=true∧D0=true∧D1=true∧True := hds; obtain ⟨rfl,rfl,-⟩ : E2=false∧E3=false∧True := hus; simp only [sel_t, sel_f] at hI; obtain ⟨rfl,hb⟩ := hI
                  go_simp
                  go_fit (use_ysub (by unfold Ok3; omega) (by unfold Ok3; omega) HC.out.1)
                  rintro e V ⟨rfl, hq⟩
                  exact hK.out _ _ ⟨true,true,true,true,true,true,true,true,true,true,true,true,true,D3,D4,D5,D6,D7,D8,D9,E0,E1,false,false,by kernel_rfl,by kernel_rfl,(below_next hb hq)⟩
                refine lin_cons [10,11,12] [26,27,32,33] rfl (by kernel_rfl) (by kernel_rfl) ?_ ?_
                · intro L ac Wn hI hi hds hus Kc hK; obtain ⟨C0,C1,C2,C3,C4,C5,C6,C7,C8,C9,D0,D1,D2,D3,D4,D5,D6,D7,D8,D9,E0,E1,E2,E3,rfl,hI⟩ := hI; obtain rfl : D3 = false := hi; obtain ⟨rfl,rfl,rfl,-⟩ : C0=true∧C1=true∧C2=true∧True := hds; obtain ⟨rfl,rfl,rfl,rfl,-⟩ : D6=false∧D7=false∧E2=false∧E3=false∧True := hus; simp only [sel_t, sel_f] at hI; obtain ⟨rfl,hb⟩ := hI
                  refine lin_yield (.slice (some { block := lb, off := lo }) n c) rfl (by go_simp; first | done | with_reducible rfl | assumption) ?_
                  exact hK.out _ _ ⟨true,true,true,C3,C4,C5,C6,C7,C8,C9,D0,D1,D2,true,D4,D5,false,false,D8,D9,E0,E1,false,false,by kernel_rfl,by kernel_rfl,hb⟩
                refine lin_cons [10,11,12] [25,26,27,32,33] rfl (by kernel_rfl) (by kernel_rfl) ?_ ?_
                · intro L ac Wn hI hi hds hus Kc hK; obtain ⟨C0,C1,C2,C3,C4,C5,C6,C7,C8,C9,D0,D1,D2,D3,D4,D5,D6,D7,D8,D9,E0,E1,E2,E3,rfl,hI⟩ := hI; obtain rfl : D4 = false := hi; obtain ⟨rfl,rfl,rfl,-⟩ : C0=true∧C1=true∧C2=true∧True := hds; obtain ⟨rfl,rfl,rfl,rfl,rfl,-⟩ : D5=false∧D6=false∧D7=false∧E2=false∧E3=false∧True := hus; simp only [sel_t, sel_f] at hI; obtain ⟨rfl,hb⟩ := hI
                  refine lin_yield (.int .i64 ↑k) rfl (by go_simp; first | done | with_reducible rfl | assumption) ?_
                  exact hK.out _ _ ⟨true,true,true,C3,C4,C5,C6,C7,C8,C9,D0,D1,D2,D3,true,false,false,false,D8,D9,E0,E1,false,false,by kernel_rfl,by kernel_rfl,hb⟩
                refine lin_cons [10,11,12,24] [26,27,32,33] rfl (by kernel_rfl) (by kernel_rfl) ?_ ?_
                · intro L ac Wn hI hi hds hus Kc hK; obtain ⟨C0,C1,C2,C3,C4,C5,C6,C7,C8,C9,D0,D1,D2,D3,D4,D5,D6,D7,D8,D9,E0,E1,E2,E3,rfl,hI⟩ := hI; obtain rfl : D5 = false := hi; obtain ⟨rfl,rfl,rfl,rfl,-⟩ : C0=true∧C1=true∧C2=true∧D4=true∧True := hds; obtain ⟨rfl,rfl,rfl,rfl,-⟩ : D6=false∧D7=false∧E2=false∧E3=false∧True := hus; simp only [sel_t, sel_f] at hI; obtain ⟨rfl,hb⟩ := hI
                  refine lin_yield (.int .i64 ((k - 1 : Nat) : Int)) rfl (by go_simp; first | done | with_reducible rfl | assumption) ?_
                  exact hK.out _ _ ⟨true,true,true,C3,C4,C5,C6,C7,C8,C9,D0,D1,D2,D3,true,true,false,false,D8,D9,E0,E1,false,false,by kernel_rfl,by kernel_rfl,hb⟩
                refine lin_cons [10,11,12,23,24,25] [27,32,33] rfl (by kernel_rfl) (by kernel_rfl) ?_ ?_
                · intro L ac Wn hI hi hds hus Kc hK; obtain ⟨C0,C1,C2,C3,C4,C5,C6,C7,C8,C9,D0,D1,D2,D3,D4,D5,D6,D7,D8,D9,E0,E1,E2,E3,rfl,hI⟩ := hI; obtain rfl : D6 = false := hi; obtain ⟨rfl,rfl,rfl,rfl,rfl,rfl,-⟩ : C0=true∧C1=true∧C2=true∧D3=true∧D4=true∧D5=true∧True := hds; obtain ⟨rfl,rfl,rfl,-⟩ : D7=false∧E2=false∧E3=false∧True := hus; simp only [sel_t, sel_f] at hI; obtain ⟨rfl,hb⟩ := hI
                  refine lin_yield (.pointer (some { block := lb, off := lo + (k - 1) * 3 })) rfl (by go_simp; first | done | with_reducible rfl | assumption) ?_
                  exact hK.out _ _ ⟨true,true,true,C3,C4,C5,C6,C7,C8,C9,D0,D1,D2,true,true,true,true,false,D8,D9,E0,E1,false,false,by kernel_rfl,by kernel_rfl,hb⟩
                refine lin_cons [10,11,12,23,24,25,26] [32,33] rfl (by kernel_rfl) (by kernel_rfl) ?_ ?_
                · intro L ac Wn hI hi hds hus Kc hK; obtain ⟨C0,C1,C2,C3,C4,C5,C6,C7,C8,C9,D0,D1,D2,D3,D4,D5,D6,D7,D8,D9,E0,E1,E2,E3,rfl,hI⟩ := hI; obtain rfl : D7 = false := hi; obtain ⟨rfl,rfl,rfl,rfl,rfl,rfl,rfl,-⟩ : C0=true∧C1=true∧C2=true∧D3=true∧D4=true∧D5=true∧D6=true∧True := hds; obtain ⟨rfl,rfl,-⟩ : E2=false∧E3=false∧True := hus; simp only [sel_t, sel_f] at hI; obtain ⟨rfl,hb⟩ := hI
                  have q0 : Wn.cell? ⟨lb, lo + (k - 1) * 3, none⟩ = some (.bool m0) := by rw [hb.cell hlbU]; exact gp1
                  have q1 : Wn.cell? ⟨lb, lo + (k - 1) * 3 + 1, none⟩ = some (.string s0) := by rw [hb.cell hlbU]; exact gp2
                  have q2 : Wn.cell? ⟨lb, lo + (k - 1) * 3 + 2, none⟩ = some (.int .i64 x0) := by rw [hb.cell hlbU]; exact gp3
                  refine lin_yield (.agg #[.bool m0, .string s0, .int .i64 x0]) rfl (by go_simp; first | done | with_reducible rfl | assumption) ?_
                  exact hK.out _ _ ⟨true,true,true,C3,C4,C5,C6,C7,C8,C9,D0,D1,D2,true,true,true,true,true,D8,D9,E0,E1,false,false,by kernel_rfl,by kernel_rfl,hb⟩
                refine lin_cons [10,11,12] [30,31,32,33] rfl (by kernel_rfl) (by kernel_rfl) ?_ ?_
                · intro L ac Wn hI hi hds hus Kc hK; obtain ⟨C0,C1,C2,C3,C4,C5,C6,C7,C8,C9,D0,D1,D2,D3,D4,D5,D6,D7,D8,D9,E0,E1,E2,E3,rfl,hI⟩ := hI; obtain rfl : D8 = false := hi; obtain ⟨rfl,rfl,rfl,-⟩ : C0=true∧C1=true∧C2=true∧True := hds; obtain ⟨rfl,rfl,rfl,rfl,-⟩ : E0=false∧E1=false∧E2=false∧E3=false∧True := hus; simp only [sel_t, sel_f] at hI; obtain ⟨rfl,hb⟩ := hI
                  refine lin_yield (.slice (some { block := lb, off := lo }) n c) rfl (by go_simp; first | done | with_reducible rfl | assumption) ?_
                  exact hK.out _ _ ⟨true,true,true,C3,C4,C5,C6,C7,C8,C9,D0,D1,D2,D3,D4,D5,D6,D7,true,D9,false,false,false,false,by kernel_rfl,by kernel_rfl,hb⟩
                refine lin_cons [10,11,12] [30,31,32,33] rfl (by kernel_rfl) (by kernel_rfl) ?_ ?_
                · intro L ac Wn hI hi hds hus Kc hK; obtain ⟨C0,C1,C2,C3,C4,C5,C6,C7,C8,C9,D0,D1,D2,D3,D4,D5,D6,D7,D8,D9,E0,E1,E2,E3,rfl,hI⟩ := hI; obtain rfl : D9 = false := hi; obtain ⟨rfl,rfl,rfl,-⟩ : C0=true∧C1=true∧C2=true∧True := hds; obtain ⟨rfl,rfl,rfl,rfl,-⟩ : E0=false∧E1=false∧E2=false∧E3=false∧True := hus; simp only [sel_t, sel_f] at hI; obtain ⟨rfl,hb⟩ := hI
                  refine lin_yield (.int .i64 ↑k) rfl (by go_simp; first | done | with_reducible rfl | assumption) ?_
                  exact hK.out _ _ ⟨true,true,true,C3,C4,C5,C6,C7,C8,C9,D0,D1,D2,D3,D4,D5,D6,D7,D8,true,false,false,false,false,by kernel_rfl,by kernel_rfl,hb⟩
                refine lin_cons [10,11,12,28,29] [31,32,33] rfl (by kernel_rfl) (by kernel_rfl) ?_ ?_
                · intro L ac Wn hI hi hds hus Kc hK; obtain ⟨C0,C1,C2,C3,C4,C5,C6,C7,C8,C9,D0,D1,D2,D3,D4,D5,D6,D7,D8,D9,E0,E1,E2,E3,rfl,hI⟩ := hI; obtain rfl : E0 = false := hi; obtain ⟨rfl,rfl,rfl,rfl,rfl,-⟩ : C0=true∧C1=true∧C2=true∧D8=true∧D9=true∧True := hds; obtain ⟨rfl,rfl,rfl,-⟩ : E1=false∧E2=false∧E3=false∧True := hus; simp only [sel_t, sel_f] at hI; obtain ⟨rfl,hb⟩ := hI
                  refine lin_yield (.pointer (some { block := lb, off := lo + k * 3 })) rfl (by go_simp; first | done | with_reducible rfl | assumption) ?_
                  exact hK.out _ _ ⟨true,true,true,C3,C4,C5,C6,C7,C8,C9,D0,D1,D2,D3,D4,D5,D6,D7,true,true,true,false,false,false,by kernel_rfl,by kernel_rfl,hb⟩
                refine lin_cons [10,11,12,28,29,30] [32,33] rfl (by kernel_rfl) (by kernel_rfl) ?_ ?_
                · intro L ac Wn hI hi hds hus Kc hK; obtain ⟨C0,C1,C2,C3,C4,C5,C6,C7,C8,C9,D0,D1,D2,D3,D4,D5,D6,D7,D8,D9,E0,E1,E2,E3,rfl,hI⟩ := hI; obtain rfl : E1 = false := hi; obtain ⟨rfl,rfl,rfl,rfl,rfl,rfl,-⟩ : C0=true∧C1=true∧C2=true∧D8=true∧D9=true∧E0=true∧True := hds; obtain ⟨rfl,rfl,-⟩ : E2=false∧E3=false∧True := hus; simp only [sel_t, sel_f] at hI; obtain ⟨rfl,hb⟩ := hI
                  have q0 : Wn.cell? ⟨lb, lo + k * 3, none⟩ = some (.bool m1) := by rw [hb.cell hlbU]; exact gc1
                  have q1 : Wn.cell? ⟨lb, lo + k * 3 + 1, none⟩ = some (.string s1) := by rw [hb.cell hlbU]; exact gc2
                  have q2 : Wn.cell? ⟨lb, lo + k * 3 + 2, none⟩ = some (.int .i64 x1) := by rw [hb.cell hlbU]; exact gc3
                  refine lin_yield (.agg #[.bool m1, .string s1, .int .i64 x1]) rfl (by go_simp; first | done | with_reducible rfl | assumption) ?_
                  exact hK.out _ _ ⟨true,true,true,C3,C4,C5,C6,C7,C8,C9,D0,D1,D2,D3,D4,D5,D6,D7,true,true,true,true,false,false,by kernel_rfl,by kernel_rfl,hb⟩
                refine lin_cons [10,11,12,13,14,15,16,17,18,19,20,21,22,23,24,25,26,27,28,29,30,31] [33] rfl (by kernel_rfl) (by kernel_rfl) ?_ ?_
                · intro L ac Wn hI hi hds hus Kc hK; obtain ⟨C0,C1,C2,C3,C4,C5,C6,C7,C8,C9,D0,D1,D2,D3,D4,D5,D6,D7,D8,D9,E0,E1,E2,E3,rfl,hI⟩ := hI; obtain rfl : E2 = false := hi; obtain ⟨rfl,rfl,rfl,rfl,rfl,rfl,rfl,rfl,rfl,rfl,rfl,rfl,rfl,rfl,rfl,rfl,rfl,rfl,rfl,rfl,rfl,rfl,-⟩ : C0=true∧C1=true∧C2=true∧C3=true∧C4=true∧C5=true∧C6=true∧C7=true∧C8=true∧C9=true∧D0=true∧D1=true∧D2=true∧D3=true∧D4=true∧D5=true∧D6=true∧D7=true∧D8=true∧D9=true∧E0=true∧E1=true∧True := hds; obtain ⟨rfl,-⟩ : E3=false∧True := hus; simp only [sel_t, sel_f] at hI; obtain ⟨rfl,hb⟩ := hI
                  go_simp
                  go_fit (rysub_any _ m0 m1 s0 s1 x0 x1 (by omega) (by omega) (by omega) (by omega) z4 o4 e4 HC.out.1)
                  rintro e V ⟨rfl, hq⟩
                  exact hK.out _ _ ⟨true,true,true,true,true,true,true,true,true,true,true,true,true,true,true,true,true,true,true,true,true,true,true,false,by kernel_rfl,by kernel_rfl,(below_next hb hq)⟩
                refine lin_cons [10,11,12,13,14,15,16,17,18,19,20,21,22,23,24,25,26,27,28,29,30,31,32] [] rfl (by kernel_rfl) (by kernel_rfl) ?_ lin_nil
                intro L ac Wn hI hi hds hus Kc hK; obtain ⟨C0,C1,C2,C3,C4,C5,C6,C7,C8,C9,D0,D1,D2,D3,D4,D5,D6,D7,D8,D9,E0,E1,E2,E3,rfl,hI⟩ := hI; obtain rfl : E3 = false := hi; obtain ⟨rfl,rfl,rfl,rfl,rfl,rfl,rfl,rfl,rfl,rfl,rfl,rfl,rfl,rfl,rfl,rfl,rfl,rfl,rfl,rfl,rfl,rfl,rfl,-⟩ : C0=true∧C1=true∧C2=true∧C3=true∧C4=true∧C5=true∧C6=true∧C7=true∧C8=true∧C9=true∧D0=true∧D1=true∧D2=true∧D3=true∧D4=true∧D5=true∧D6=true∧D7=true∧D8=true∧D9=true∧E0=true∧E1=true∧E2=true∧True := hds; simp only [sel_t, sel_f] at hI; obtain ⟨rfl,hb⟩ := hI
                refine lin_yield (.bool false) rfl (by go_simp; first | done | with_reducible rfl | assumption) ?_
                exact hK.out _ _ ⟨true,true,true,true,true,true,true,true,true,true,true,true,true,true,true,true,true,true,true,true,true,true,true,true,by kernel_rfl,by kernel_rfl,hb⟩
              refine bar_of [10, 11, 12, 13, 14, 15, 16, 17, 18, 19, 20, 21, 22, 23, 24, 25, 26, 27, 28, 29, 30, 31, 32, 33] rfl (by kernel_rfl) ?_
              intro L ac Wn hI hds Kc hK; obtain ⟨C0,C1,C2,C3,C4,C5,C6,C7,C8,C9,D0,D1,D2,D3,D4,D5,D6,D7,D8,D9,E0,E1,E2,E3,rfl,hI⟩ := hI; obtain ⟨rfl,rfl,rfl,rfl,rfl,rfl,rfl,rfl,rfl,rfl,rfl,rfl,rfl,rfl,rfl,rfl,rfl,rfl,rfl,rfl,rfl,rfl,rfl,rfl,-⟩ : C0=true∧C1=true∧C2=true∧C3=true∧C4=true∧C5=true∧C6=true∧C7=true∧C8=true∧C9=true∧D0=true∧D1=true∧D2=true∧D3=true∧D4=true∧D5=true∧D6=true∧D7=true∧D8=true∧D9=true∧E0=true∧E1=true∧E2=true∧E3=true∧True := hds; simp only [sel_t] at hI; obtain ⟨rfl,hb⟩ := hI
              refine lin_yield (.bool false) rfl (by go_simp; first | done | with_reducible rfl | assumption) ?_
              refine hK.out _ _ (fun fu hf => ?_)
              clear hK Kc
              refine lin_seg 59 [35,36,37,38,39,40,41,42,43,44,45,46,47,48,49,50,51,52,53,54,55,56,57,58] 58 (fun L ac Wn => ∃ E5 E6 E7 E8 E9 F0 F1 F2 F3 F4 F5 F6 F7 F8 F9 G0 G1 G2 G3 G4 G5 G6 G7 : Bool,L = #[true,true,true,true,true,true,true,true,true,true,true,true,true,true,true,true,true,true,true,true,true,true,true,true,true,true,true,true,true,true,true,true,true,true,true,E5,E6,E7,E8,E9,F0,F1,F2,F3,F4,F5,F6,F7,F8,F9,G0,G1,G2,G3,G4,G5,G6,G7,false]∧ac = { tmps := #[.slice (some { block := lb,off := lo }) n c,undef,u2,.slice (some { block := ob,off := oo }) n oc,.int .i64 ↑k,.slice (some { block := lb,off := lo }) n c,.int .i64 ↑n,.bool false,.bool false,.slice (some { block := lb,off := lo }) n c,.bool false,.bool false,undef,.slice (some ⟨W.heap.size,0,none⟩) 0 0,.slice (some { block := lb,off := lo }) n c,.slice (some { block := ob,off := oo }) n oc,.slice (some { block := ob,off := oo }) n oc,.agg #[.bool z1,.string o1,.int .i64 e1],.slice (some { block := lb,off := lo }) n c,.agg #[.bool z1,.string o1,.int .i64 e1],.bool false,.bool false,.slice (some { block := ob,off := oo }) n oc,.agg #[.bool z2,.string o2,.int .i64 e2],.slice (some { block := lb,off := lo }) n c,.agg #[.bool z2,.string o2,.int .i64 e2],.bool false,.bool false,.bool false,.slice (some { block := ob,off := oo }) n oc,.agg #[.bool z3,.string o3,.int .i64 e3],.slice (some { block := lb,off := lo }) n c,.agg #[.bool z3,.string o3,.int .i64 e3],.bool false,.bool false,.int .i64 ↑k,.slice (some { block := lb,off := lo }) n c,.int .i64 ↑n,.bool true,u39,u40,.slice (some { block := ob,off := oo }) n oc,.int .i64 ↑k,.pointer (some { block := ob,off := oo + k * 3 }),.agg #[.bool m1,.string s1,.int .i64 x1],.slice (some { block := lb,off := lo }) n c,.int .i64 ↑k,.pointer (some { block := lb,off := lo + k * 3 }),.agg #[.bool m1,.string s1,.int .i64 x1],.bool false,.bool false,.int .i64 ↑k,.bool true,.bool true,.slice (some { block := lb,off := lo }) n c,.int .i64 ↑k,.int .i64 ((k - 1 : Nat) : Int),.pointer (some { block := lb,off := lo + (k - 1) * 3 }),.agg #[.bool m0,.string s0,.int .i64 x0],.slice (some { block := lb,off := lo }) n c,.int .i64 ↑k,.pointer (some { block := lb,off := lo + k * 3 }),.agg #[.bool m1,.string s1,.int .i64 x1],.agg #[.bool z4,.string o4,.int .i64 e4],.slice (some { block := lb,off := lo }) n c,.int .i64 ↑k,.int .i64 ((k - 1 : Nat) : Int),.pointer (some { block := lb,off := lo + (k - 1) * 3 }),.agg #[.bool m0,.string s0,.int .i64 x0],.slice (some { block := lb,off := lo }) n c,.int .i64 ↑k,.pointer (some { block := lb,off := lo + k * 3 }),.agg #[.bool m1,.string s1,.int .i64 x1],.agg #[.bool z4,.string o4,.int .i64 e4],.bool false,.bool false,sel E5 (.slice (some { block := lb,off := lo }) n c) (u76),sel E6 (.int .i64 ↑k) (u77),sel E7 (.int .i64 ((k - 1 : Nat) : Int)) (u78),sel E8 (.pointer (some { block := lb,off := lo + (k - 1) * 3 })) (u79),sel E9 (.agg #[.bool m0,.string s0,.int .i64 x0]) (u80),sel F0 (.slice (some { block := lb,off := lo }) n c) (u81),sel F1 (.int .i64 ↑k) (u82),sel F2 (.pointer (some { block := lb,off := lo + k * 3 })) (u83),sel F3 (.agg #[.bool m1,.string s1,.int .i64 x1]) (u84),sel F4 (.int .i64 cc) (u85),sel F5 (.slice (some { block := lb,off := lo }) n c) (u86),sel F6 (.int .i64 ↑k) (u87),sel F7 (.int .i64 ((k - 1 : Nat) : Int)) (u88),sel F8 (.pointer (some { block := lb,off := lo + (k - 1) * 3 })) (u89),sel F9 (.agg #[.bool m0,.string s0,.int .i64 x0]) (u90),sel G0 (.slice (some { block := lb,off := lo }) n c) (u91),sel G1 (.int .i64 ↑k) (u92),sel G2 (.pointer (some { block := lb,off := lo + k * 3 })) (u93),sel G3 (.agg #[.bool m1,.string s1,.int .i64 x1]) (u94),sel G4 (.int .i64 cc) (u95),sel G5 (.bool false) (u96),sel G6 (.bool false) (u97),sel G7 (.bool false) (u98),u99,undef],defers := [] }∧Below (U3.heap.size) U3 Wn) (by kernel_rfl) (by kernel_rfl) (by kernel_rfl) (by kernel_rfl) hf ?_ ?_ ?_ (by kernel_rfl) ?_ (by decide)
              · exact ⟨false, false, false, false, false, false, false, false, false, false, false, false, false, false, false, false, false, false, false, false, false, false, false, by kernel_rfl, by kernel_rfl, hb⟩
              · rintro L ac Wn ⟨E5, E6, E7, E8, E9, F0, F1, F2, F3, F4, F5, F6, F7, F8, F9, G0, G1, G2, G3, G4, G5, G6, G7, rfl, _⟩
                kernel_rfl
              · refine (seg_all (b := 58) [35,36,37,38,39,40,41,42,43,44,45,46,47,48,49,50,51,52,53,54,55,56,57] ?_ : ∀ j ∈ [35,36,37,38,39,40,41,42,43,44,45,46,47,48,49,50,51,52,53,54,55,56,57,58],j ≠ 58 → _)
                refine lin_cons [] [38,39,44,54,55,56,57] rfl (by kernel_rfl) (by kernel_rfl) ?_ ?_
                · intro L ac Wn hI hi hds hus Kc hK; obtain ⟨E5,E6,E7,E8,E9,F0,F1,F2,F3,F4,F5,F6,F7,F8,F9,G0,G1,G2,G3,G4,G5,G6,G7,rfl,hI⟩ := hI; obtain rfl : E5 = false := hi; obtain ⟨rfl,rfl,rfl,rfl,rfl,rfl,rfl,-⟩ : E8=false∧E9=false∧F4=false∧G4=false∧G5=false∧G6=false∧G7=false∧True := hus; simp only [sel_f] at hI; obtain ⟨rfl,hb⟩ := hI
                  refine lin_yield (.slice (some { block := lb, off := lo }) n c) rfl (by go_simp; first | done | with_reducible rfl | assumption) ?_
                  exact hK.out _ _ ⟨true,E6,E7,false,false,F0,F1,F2,F3,false,F5,F6,F7,F8,F9,G0,G1,G2,G3,false,false,false,false,by kernel_rfl,by kernel_rfl,hb⟩
                refine lin_cons [] [37,38,39,44,54,55,56,57] rfl (by kernel_rfl) (by kernel_rfl) ?_ ?_
                · intro L ac Wn hI hi hds hus Kc hK; obtain ⟨E5,E6,E7,E8,E9,F0,F1,F2,F3,F4,F5,F6,F7,F8,F9,G0,G1,G2,G3,G4,G5,G6,G7,rfl,hI⟩ := hI; obtain rfl : E6 = false := hi; obtain ⟨rfl,rfl,rfl,rfl,rfl,rfl,rfl,rfl,-⟩ : E7=false∧E8=false∧E9=false∧F4=false∧G4=false∧G5=false∧G6=false∧G7=false∧True := hus; simp only [sel_f] at hI; obtain ⟨rfl,hb⟩ := hI
                  refine lin_yield (.int .i64 ↑k) rfl (by go_simp; first | done | with_reducible rfl | assumption) ?_
                  exact hK.out _ _ ⟨E5,true,false,false,false,F0,F1,F2,F3,false,F5,F6,F7,F8,F9,G0,G1,G2,G3,false,false,false,false,by kernel_rfl,by kernel_rfl,hb⟩
                refine lin_cons [36] [38,39,44,54,55,56,57] rfl (by kernel_rfl) (by kernel_rfl) ?_ ?_
                · intro L ac Wn hI hi hds hus Kc hK; obtain ⟨E5,E6,E7,E8,E9,F0,F1,F2,F3,F4,F5,F6,F7,F8,F9,G0,G1,G2,G3,G4,G5,G6,G7,rfl,hI⟩ := hI; obtain rfl : E7 = false := hi; obtain ⟨rfl,-⟩ : E6=true∧True := hds; obtain ⟨rfl,rfl,rfl,rfl,rfl,rfl,rfl,-⟩ : E8=false∧E9=false∧F4=false∧G4=false∧G5=false∧G6=false∧G7=false∧True := hus; simp only [sel_t, sel_f] at hI; obtain ⟨rfl,hb⟩ := hI
                  refine lin_yield (.int .i64 ((k - 1 : Nat) : Int)) rfl (by go_simp; first | done | with_reducible rfl | assumption) ?_
                  exact hK.out _ _ ⟨E5,true,true,false,false,F0,F1,F2,F3,false,F5,F6,F7,F8,F9,G0,G1,G2,G3,false,false,false,false,by kernel_rfl,by kernel_rfl,hb⟩
                refine lin_cons [35,36,37] [39,44,54,55,56,57] rfl (by kernel_rfl) (by kernel_rfl) ?_ ?_
                · intro L ac Wn hI hi hds hus Kc hK; obtain ⟨E5,E6,E7,E8,E9,F0,F1,F2,F3,F4,F5,F6,F7,F8,F9,G0,G1,G2,G3,G4,G5,G6,G7,rfl,hI⟩ := hI; obtain rfl : E8 = false := hi; obtain ⟨rfl,rfl,rfl,-⟩ : E5=true∧E6=true∧E7=true∧True := hds; obtain ⟨rfl,rfl,rfl,rfl,rfl,rfl,-⟩ : E9=false∧F4=false∧G4=false∧G5=false∧G6=false∧G7=false∧True := hus; simp only [sel_t, sel_f] at hI; obtain ⟨rfl,hb⟩ := hI
                  refine lin_yield (.pointer (some { block := lb, off := lo + (k - 1) * 3 })) rfl (by go_simp; first | done | with_reducible rfl | assumption) ?_
                  exact hK.out _ _ ⟨true,true,true,true,false,F0,F1,F2,F3,false,F5,F6,F7,F8,F9,G0,G1,G2,G3,false,false,false,false,by kernel_rfl,by kernel_rfl,hb⟩
                refine lin_cons [35,36,37,38] [44,54,55,56,57] rfl (by kernel_rfl) (by kernel_rfl) ?_ ?_
                · intro L ac Wn hI hi hds hus Kc hK; obtain ⟨E5,E6,E7,E8,E9,F0,F1,F2,F3,F4,F5,F6,F7,F8,F9,G0,G1,G2,G3,G4,G5,G6,G7,rfl,hI⟩ := hI; obtain rfl : E9 = false := hi; obtain ⟨rfl,rfl,rfl,rfl,-⟩ : E5=true∧E6=true∧E7=true∧E8=true∧True := hds; obtain ⟨rfl,rfl,rfl,rfl,rfl,-⟩ : F4=false∧G4=false∧G5=false∧G6=false∧G7=false∧True := hus; simp only [sel_t, sel_f] at hI; obtain ⟨rfl,hb⟩ := hI
                  have q0 : Wn.cell? ⟨lb, lo + (k - 1) * 3, none⟩ = some (.bool m0) := by rw [hb.cell hlbU]; exact gp1
                  have q1 : Wn.cell? ⟨lb, lo + (k - 1) * 3 + 1, none⟩ = some (.string s0) := by rw [hb.cell hlbU]; exact gp2
                  have q2 : Wn.cell? ⟨lb, lo + (k - 1) * 3 + 2, none⟩ = some (.int .i64 x0) := by rw [hb.cell hlbU]; exact gp3
                  refine lin_yield (.agg #[.bool m0, .string s0, .int .i64 x0]) rfl (by go_simp; first | done | with_reducible rfl | assumption) ?_
                  exact hK.out _ _ ⟨true,true,true,true,true,F0,F1,F2,F3,false,F5,F6,F7,F8,F9,G0,G1,G2,G3,false,false,false,false,by kernel_rfl,by kernel_rfl,hb⟩
                refine lin_cons [] [42,43,44,54,55,56,57] rfl (by kernel_rfl) (by kernel_rfl) ?_ ?_
                · intro L ac Wn hI hi hds hus Kc hK; obtain ⟨E5,E6,E7,E8,E9,F0,F1,F2,F3,F4,F5,F6,F7,F8,F9,G0,G1,G2,G3,G4,G5,G6,G7,rfl,hI⟩ := hI; obtain rfl : F0 = false := hi; obtain ⟨rfl,rfl,rfl,rfl,rfl,rfl,rfl,-⟩ : F2=false∧F3=false∧F4=false∧G4=false∧G5=false∧G6=false∧G7=false∧True := hus; simp only [sel_f] at hI; obtain ⟨rfl,hb⟩ := hI
                  refine lin_yield (.slice (some { block := lb, off := lo }) n c) rfl (by go_simp; first | done | with_reducible rfl | assumption) ?_
                  exact hK.out _ _ ⟨E5,E6,E7,E8,E9,true,F1,false,false,false,F5,F6,F7,F8,F9,G0,G1,G2,G3,false,false,false,false,by kernel_rfl,by kernel_rfl,hb⟩
                refine lin_cons [] [42,43,44,54,55,56,57] rfl (by kernel_rfl) (by kernel_rfl) ?_ ?_
                · intro L ac Wn hI hi hds hus Kc hK; obtain ⟨E5,E6,E7,E8,E9,F0,F1,F2,F3,F4,F5,F6,F7,F8,F9,G0,G1,G2,G3,G4,G5,G6,G7,rfl,hI⟩ := hI; obtain rfl : F1 = false := hi; obtain ⟨rfl,rfl,rfl,rfl,rfl,rfl,rfl,-⟩ : F2=false∧F3=false∧F4=false∧G4=false∧G5=false∧G6=false∧G7=false∧True := hus; simp only [sel_f] at hI; obtain ⟨rfl,hb⟩ := hI
                  refine lin_yield (.int .i64 ↑k) rfl (by go_simp; first | done | with_reducible rfl | assumption) ?_
                  exact hK.out _ _ ⟨E5,E6,E7,E8,E9,F0,true,false,false,false,F5,F6,F7,F8,F9,G0,G1,G2,G3,false,false,false,false,by kernel_rfl,by kernel_rfl,hb⟩
                refine lin_cons [40,41] [43,44,54,55,56,57] rfl (by kernel_rfl) (by kernel_rfl) ?_ ?_
                · intro L ac Wn hI hi hds hus Kc hK; obtain ⟨E5,E6,E7,E8,E9,F0,F1,F2,F3,F4,F5,F6,F7,F8,F9,G0,G1,G2,G3,G4,G5,G6,G7,rfl,hI⟩ := hI; obtain rfl : F2 = false := hi; obtain ⟨rfl,rfl,-⟩ : F0=true∧F1=true∧True := hds; obtain ⟨rfl,rfl,rfl,rfl,rfl,rfl,-⟩ : F3=false∧F4=false∧G4=false∧G5=false∧G6=false∧G7=false∧True := hus; simp only [sel_t, sel_f] at hI; obtain ⟨rfl,hb⟩ := hI
                  refine lin_yield (.pointer (some { block := lb, off := lo + k * 3 })) rfl (by go_simp; first | done | with_reducible rfl | assumption) ?_
                  exact hK.out _ _ ⟨E5,E6,E7,E8,E9,true,true,true,false,false,F5,F6,F7,F8,F9,G0,G1,G2,G3,false,false,false,false,by kernel_rfl,by kernel_rfl,hb⟩
                refine lin_cons [40,41,42] [44,54,55,56,57] rfl (by kernel_rfl) (by kernel_rfl) ?_ ?_
                · intro L ac Wn hI hi hds hus Kc hK; obtain ⟨E5,E6,E7,E8,E9,F0,F1,F2,F3,F4,F5,F6,F7,F8,F9,G0,G1,G2,G3,G4,G5,G6,G7,rfl,hI⟩ := hI; obtain rfl : F3 = false := hi; obtain ⟨rfl,rfl,rfl,-⟩ : F0=true∧F1=true∧F2=true∧True := hds; obtain ⟨rfl,rfl,rfl,rfl,rfl,-⟩ : F4=false∧G4=false∧G5=false∧G6=false∧G7=false∧True := hus; simp only [sel_t, sel_f] at hI; obtain ⟨rfl,hb⟩ := hI
                  have q0 : Wn.cell? ⟨lb, lo + k * 3, none⟩ = some (.bool m1) := by rw [hb.cell hlbU]; exact gc1
                  have q1 : Wn.cell? ⟨lb, lo + k * 3 + 1, none⟩ = some (.string s1) := by rw [hb.cell hlbU]; exact gc2
                  have q2 : Wn.cell? ⟨lb, lo + k * 3 + 2, none⟩ = some (.int .i64 x1) := by rw [hb.cell hlbU]; exact gc3
                  refine lin_yield (.agg #[.bool m1, .string s1, .int .i64 x1]) rfl (by go_simp; first | done | with_reducible rfl | assumption) ?_
                  exact hK.out _ _ ⟨E5,E6,E7,E8,E9,true,true,true,true,false,F5,F6,F7,F8,F9,G0,G1,G2,G3,false,false,false,false,by kernel_rfl,by kernel_rfl,hb⟩
                refine lin_cons [35,36,37,38,39,40,41,42,43] [54,55,56,57] rfl (by kernel_rfl) (by kernel_rfl) ?_ ?_
                · intro L ac Wn hI hi hds hus Kc hK; obtain ⟨E5,E6,E7,E8,E9,F0,F1,F2,F3,F4,F5,F6,F7,F8,F9,G0,G1,G2,G3,G4,G5,G6,G7,rfl,hI⟩ := hI; obtain rfl : F4 = false := hi; obtain ⟨rfl,rfl,rfl,rfl,rfl,rfl,rfl,rfl,rfl,-⟩ : E5=true∧E6=true∧E7=true∧E8=true∧E9=true∧F0=true∧F1=true∧F2=true∧F3=true∧True := hds; obtain ⟨rfl,rfl,rfl,rfl,-⟩ : G4=false∧G5=false∧G6=false∧G7=false∧True := hus; simp only [sel_t, sel_f] at hI; obtain ⟨rfl,hb⟩ := hI
                  go_simp
                  go_fit (use_ycmp (by unfold Ok3; omega) (by unfold Ok3; omega) cc HC.out.2)
                  rintro e V ⟨rfl, hq⟩
                  exact hK.out _ _ ⟨true,true,true,true,true,true,true,true,true,true,F5,F6,F7,F8,F9,G0,G1,G2,G3,false,false,false,false,by kernel_rfl,by kernel_rfl,(below_next hb hq)⟩
                refine lin_cons [] [48,49,54,55,56,57] rfl (by kernel_rfl) (by kernel_rfl) ?_ ?_
                · intro L ac Wn hI hi hds hus Kc hK; obtain ⟨E5,E6,E7,E8,E9,F0,F1,F2,F3,F4,F5,F6,F7,F8,F9,G0,G1,G2,G3,G4,G5,G6,G7,rfl,hI⟩ := hI; obtain rfl : F5 = false := hi; obtain ⟨rfl,rfl,rfl,rfl,rfl,rfl,-⟩ : F8=false∧F9=false∧G4=false∧G5=false∧G6=false∧G7=false∧True := hus; simp only [sel_f] at hI; obtain ⟨rfl,hb⟩ := hI
                  refine lin_yield (.slice (some { block := lb, off := lo }) n c) rfl (by go_simp; first | done | with_reducible rfl | assumption) ?_
                  exact hK.out _ _ ⟨E5,E6,E7,E8,E9,F0,F1,F2,F3,F4,true,F6,F7,false,false,G0,G1,G2,G3,false,false,false,false,by kernel_rfl,by kernel_rfl,hb⟩
                refine lin_cons [] [47,48,49,54,55,56,57] rfl (by kernel_rfl) (by kernel_rfl) ?_ ?_
                · intro L ac Wn hI hi hds hus Kc hK; obtain ⟨E5,E6,E7,E8,E9,F0,F1,F2,F3,F4,F5,F6,F7,F8,F9,G0,G1,G2,G3,G4,G5,G6,G7,rfl,hI⟩ := hI; obtain rfl : F6 = false := hi; obtain ⟨rfl,rfl,rfl,rfl,rfl,rfl,rfl,-⟩ : F7=false∧F8=false∧F9=false∧G4=false∧G5=false∧G6=false∧G7=false∧True := hus; simp only [sel_f] at hI; obtain ⟨rfl,hb⟩ := hI
                  refine lin_yield (.int .i64 ↑k) rfl (by go_simp; first | done | with_reducible rfl | assumption) ?_
                  exact hK.out _ _ ⟨E5,E6,E7,E8,E9,F0,F1,F2,F3,F4,F5,true,false,false,false,G0,G1,G2,G3,false,false,false,false,by kernel_rfl,by kernel_rfl,hb⟩
                refine lin_cons [46] [48,49,54,55,56,57] rfl (by kernel_rfl) (by kernel_rfl) ?_ ?_
                · intro L ac Wn hI hi hds hus Kc hK; obtain ⟨E5,E6,E7,E8,E9,F0,F1,F2,F3,F4,F5,F6,F7,F8,F9,G0,G1,G2,G3,G4,G5,G6,G7,rfl,hI⟩ := hI; obtain rfl : F7 = false := hi; obtain ⟨rfl,-⟩ : F6=true∧True := hds; obtain ⟨rfl,rfl,rfl,rfl,rfl,rfl,-⟩ : F8=false∧F9=false∧G4=false∧G5=false∧G6=false∧G7=false∧True := hus; simp only [sel_t, sel_f] at hI; obtain ⟨rfl,hb⟩ := hI
                  refine lin_yield (.int .i64 ((k - 1 : Nat) : Int)) rfl (by go_simp; first | done | with_reducible rfl | assumption) ?_
                  exact hK.out _ _ ⟨E5,E6,E7,E8,E9,F0,F1,F2,F3,F4,F5,true,true,false,false,G0,G1,G2,G3,false,false,false,false,by kernel_rfl,by kernel_rfl,hb⟩
                refine lin_cons [45,46,47] [49,54,55,56,57] rfl (by kernel_rfl) (by kernel_rfl) ?_ ?_
                · intro L ac Wn hI hi hds hus Kc hK; obtain ⟨E5,E6,E7,E8,E9,F0,F1,F2,F3,F4,F5,F6,F7,F8,F9,G0,G1,G2,G3,G4,G5,G6,G7,rfl,hI⟩ := hI; obtain rfl : F8 = false := hi; obtain ⟨rfl,rfl,rfl,-⟩ : F5=true∧F6=true∧F7=true∧True := hds; obtain ⟨rfl,rfl,rfl,rfl,rfl,-⟩ : F9=false∧G4=false∧G5=false∧G6=false∧G7=false∧True := hus; simp only [sel_t, sel_f] at hI; obtain ⟨rfl,hb⟩ := hI
                  refine lin_yield (.pointer (some { block := lb, off := lo + (k - 1) * 3 })) rfl (by go_simp; first | done | with_reducible rfl | assumption) ?_
                  exact hK.out _ _ ⟨E5,E6,E7,E8,E9,F0,F1,F2,F3,F4,true,true,true,true,false,G0,G1,G2,G3,false,false,false,false,by kernel_rfl,by kernel_rfl,hb⟩
                refine lin_cons [45,46,47,48] [54,55,56,57] rfl (by kernel_rfl) (by kernel_rfl) ?_ ?_
                · intro L ac Wn hI hi hds hus Kc hK; obtain ⟨E5,E6,E7,E8,E9,F0,F1,F2,F3,F4,F5,F6,F7,F8,F9,G0,G1,G2,G3,G4,G5,G6,G7,rfl,hI⟩ := hI; obtain rfl : F9 = false := hi; obtain ⟨rfl,rfl,rfl,rfl,-⟩ : F5=true∧F6=true∧F7=true∧F8=true∧True := hds; obtain ⟨rfl,rfl,rfl,rfl,-⟩ : G4=false∧G5=false∧G6=false∧G7=false∧True := hus; simp only [sel_t, sel_f] at hI; obtain ⟨rfl,hb⟩ := hI
                  have q0 : Wn.cell? ⟨lb, lo + (k - 1) * 3, none⟩ = some (.bool m0) := by rw [hb.cell hlbU]; exact gp1
                  have q1 : Wn.cell? ⟨lb, lo + (k - 1) * 3 + 1, none⟩ = some (.string s0) := by rw [hb.cell hlbU]; exact gp2
                  have q2 : Wn.cell? ⟨lb, lo + (k - 1) * 3 + 2, none⟩ = some (.int .i64 x0) := by rw [hb.cell hlbU]; exact gp3
                  refine lin_yield (.agg #[.bool m0, .string s0, .int .i64 x0]) rfl (by go_simp; first | done | with_reducible rfl | assumption) ?_
                  exact hK.out _ _ ⟨E5,E6,E7,E8,E9,F0,F1,F2,F3,F4,true,true,true,true,true,G0,G1,G2,G3,false,false,false,false,by kernel_rfl,by kernel_rfl,hb⟩
                refine lin_cons [] [52,53,54,55,56,57] rfl (by kernel_rfl) (by kernel_rfl) ?_ ?_
                · intro L ac Wn hI hi hds hus Kc hK; obtain ⟨E5,E6,E7,E8,E9,F0,F1,F2,F3,F4,F5,F6,F7,F8,F9,G0,G1,G2,G3,G4,G5,G6,G7,rfl,hI⟩ := hI; obtain rfl : G0 = false := hi; obtain ⟨rfl,rfl,rfl,rfl,rfl,rfl,-⟩ : G2=false∧G3=false∧G4=false∧G5=false∧G6=false∧G7=false∧True := hus; simp only [sel_f] at hI; obtain ⟨rfl,hb⟩ := hI
                  refine lin_yield (.slice (some { block := lb, off := lo }) n c) rfl (by go_simp; first | done | with_reducible rfl | assumption) ?_
                  exact hK.out _ _ ⟨E5,E6,E7,E8,E9,F0,F1,F2,F3,F4,F5,F6,F7,F8,F9,true,G1,false,false,false,false,false,false,by kernel_rfl,by kernel_rfl,hb⟩
                refine lin_cons [] [52,53,54,55,56,57] rfl (by kernel_rfl) (by kernel_rfl) ?_ ?_
                · intro L ac Wn hI hi hds hus Kc hK; obtain ⟨E5,E6,E7,E8,E9,F0,F1,F2,F3,F4,F5,F6,F7,F8,F9,G0,G1,G2,G3,G4,G5,G6,G7,rfl,hI⟩ := hI; obtain rfl : G1 = false := hi; obtain ⟨rfl,rfl,rfl,rfl,rfl,rfl,-⟩ : G2=false∧G3=false∧G4=false∧G5=false∧G6=false∧G7=false∧True := hus; simp only [sel_f] at hI; obtain ⟨rfl,hb⟩ := hI
                  refine lin_yield (.int .i64 ↑k) rfl (by go_simp; first | done | with_reducible rfl | assumption) ?_
                  exact hK.out _ _ ⟨E5,E6,E7,E8,E9,F0,F1,F2,F3,F4,F5,F6,F7,F8,F9,G0,true,false,false,false,false,false,false,by kernel_rfl,by kernel_rfl,hb⟩
                refine lin_cons [50,51] [53,54,55,56,57] rfl (by kernel_rfl) (by kernel_rfl) ?_ ?_
                · intro L ac Wn hI hi hds hus Kc hK; obtain ⟨E5,E6,E7,E8,E9,F0,F1,F2,F3,F4,F5,F6,F7,F8,F9,G0,G1,G2,G3,G4,G5,G6,G7,rfl,hI⟩ := hI; obtain rfl : G2 = false := hi; obtain ⟨rfl,rfl,-⟩ : G0=true∧G1=true∧True := hds; obtain ⟨rfl,rfl,rfl,rfl,rfl,-⟩ : G3=false∧G4=false∧G5=false∧G6=false∧G7=false∧True := hus; simp only [sel_t, sel_f] at hI; obtain ⟨rfl,hb⟩ := hI
                  refine lin_yield (.pointer (some { block := lb, off := lo + k * 3 })) rfl (by go_simp; first | done | with_reducible rfl | assumption) ?_
                  exact hK.out _ _ ⟨E5,E6,E7,E8,E9,F0,F1,F2,F3,F4,F5,F6,F7,F8,F9,true,true,true,false,false,false,false,false,by kernel_rfl,by kernel_rfl,hb⟩
                refine lin_cons [50,51,52] [54,55,56,57] rfl (by kernel_rfl) (by kernel_rfl) ?_ ?_
                · intro L ac Wn hI hi hds hus Kc hK; obtain ⟨E5,E6,E7,E8,E9,F0,F1,F2,F3,F4,F5,F6,F7,F8,F9,G0,G1,G2,G3,G4,G5,G6,G7,rfl,hI⟩ := hI; obtain rfl : G3 = false := hi; obtain ⟨rfl,rfl,rfl,-⟩ : G0=true∧G1=true∧G2=true∧True := hds; obtain ⟨rfl,rfl,rfl,rfl,-⟩ : G4=false∧G5=false∧G6=false∧G7=false∧True := hus; simp only [sel_t, sel_f] at hI; obtain ⟨rfl,hb⟩ := hI
                  have q0 : Wn.cell? ⟨lb, lo + k * 3, none⟩ = some (.bool m1) := by rw [hb.cell hlbU]; exact gc1
                  have q1 : Wn.cell? ⟨lb, lo + k * 3 + 1, none⟩ = some (.string s1) := by rw [hb.cell hlbU]; exact gc2
                  have q2 : Wn.cell? ⟨lb, lo + k * 3 + 2, none⟩ = some (.int .i64 x1) := by rw [hb.cell hlbU]; exact gc3
                  refine lin_yield (.agg #[.bool m1, .string s1, .int .i64 x1]) rfl (by go_simp; first | done | with_reducible rfl | assumption) ?_
                  exact hK.out _ _ ⟨E5,E6,E7,E8,E9,F0,F1,F2,F3,F4,F5,F6,F7,F8,F9,true,true,true,true,false,false,false,false,by kernel_rfl,by kernel_rfl,hb⟩
                refine lin_cons [35,36,37,38,39,40,41,42,43,44,45,46,47,48,49,50,51,52,53] [55,56,57] rfl (by kernel_rfl) (by kernel_rfl) ?_ ?_
                · intro L ac Wn hI hi hds hus Kc hK; obtain ⟨E5,E6,E7,E8,E9,F0,F1,F2,F3,F4,F5,F6,F7,F8,F9,G0,G1,G2,G3,G4,G5,G6,G7,rfl,hI⟩ := hI; obtain rfl : G4 = false := hi; obtain ⟨rfl,rfl,rfl,rfl,rfl,rfl,rfl,rfl,rfl,rfl,rfl,rfl,rfl,rfl,rfl,rfl,rfl,rfl,rfl,-⟩ : E5=true∧E6=true∧E7=true∧E8=true∧E9=true∧F0=true∧F1=true∧F2=true∧F3=true∧F4=true∧F5=true∧F6=true∧F7=true∧F8=true∧F9=true∧G0=true∧G1=true∧G2=true∧G3=true∧True := hds; obtain ⟨rfl,rfl,rfl,-⟩ : G5=false∧G6=false∧G7=false∧True := hus; simp only [sel_t, sel_f] at hI; obtain ⟨rfl,hb⟩ := hI
                  go_simp
                  go_fit (rycmp_any _ m0 m1 s0 s1 x0 x1 (by omega) (by omega) (by omega) (by omega) cc HC.out.2)
                  rintro e V ⟨rfl, hq⟩
                  exact hK.out _ _ ⟨true,true,true,true,true,true,true,true,true,true,true,true,true,true,true,true,true,true,true,true,false,false,false,by kernel_rfl,by kernel_rfl,(below_next hb hq)⟩
                refine lin_cons [35,36,37,38,39,40,41,42,43,44,45,46,47,48,49,50,51,52,53,54] [56,57] rfl (by kernel_rfl) (by kernel_rfl) ?_ ?_
                · intro L ac Wn hI hi hds hus Kc hK; obtain ⟨E5,E6,E7,E8,E9,F0,F1,F2,F3,F4,F5,F6,F7,F8,F9,G0,G1,G2,G3,G4,G5,G6,G7,rfl,hI⟩ := hI; obtain rfl : G5 = false := hi; obtain ⟨rfl,rfl,rfl,rfl,rfl,rfl,rfl,rfl,rfl,rfl,rfl,rfl,rfl,rfl,rfl,rfl,rfl,rfl,rfl,rfl,-⟩ : E5=true∧E6=true∧E7=true∧E8=true∧E9=true∧F0=true∧F1=true∧F2=true∧F3=true∧F4=true∧F5=true∧F6=true∧F7=true∧F8=true∧F9=true∧G0=true∧G1=true∧G2=true∧G3=true∧G4=true∧True := hds; obtain ⟨rfl,rfl,-⟩ : G6=false∧G7=false∧True := hus; simp only [sel_t, sel_f] at hI; obtain ⟨rfl,hb⟩ := hI
                  refine lin_yield (.bool false) rfl (by go_simp; first | done | with_reducible rfl | assumption) ?_
                  exact hK.out _ _ ⟨true,true,true,true,true,true,true,true,true,true,true,true,true,true,true,true,true,true,true,true,true,false,false,by kernel_rfl,by kernel_rfl,hb⟩
                refine lin_cons [35,36,37,38,39,40,41,42,43,44,45,46,47,48,49,50,51,52,53,54,55] [57] rfl (by kernel_rfl) (by kernel_rfl) ?_ ?_
                · intro L ac Wn hI hi hds hus Kc hK; obtain ⟨E5,E6,E7,E8,E9,F0,F1,F2,F3,F4,F5,F6,F7,F8,F9,G0,G1,G2,G3,G4,G5,G6,G7,rfl,hI⟩ := hI; obtain rfl : G6 = false := hi; obtain ⟨rfl,rfl,rfl,rfl,rfl,rfl,rfl,rfl,rfl,rfl,rfl,rfl,rfl,rfl,rfl,rfl,rfl,rfl,rfl,rfl,rfl,-⟩ : E5=true∧E6=true∧E7=true∧E8=true∧E9=true∧F0=true∧F1=true∧F2=true∧F3=true∧F4=true∧F5=true∧F6=true∧F7=true∧F8=true∧F9=true∧G0=true∧G1=true∧G2=true∧G3=true∧G4=true∧G5=true∧True := hds; obtain ⟨rfl,-⟩ : G7=false∧True := hus; simp only [sel_t, sel_f] at hI; obtain ⟨rfl,hb⟩ := hI
                  refine lin_yield (.bool false) rfl (by go_simp; first | done | with_reducible rfl | assumption) ?_
                  exact hK.out _ _ ⟨true,true,true,true,true,true,true,true,true,true,true,true,true,true,true,true,true,true,true,true,true,true,false,by kernel_rfl,by kernel_rfl,hb⟩
                refine lin_cons [35,36,37,38,39,40,41,42,43,44,45,46,47,48,49,50,51,52,53,54,55,56] [] rfl (by kernel_rfl) (by kernel_rfl) ?_ lin_nil
                intro L ac Wn hI hi hds hus Kc hK; obtain ⟨E5,E6,E7,E8,E9,F0,F1,F2,F3,F4,F5,F6,F7,F8,F9,G0,G1,G2,G3,G4,G5,G6,G7,rfl,hI⟩ := hI; obtain rfl : G7 = false := hi; obtain ⟨rfl,rfl,rfl,rfl,rfl,rfl,rfl,rfl,rfl,rfl,rfl,rfl,rfl,rfl,rfl,rfl,rfl,rfl,rfl,rfl,rfl,rfl,-⟩ : E5=true∧E6=true∧E7=true∧E8=true∧E9=true∧F0=true∧F1=true∧F2=true∧F3=true∧F4=true∧F5=true∧F6=true∧F7=true∧F8=true∧F9=true∧G0=true∧G1=true∧G2=true∧G3=true∧G4=true∧G5=true∧G6=true∧True := hds; simp only [sel_t, sel_f] at hI; obtain ⟨rfl,hb⟩ := hI
                refine lin_yield (.bool false) rfl (by go_simp; first | done | with_reducible rfl | assumption) ?_
                exact hK.out _ _ ⟨true,true,true,true,true,true,true,true,true,true,true,true,true,true,true,true,true,true,true,true,true,true,true,by kernel_rfl,by kernel_rfl,hb⟩
              refine bar_of [35, 36, 37, 38, 39, 40, 41, 42, 43, 44, 45, 46, 47, 48, 49, 50, 51, 52, 53, 54, 55, 56, 57] rfl (by kernel_rfl) ?_
              intro L ac Wn hI hds Kc hK; obtain ⟨E5,E6,E7,E8,E9,F0,F1,F2,F3,F4,F5,F6,F7,F8,F9,G0,G1,G2,G3,G4,G5,G6,G7,rfl,hI⟩ := hI; obtain ⟨rfl,rfl,rfl,rfl,rfl,rfl,rfl,rfl,rfl,rfl,rfl,rfl,rfl,rfl,rfl,rfl,rfl,rfl,rfl,rfl,rfl,rfl,rfl,-⟩ : E5=true∧E6=true∧E7=true∧E8=true∧E9=true∧F0=true∧F1=true∧F2=true∧F3=true∧F4=true∧F5=true∧F6=true∧F7=true∧F8=true∧F9=true∧G0=true∧G1=true∧G2=true∧G3=true∧G4=true∧G5=true∧G6=true∧G7=true∧True := hds; simp only [sel_t] at hI; obtain ⟨rfl,hb⟩ := hI
              refine lin_yield (.bool false) rfl (by go_simp; first | done | with_reducible rfl | assumption) ?_
              refine hK.out _ _ (fun fu hf => wpAnyH_done (by kernel_rfl) ?_ _)
              clear hK Kc hf
              go_wp2
              exact ⟨⟨k + 1, by omega, by simp, hb⟩, by simp [intY]; omega⟩
          · go_wp2_with fail
            refine (yawake_any _).mono ?_
            rintro e9 V9 ⟨rfl, hq⟩
            replace hb := below_next hb hq
            go_wp2
            go_ret
            exact ⟨rfl, hb⟩
end Go.Proofs.YtpahmnifkinpiaaGreatDoor
