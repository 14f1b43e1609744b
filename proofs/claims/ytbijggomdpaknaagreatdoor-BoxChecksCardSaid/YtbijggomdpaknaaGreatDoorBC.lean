/- Layer 1, laid together: BX10a, BX10. -/
import Derived.Test.YtbijggomdpaknaaGreatDoorBX9
import Derived.Deep.CutBlock
/- The chapter's examples: what the calls answer; of no walk but of's. -/
namespace Go.Proofs.YtbijggomdpaknaaGreatDoor
open Go.RowKit Go.Shelf
theorem RI.new (w : World) (t : TypeId) (zs : List Int) (L : Array Value) (hL : L = (zs.map (Value.int .i64)).toArray) : RI (w.alloc (.cells L t)) (some ⟨w.heap.size, 0, none⟩) zs := by
  subst hL
  intro i hi
  refine ⟨w.heap.size, 0, rfl, by rw [World.size_alloc]; exact Nat.lt_succ_self _, ?_⟩
  rw [Nat.zero_add, (Rw.new w t (zs.map (Value.int .i64))).cell, List.getElem?_map, List.getElem?_eq_getElem hi]
  rfl
theorem of4_any (w : World) (bd : Option Addr) (a b c d : Int) (hr : RI w bd [a, b, c, d]) (hs : ∀ z ∈ [a, b, c, d], -1000 ≤ z ∧ z ≤ 1000) :
    Calls Tryz.prog 20 #[.slice bd 4 4] w (fun e w' => ∃ od oc, e = .returned (.slice od 2 oc) ∧ 2 ≤ oc ∧ SAt w' od [(iN a, iN b), (iN c, iN d)] ∧ Below w.heap.size w w') :=
  bof_any w bd [(iN a, iN b), (iN c, iN d)] [a, b, c, d] 4 4 2 rfl rfl rfl (by decide) hr hs (fun i h h1 h2 => match i, h with | 0, _ => rfl | 1, _ => rfl)
theorem of2_any (w : World) (bd : Option Addr) (a b : Int) (hr : RI w bd [a, b]) (hs : ∀ z ∈ [a, b], -1000 ≤ z ∧ z ≤ 1000) :
    Calls Tryz.prog 20 #[.slice bd 2 2] w (fun e w' => ∃ od oc, e = .returned (.slice od 1 oc) ∧ 1 ≤ oc ∧ SAt w' od [(iN a, iN b)] ∧ Below w.heap.size w w') :=
  bof_any w bd [(iN a, iN b)] [a, b] 2 2 1 rfl rfl rfl (by decide) hr hs (fun i h h1 h2 => match i, h with | 0, _ => rfl)
/-- The chapter's box. -/
def awB : List SV := [(iN 0, iN 4), (iN 0, iN 2)]
theorem iN_gd (z : Int) (h : Raw (iN z)) : Gd 80 200 (iN z) := h.gd
theorem aw_small : ∀ x ∈ awB, GS 80 200 x := by
  intro x hx
  rcases List.mem_cons.1 hx with rfl | hx
  · exact ⟨iN_gd 0 (by unfold Raw; decide +kernel), iN_gd 4 (by unfold Raw; decide +kernel)⟩
  · obtain rfl := List.mem_singleton.1 hx
    exact ⟨iN_gd 0 (by unfold Raw; decide +kernel), iN_gd 2 (by unfold Raw; decide +kernel)⟩
theorem aw_flat : ∀ x ∈ [(iN 0, iN 0)], O3 x := by
  intro x hx
  obtain rfl := List.mem_singleton.1 hx
  exact ⟨(iN_gd 0 (by unfold Raw; decide +kernel)).1.ok3, (iN_gd 0 (by unfold Raw; decide +kernel)).1.ok3⟩
theorem aw_check : checkB awB = 0 := by decide +kernel
theorem aw_check2 : checkB [(iN 0, iN 0)] = 5 := by decide +kernel
theorem aw_wid : WidR awB 0 := .inr ⟨0, by decide, rfl, by decide +kernel, fun j hj => absurd hj (Nat.not_lt_zero _)⟩
theorem aw_vol : volD awB = .ofIntWithPrec 8 (-0) := by decide +kernel
theorem aw_mid : (awB.map fun x => canonN (mS x)) = [2, 1].map iN := by decide +kernel
theorem aw_c1 : (awB.zipIdx.map fun x => cornN 1 x.2 (fS x.1)) = [4, 0].map iN := by decide +kernel
theorem aw_c2 : (awB.zipIdx.map fun x => cornN 2 x.2 (fS x.1)) = [0, 2].map iN := by decide +kernel
theorem aw_pl : (awB.zipIdx.map fun x => placN [canonN (.ofIntWithPrec 1 (- -1))] x.2 (fS x.1)) = [2, 0].map iN := by decide +kernel
theorem aw_half : Gd 80 200 (canonN (.ofIntWithPrec 1 (- -1))) := Raw.gd (by unfold Raw; decide +kernel)
theorem aw_lo : halfB false (awB.map fS) 0 = [(iN 0, iN 2), (iN 0, iN 2)] := by decide +kernel
theorem aw_up : halfB true (awB.map fS) 0 = [(iN 2, iN 4), (iN 0, iN 2)] := by decide +kernel
theorem aw_part : partB (awB.map fS) [1, 2] = [(iN 2, iN 4), (iN 0, iN 1)] := by decide +kernel
theorem aw_has : hasB awB (awB.map fun x => canonN (mS x)) = true := by decide +kernel
theorem aw_mids : ∀ y ∈ (awB.map fun x => canonN (mS x)), Ok3 y.2.1 y.2.2 := by
  intro y hy
  obtain ⟨x, hx, rfl⟩ := List.mem_map.1 hy
  have := (aw_small x hx).mid.canon
  unfold Ok3
  omega
theorem aw_lows : ∀ x ∈ halfB false (awB.map fS) 0, O3 x := by
  intro x hx
  exact (half_small (B := 80) (E := 200) (fun y hy => by obtain ⟨z, hz, rfl⟩ := List.mem_map.1 hy; exact (aw_small z hz).form (by omega) (by omega)) false 0 (by decide) (by omega) (by omega) x hx).o2.o3
end Go.Proofs.YtbijggomdpaknaaGreatDoor
/- Package ogeelaw11: the chapter's examples (awake); walked. -/
namespace Go.Proofs.YtbijggomdpaknaaGreatDoor
open Go.RowKit Go.Shelf
set_option maxRecDepth 100000 in
set_option maxHeartbeats 6400000 in
theorem awake_any (w : World) : Calls Tryz.prog 5 #[] w (Ret (.bool true) w) := by
  have hb := Below.refl w.heap.size w
  go_enter Tryz.func5, Tryz.ntmps5
  have hri := RI.new w 2 [0, 4, 0, 2] _ rfl
  replace hb := hb.alloc hb.size (Obj.cells #[Value.int IntKind.i64 0, Value.int IntKind.i64 4, Value.int IntKind.i64 0, Value.int IntKind.i64 2] 2)
  have hc := of4_any (w.alloc (Obj.cells #[Value.int IntKind.i64 0, Value.int IntKind.i64 4, Value.int IntKind.i64 0, Value.int IntKind.i64 2] 2)) (some ⟨w.heap.size, 0, none⟩) 0 4 0 2 hri (by decide)
  go_wp2_with fail
  refine hc.mono ?_
  rintro e V1 ⟨bd, bc, rfl, hbc, hB, hq⟩
  clear hc
  replace hb := below_next hb hq
  clear hq
  clear hri
  replace hB : SAt V1 bd awB := hB
  have hc := bhalve_any V1 bd awB 2 bc 0 rfl (by decide) (by decide) hB (fun x h => (aw_small x h).o2)
  go_wp2_with fail
  refine hc.mono ?_
  rintro e V2 ⟨g1, g2, c1, c2, rfl, hg1, hg2, hc1, hc2, hX, hY, hq⟩
  clear hc
  replace hb := below_next hb hq
  replace hB := hB.below hq
  clear hq
  have hc := bhalve_no V2 bd 2 bc 2 (.inr (by decide))
  go_wp2_with fail
  refine hc.mono ?_
  rintro e V3 ⟨rfl, hq⟩
  clear hc
  replace hb := below_next hb hq
  replace hB := hB.below hq
  replace hX := hX.below hq
  replace hY := hY.below hq
  clear hq
  have hri := RI.new V3 3 [1, 2] _ rfl
  replace hB := hB.alloc (Obj.cells #[Value.int IntKind.i64 1, Value.int IntKind.i64 2] 3)
  replace hX := hX.alloc (Obj.cells #[Value.int IntKind.i64 1, Value.int IntKind.i64 2] 3)
  replace hY := hY.alloc (Obj.cells #[Value.int IntKind.i64 1, Value.int IntKind.i64 2] 3)
  replace hb := hb.alloc hb.size (Obj.cells #[Value.int IntKind.i64 1, Value.int IntKind.i64 2] 3)
  have hc := bpart_any (V3.alloc (Obj.cells #[Value.int IntKind.i64 1, Value.int IntKind.i64 2] 3)) bd awB 2 bc rfl (by decide) hB aw_small (by decide) (by decide) (some ⟨V3.heap.size, 0, none⟩) [1, 2] 2 2 rfl (by decide) hri (by decide) (by decide)
  go_wp2_with fail
  refine hc.mono ?_
  rintro e V4 ⟨g3, c3, rfl, hg3, hc3, hP, hq⟩
  clear hc
  replace hb := below_next hb hq
  replace hB := hB.below hq
  replace hX := hX.below hq
  replace hY := hY.below hq
  clear hq
  clear hri
  have hri := RI.new V4 3 [4] _ rfl
  replace hB := hB.alloc (Obj.cells #[Value.int IntKind.i64 4] 3)
  replace hX := hX.alloc (Obj.cells #[Value.int IntKind.i64 4] 3)
  replace hY := hY.alloc (Obj.cells #[Value.int IntKind.i64 4] 3)
  replace hP := hP.alloc (Obj.cells #[Value.int IntKind.i64 4] 3)
  replace hb := hb.alloc hb.size (Obj.cells #[Value.int IntKind.i64 4] 3)
  have hc := bpart_no (V4.alloc (Obj.cells #[Value.int IntKind.i64 4] 3)) bd 2 bc (by decide) (some ⟨V4.heap.size, 0, none⟩) [4] 1 1 rfl (by decide) hri (by decide) (by decide)
  go_wp2_with fail
  refine hc.mono ?_
  rintro e V5 ⟨rfl, hq⟩
  clear hc
  replace hb := below_next hb hq
  replace hB := hB.below hq
  replace hX := hX.below hq
  replace hY := hY.below hq
  replace hP := hP.below hq
  clear hq
  clear hri
  have hc := bcheck_any V5 bd awB 2 bc rfl (by decide) hB (fun x h => (aw_small x h).o2.o3)
  go_wp2_with fail
  refine hc.mono ?_
  rintro e V6 ⟨rfl, hq⟩
  clear hc
  replace hb := below_next hb hq
  replace hB := hB.below hq
  replace hX := hX.below hq
  replace hY := hY.below hq
  replace hP := hP.below hq
  clear hq
  rw [aw_check]
  have hri := RI.new V6 2 [0, 0] _ rfl
  replace hB := hB.alloc (Obj.cells #[Value.int IntKind.i64 0, Value.int IntKind.i64 0] 2)
  replace hX := hX.alloc (Obj.cells #[Value.int IntKind.i64 0, Value.int IntKind.i64 0] 2)
  replace hY := hY.alloc (Obj.cells #[Value.int IntKind.i64 0, Value.int IntKind.i64 0] 2)
  replace hP := hP.alloc (Obj.cells #[Value.int IntKind.i64 0, Value.int IntKind.i64 0] 2)
  replace hb := hb.alloc hb.size (Obj.cells #[Value.int IntKind.i64 0, Value.int IntKind.i64 0] 2)
  have hc := of2_any (V6.alloc (Obj.cells #[Value.int IntKind.i64 0, Value.int IntKind.i64 0] 2)) (some ⟨V6.heap.size, 0, none⟩) 0 0 hri (by decide)
  go_wp2_with fail
  refine hc.mono ?_
  rintro e V7 ⟨fd, fc, rfl, hfc, hF, hq⟩
  clear hc
  replace hb := below_next hb hq
  replace hB := hB.below hq
  replace hX := hX.below hq
  replace hY := hY.below hq
  replace hP := hP.below hq
  clear hq
  clear hri
  have hc := bcheck_any V7 fd [(iN 0, iN 0)] 1 fc rfl (by decide) hF aw_flat
  go_wp2_with fail
  refine hc.mono ?_
  rintro e V8 ⟨rfl, hq⟩
  clear hc
  replace hb := below_next hb hq
  replace hB := hB.below hq
  replace hX := hX.below hq
  replace hY := hY.below hq
  replace hP := hP.below hq
  replace hF := hF.below hq
  clear hq
  rw [aw_check2]
  clear hF
  have hc := bcheck_any V8 none [] 0 0 rfl (by decide) (fun i h => absurd h (Nat.not_lt_zero _)) (fun x h => by cases h)
  go_wp2_with fail
  refine hc.mono ?_
  rintro e V9 ⟨rfl, hq⟩
  clear hc
  replace hb := below_next hb hq
  replace hB := hB.below hq
  replace hX := hX.below hq
  replace hY := hY.below hq
  replace hP := hP.below hq
  clear hq
  rw [show checkB [] = 1 from rfl]
  have hc := bwidest_any V9 bd awB 2 bc rfl (by decide) hB aw_small (by decide) (by decide)
  go_wp2_with fail
  refine hc.mono ?_
  rintro e V10 ⟨r, rfl, hr, hq⟩
  clear hc
  replace hb := below_next hb hq
  replace hB := hB.below hq
  replace hX := hX.below hq
  replace hY := hY.below hq
  replace hP := hP.below hq
  clear hq
  obtain rfl := hr.same aw_wid
  clear hr
  obtain ⟨y8, h8⟩ : ∃ y : NV, canonN (.ofIntWithPrec 8 (-0)) = y := ⟨_, rfl⟩
  obtain ⟨m8, s8, d8⟩ := y8
  have hv8 : Calls Tryz.prog 17 #[.slice bd 2 bc] V10 (Ret (.agg #[.bool m8, .string s8, .int .i64 d8]) V10) := by
    have := bvol_any V10 bd awB 2 bc rfl (by decide) hB aw_small (by decide) (by decide)
    rw [aw_vol, h8] at this
    exact this
  have hc := hv8
  go_wp2_with fail
  refine hc.mono ?_
  rintro e V11 ⟨rfl, hq⟩
  clear hc
  replace hb := below_next hb hq
  replace hB := hB.below hq
  replace hX := hX.below hq
  replace hY := hY.below hq
  replace hP := hP.below hq
  clear hq
  clear hv8
  have hn8 : Calls Tryz.prog 23 #[.int .i64 8, .int .i64 0] V11 (Ret (.agg #[.bool m8, .string s8, .int .i64 d8]) V11) := by
    have := bnum_any V11 8 0 (by decide) (by decide) (by decide)
    rw [h8] at this
    exact this
  have hc := hn8
  go_wp2_with fail
  refine hc.mono ?_
  rintro e V12 ⟨rfl, hq⟩
  clear hc
  replace hb := below_next hb hq
  replace hB := hB.below hq
  replace hX := hX.below hq
  replace hY := hY.below hq
  replace hP := hP.below hq
  clear hq
  clear hn8 h8
  have hc := bmid_any V12 bd awB 2 bc rfl (by decide) hB (fun x h => (aw_small x h).o2)
  go_wp2_with fail
  refine hc.mono ?_
  rintro e V13 ⟨g5, rfl, hg5, hN, hq⟩
  clear hc
  replace hb := below_next hb hq
  replace hB := hB.below hq
  replace hX := hX.below hq
  replace hY := hY.below hq
  replace hP := hP.below hq
  clear hq
  have hri := RI.new V13 2 [2, 1] _ rfl
  replace hB := hB.alloc (Obj.cells #[Value.int IntKind.i64 2, Value.int IntKind.i64 1] 2)
  replace hX := hX.alloc (Obj.cells #[Value.int IntKind.i64 2, Value.int IntKind.i64 1] 2)
  replace hY := hY.alloc (Obj.cells #[Value.int IntKind.i64 2, Value.int IntKind.i64 1] 2)
  replace hP := hP.alloc (Obj.cells #[Value.int IntKind.i64 2, Value.int IntKind.i64 1] 2)
  replace hN := hN.alloc (Obj.cells #[Value.int IntKind.i64 2, Value.int IntKind.i64 1] 2)
  replace hb := hb.alloc hb.size (Obj.cells #[Value.int IntKind.i64 2, Value.int IntKind.i64 1] 2)
  have hc := is_any (V13.alloc (Obj.cells #[Value.int IntKind.i64 2, Value.int IntKind.i64 1] 2)) (some ⟨g5, 0, none⟩) (some ⟨V13.heap.size, 0, none⟩) (awB.map fun x => canonN (mS x)) [2, 1] 2 2 2 rfl (by decide) hN.nat hri (by decide) aw_mid
  go_wp2_with fail
  refine hc.mono ?_
  rintro e V14 ⟨rfl, hq⟩
  clear hc
  replace hb := below_next hb hq
  replace hB := hB.below hq
  replace hX := hX.below hq
  replace hY := hY.below hq
  replace hP := hP.below hq
  replace hN := hN.below hq
  clear hq
  clear hri hN hg5
  have hc := bcorner_any V14 bd awB 2 bc rfl (by decide) hB (fun x h => (aw_small x h).o2) 1 (by decide)
  go_wp2_with fail
  refine hc.mono ?_
  rintro e V15 ⟨g5, rfl, hg5, hN, hq⟩
  clear hc
  replace hb := below_next hb hq
  replace hB := hB.below hq
  replace hX := hX.below hq
  replace hY := hY.below hq
  replace hP := hP.below hq
  clear hq
  rw [show Int.toNat 1 = 1 from rfl] at hN
  have hri := RI.new V15 2 [4, 0] _ rfl
  replace hB := hB.alloc (Obj.cells #[Value.int IntKind.i64 4, Value.int IntKind.i64 0] 2)
  replace hX := hX.alloc (Obj.cells #[Value.int IntKind.i64 4, Value.int IntKind.i64 0] 2)
  replace hY := hY.alloc (Obj.cells #[Value.int IntKind.i64 4, Value.int IntKind.i64 0] 2)
  replace hP := hP.alloc (Obj.cells #[Value.int IntKind.i64 4, Value.int IntKind.i64 0] 2)
  replace hN := hN.alloc (Obj.cells #[Value.int IntKind.i64 4, Value.int IntKind.i64 0] 2)
  replace hb := hb.alloc hb.size (Obj.cells #[Value.int IntKind.i64 4, Value.int IntKind.i64 0] 2)
  have hc := is_any (V15.alloc (Obj.cells #[Value.int IntKind.i64 4, Value.int IntKind.i64 0] 2)) (some ⟨g5, 0, none⟩) (some ⟨V15.heap.size, 0, none⟩) (awB.zipIdx.map fun x => cornN 1 x.2 (fS x.1)) [4, 0] 2 2 2 rfl (by decide) hN.nat hri (by decide) aw_c1
  go_wp2_with fail
  refine hc.mono ?_
  rintro e V16 ⟨rfl, hq⟩
  clear hc
  replace hb := below_next hb hq
  replace hB := hB.below hq
  replace hX := hX.below hq
  replace hY := hY.below hq
  replace hP := hP.below hq
  replace hN := hN.below hq
  clear hq
  clear hri hN hg5
  have hc := bcorner_any V16 bd awB 2 bc rfl (by decide) hB (fun x h => (aw_small x h).o2) 2 (by decide)
  go_wp2_with fail
  refine hc.mono ?_
  rintro e V17 ⟨g5, rfl, hg5, hN, hq⟩
  clear hc
  replace hb := below_next hb hq
  replace hB := hB.below hq
  replace hX := hX.below hq
  replace hY := hY.below hq
  replace hP := hP.below hq
  clear hq
  rw [show Int.toNat 2 = 2 from rfl] at hN
  have hri := RI.new V17 2 [0, 2] _ rfl
  replace hB := hB.alloc (Obj.cells #[Value.int IntKind.i64 0, Value.int IntKind.i64 2] 2)
  replace hX := hX.alloc (Obj.cells #[Value.int IntKind.i64 0, Value.int IntKind.i64 2] 2)
  replace hY := hY.alloc (Obj.cells #[Value.int IntKind.i64 0, Value.int IntKind.i64 2] 2)
  replace hP := hP.alloc (Obj.cells #[Value.int IntKind.i64 0, Value.int IntKind.i64 2] 2)
  replace hN := hN.alloc (Obj.cells #[Value.int IntKind.i64 0, Value.int IntKind.i64 2] 2)
  replace hb := hb.alloc hb.size (Obj.cells #[Value.int IntKind.i64 0, Value.int IntKind.i64 2] 2)
  have hc := is_any (V17.alloc (Obj.cells #[Value.int IntKind.i64 0, Value.int IntKind.i64 2] 2)) (some ⟨g5, 0, none⟩) (some ⟨V17.heap.size, 0, none⟩) (awB.zipIdx.map fun x => cornN 2 x.2 (fS x.1)) [0, 2] 2 2 2 rfl (by decide) hN.nat hri (by decide) aw_c2
  go_wp2_with fail
  refine hc.mono ?_
  rintro e V18 ⟨rfl, hq⟩
  clear hc
  replace hb := below_next hb hq
  replace hB := hB.below hq
  replace hX := hX.below hq
  replace hY := hY.below hq
  replace hP := hP.below hq
  replace hN := hN.below hq
  clear hq
  clear hri hN hg5
  have hpl := aw_pl
  have hhf := aw_half
  obtain ⟨y9, h9⟩ : ∃ y : NV, canonN (.ofIntWithPrec 1 (- -1)) = y := ⟨_, rfl⟩
  obtain ⟨m9, s9, d9⟩ := y9
  have hn9 : Calls Tryz.prog 23 #[.int .i64 1, .int .i64 (-1)] V18 (Ret (.agg #[.bool m9, .string s9, .int .i64 d9]) V18) := by
    have := bnum_any V18 1 (-1) (by decide) (by decide) (by decide)
    rw [h9] at this
    exact this
  rw [h9] at hpl hhf
  have HP := Lib.hid (And.intro hpl hhf)
  clear hpl hhf h9
  have hc := hn9
  go_wp2_with fail
  refine hc.mono ?_
  rintro e V19 ⟨rfl, hq⟩
  clear hc
  replace hb := below_next hb hq
  replace hB := hB.below hq
  replace hX := hX.below hq
  replace hY := hY.below hq
  replace hP := hP.below hq
  clear hq
  clear hn9
  have ht9 := NAt.new V19 36 [(m9, s9, d9)] _ rfl
  replace hB := hB.alloc (Obj.cells #[Value.bool m9, Value.string s9, Value.int IntKind.i64 d9] 36)
  replace hX := hX.alloc (Obj.cells #[Value.bool m9, Value.string s9, Value.int IntKind.i64 d9] 36)
  replace hY := hY.alloc (Obj.cells #[Value.bool m9, Value.string s9, Value.int IntKind.i64 d9] 36)
  replace hP := hP.alloc (Obj.cells #[Value.bool m9, Value.string s9, Value.int IntKind.i64 d9] 36)
  replace hb := hb.alloc hb.size (Obj.cells #[Value.bool m9, Value.string s9, Value.int IntKind.i64 d9] 36)
  have hc := bplace_any (V19.alloc (Obj.cells #[Value.bool m9, Value.string s9, Value.int IntKind.i64 d9] 36)) bd awB 2 bc rfl (by decide) hB (some ⟨V19.heap.size, 0, none⟩) [(m9, s9, d9)] 1 1 rfl ht9 aw_small (fun y hy => by obtain rfl := List.mem_singleton.1 hy; exact HP.out.2) (by decide) (by decide)
  go_wp2_with fail
  refine hc.mono ?_
  rintro e V20 ⟨g5, rfl, hg5, hN, hq⟩
  clear hc
  replace hb := below_next hb hq
  replace hB := hB.below hq
  replace hX := hX.below hq
  replace hY := hY.below hq
  replace hP := hP.below hq
  clear hq
  have hri := RI.new V20 2 [2, 0] _ rfl
  replace hB := hB.alloc (Obj.cells #[Value.int IntKind.i64 2, Value.int IntKind.i64 0] 2)
  replace hX := hX.alloc (Obj.cells #[Value.int IntKind.i64 2, Value.int IntKind.i64 0] 2)
  replace hY := hY.alloc (Obj.cells #[Value.int IntKind.i64 2, Value.int IntKind.i64 0] 2)
  replace hP := hP.alloc (Obj.cells #[Value.int IntKind.i64 2, Value.int IntKind.i64 0] 2)
  replace hN := hN.alloc (Obj.cells #[Value.int IntKind.i64 2, Value.int IntKind.i64 0] 2)
  replace hb := hb.alloc hb.size (Obj.cells #[Value.int IntKind.i64 2, Value.int IntKind.i64 0] 2)
  have hc := is_any (V20.alloc (Obj.cells #[Value.int IntKind.i64 2, Value.int IntKind.i64 0] 2)) (some ⟨g5, 0, none⟩) (some ⟨V20.heap.size, 0, none⟩) (awB.zipIdx.map fun x => placN [(m9, s9, d9)] x.2 (fS x.1)) [2, 0] 2 2 2 rfl (by decide) hN.nat hri (by decide) HP.out.1
  go_wp2_with fail
  refine hc.mono ?_
  rintro e V21 ⟨rfl, hq⟩
  clear hc
  replace hb := below_next hb hq
  replace hB := hB.below hq
  replace hX := hX.below hq
  replace hY := hY.below hq
  replace hP := hP.below hq
  replace hN := hN.below hq
  clear hq
  clear hri hN hg5
  clear ht9 HP
  have hri := RI.new V21 2 [0, 2, 0, 2] _ rfl
  replace hB := hB.alloc (Obj.cells #[Value.int IntKind.i64 0, Value.int IntKind.i64 2, Value.int IntKind.i64 0, Value.int IntKind.i64 2] 2)
  replace hX := hX.alloc (Obj.cells #[Value.int IntKind.i64 0, Value.int IntKind.i64 2, Value.int IntKind.i64 0, Value.int IntKind.i64 2] 2)
  replace hY := hY.alloc (Obj.cells #[Value.int IntKind.i64 0, Value.int IntKind.i64 2, Value.int IntKind.i64 0, Value.int IntKind.i64 2] 2)
  replace hP := hP.alloc (Obj.cells #[Value.int IntKind.i64 0, Value.int IntKind.i64 2, Value.int IntKind.i64 0, Value.int IntKind.i64 2] 2)
  replace hb := hb.alloc hb.size (Obj.cells #[Value.int IntKind.i64 0, Value.int IntKind.i64 2, Value.int IntKind.i64 0, Value.int IntKind.i64 2] 2)
  have hc := of4_any (V21.alloc (Obj.cells #[Value.int IntKind.i64 0, Value.int IntKind.i64 2, Value.int IntKind.i64 0, Value.int IntKind.i64 2] 2)) (some ⟨V21.heap.size, 0, none⟩) 0 2 0 2 hri (by decide)
  go_wp2_with fail
  refine hc.mono ?_
  rintro e V22 ⟨od, oc, rfl, hoc, hS, hq⟩
  clear hc
  replace hb := below_next hb hq
  replace hB := hB.below hq
  replace hX := hX.below hq
  replace hY := hY.below hq
  replace hP := hP.below hq
  clear hq
  clear hri
  have hT := hS
  rw [← aw_lo] at hT
  have hc := sameB_any V22 (some ⟨g1, 0, none⟩) od 2 c1 oc _ (by decide) (by decide) (SAt.of_flat hX.nat) hT
  go_wp2_with fail
  refine hc.mono ?_
  rintro e V23 ⟨rfl, hq⟩
  clear hc
  replace hb := below_next hb hq
  replace hB := hB.below hq
  replace hX := hX.below hq
  replace hY := hY.below hq
  replace hP := hP.below hq
  replace hS := hS.below hq
  clear hq
  clear hS hT hoc
  have hri := RI.new V23 2 [2, 4, 0, 2] _ rfl
  replace hB := hB.alloc (Obj.cells #[Value.int IntKind.i64 2, Value.int IntKind.i64 4, Value.int IntKind.i64 0, Value.int IntKind.i64 2] 2)
  replace hX := hX.alloc (Obj.cells #[Value.int IntKind.i64 2, Value.int IntKind.i64 4, Value.int IntKind.i64 0, Value.int IntKind.i64 2] 2)
  replace hY := hY.alloc (Obj.cells #[Value.int IntKind.i64 2, Value.int IntKind.i64 4, Value.int IntKind.i64 0, Value.int IntKind.i64 2] 2)
  replace hP := hP.alloc (Obj.cells #[Value.int IntKind.i64 2, Value.int IntKind.i64 4, Value.int IntKind.i64 0, Value.int IntKind.i64 2] 2)
  replace hb := hb.alloc hb.size (Obj.cells #[Value.int IntKind.i64 2, Value.int IntKind.i64 4, Value.int IntKind.i64 0, Value.int IntKind.i64 2] 2)
  have hc := of4_any (V23.alloc (Obj.cells #[Value.int IntKind.i64 2, Value.int IntKind.i64 4, Value.int IntKind.i64 0, Value.int IntKind.i64 2] 2)) (some ⟨V23.heap.size, 0, none⟩) 2 4 0 2 hri (by decide)
  go_wp2_with fail
  refine hc.mono ?_
  rintro e V24 ⟨od, oc, rfl, hoc, hS, hq⟩
  clear hc
  replace hb := below_next hb hq
  replace hB := hB.below hq
  replace hX := hX.below hq
  replace hY := hY.below hq
  replace hP := hP.below hq
  clear hq
  clear hri
  have hT := hS
  rw [← aw_up] at hT
  have hc := sameB_any V24 (some ⟨g2, 0, none⟩) od 2 c2 oc _ (by decide) (by decide) (SAt.of_flat hY.nat) hT
  go_wp2_with fail
  refine hc.mono ?_
  rintro e V25 ⟨rfl, hq⟩
  clear hc
  replace hb := below_next hb hq
  replace hB := hB.below hq
  replace hX := hX.below hq
  replace hY := hY.below hq
  replace hP := hP.below hq
  replace hS := hS.below hq
  clear hq
  clear hS hT hoc
  have hri := RI.new V25 2 [2, 4, 0, 1] _ rfl
  replace hB := hB.alloc (Obj.cells #[Value.int IntKind.i64 2, Value.int IntKind.i64 4, Value.int IntKind.i64 0, Value.int IntKind.i64 1] 2)
  replace hX := hX.alloc (Obj.cells #[Value.int IntKind.i64 2, Value.int IntKind.i64 4, Value.int IntKind.i64 0, Value.int IntKind.i64 1] 2)
  replace hY := hY.alloc (Obj.cells #[Value.int IntKind.i64 2, Value.int IntKind.i64 4, Value.int IntKind.i64 0, Value.int IntKind.i64 1] 2)
  replace hP := hP.alloc (Obj.cells #[Value.int IntKind.i64 2, Value.int IntKind.i64 4, Value.int IntKind.i64 0, Value.int IntKind.i64 1] 2)
  replace hb := hb.alloc hb.size (Obj.cells #[Value.int IntKind.i64 2, Value.int IntKind.i64 4, Value.int IntKind.i64 0, Value.int IntKind.i64 1] 2)
  have hc := of4_any (V25.alloc (Obj.cells #[Value.int IntKind.i64 2, Value.int IntKind.i64 4, Value.int IntKind.i64 0, Value.int IntKind.i64 1] 2)) (some ⟨V25.heap.size, 0, none⟩) 2 4 0 1 hri (by decide)
  go_wp2_with fail
  refine hc.mono ?_
  rintro e V26 ⟨od, oc, rfl, hoc, hS, hq⟩
  clear hc
  replace hb := below_next hb hq
  replace hB := hB.below hq
  replace hX := hX.below hq
  replace hY := hY.below hq
  replace hP := hP.below hq
  clear hq
  clear hri
  have hT := hS
  rw [← aw_part] at hT
  have hc := sameB_any V26 (some ⟨g3, 0, none⟩) od 2 c3 oc _ (by decide) (by decide) (SAt.of_flat hP.nat) hT
  go_wp2_with fail
  refine hc.mono ?_
  rintro e V27 ⟨rfl, hq⟩
  clear hc
  replace hb := below_next hb hq
  replace hB := hB.below hq
  replace hX := hX.below hq
  replace hY := hY.below hq
  replace hP := hP.below hq
  replace hS := hS.below hq
  clear hq
  clear hS hT hoc
  clear hY hP
  have hc := bmid_any V27 bd awB 2 bc rfl (by decide) hB (fun x h => (aw_small x h).o2)
  go_wp2_with fail
  refine hc.mono ?_
  rintro e V28 ⟨g5, rfl, hg5, hN, hq⟩
  clear hc
  replace hb := below_next hb hq
  replace hB := hB.below hq
  replace hX := hX.below hq
  clear hq
  have hc := bhas_any V28 bd (some ⟨g5, 0, none⟩) awB (awB.map fun x => canonN (mS x)) 2 bc 2 2 rfl rfl (by decide) (by decide) hB hN.nat (fun x h => (aw_small x h).o2.o3) aw_mids
  go_wp2_with fail
  refine hc.mono ?_
  rintro e V29 ⟨rfl, hq⟩
  clear hc
  replace hb := below_next hb hq
  replace hB := hB.below hq
  replace hX := hX.below hq
  replace hN := hN.below hq
  clear hq
  rw [aw_has]
  have hc := bwithin_any V29 (some ⟨g1, 0, none⟩) bd (halfB false (awB.map fS) 0) awB 2 c1 2 bc (by decide) rfl (by decide) (by decide) (SAt.of_flat hX.nat) hB aw_lows (fun x h => (aw_small x h).o2.o3)
  go_wp2_with fail
  refine hc.mono ?_
  rintro e V30 ⟨rfl, hq⟩
  clear hc
  replace hb := below_next hb hq
  replace hB := hB.below hq
  replace hX := hX.below hq
  replace hN := hN.below hq
  clear hq
  rw [halves_with]
  go_wp2
  go_ret
  exact ⟨rfl, hb⟩
end Go.Proofs.YtbijggomdpaknaaGreatDoor
