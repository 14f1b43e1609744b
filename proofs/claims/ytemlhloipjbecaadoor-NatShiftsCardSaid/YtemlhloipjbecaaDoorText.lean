/- The text of a row of digits, walked. -/
import Derived.Test.YtemlhloipjbecaaDoorBuild
import Derived.Test.YtemlhloipjbecaaDoorBack
import Derived.Test.YtemlhloipjbecaaDoorTextNum
import Derived.RangeFuncWrites
import Derived.Lib.OthersKept
namespace Go.Proofs.YtemlhloipjbecaaDoor
open Go.RowKit Go.Shelf

attribute [local go_sem] Oper.semAt_some

theorem builder_kept {T e : TypeId} {B b : Nat} {p : Value} {bs : List Value} {W W' : World} {row : Option Nat} (h : Lib.BuilderAt T e B b p bs W) (hg : W.grownBy W' row) (hr : ∀ r, row = some r → ∃ o : Obj, W.heap[r]? = some o ∧ o.isCells = false) : Lib.BuilderAt T e B b p bs W' := by
  obtain ⟨hB, v, hb, hown, hne⟩ := h
  have hnr : ∀ (k : Nat) (cs : Array Value) (t : TypeId) (fz : Nat × Nat), W.heap[k]? = some (.cells cs t fz) → some k ≠ row := fun k cs t fz hk e => by
    obtain ⟨o, ho, hc⟩ := hr k e.symm
    rw [hk] at ho
    injection ho with ho
    subst ho
    simp [Obj.isCells] at hc
  refine ⟨hB, v, (hg.block b (Array.getElem?_eq_some_iff.1 hb).1 (hnr b _ _ _ hb)).trans hb, hown.kept hg ?_, hne⟩
  rcases hown.2 with ⟨rfl, _⟩ | ⟨g, cap, cur, rfl, _, hgg, _⟩
  · exact .inl rfl
  · exact .inr (hnr g _ _ _ hgg)
theorem rw_own {W W' : World} {k : Nat} {T : TypeId} {L : List Value} {row : Option Nat} (h : Rw W k T L) (hg : W.grownBy W' row) (hr : ∀ r, row = some r → ∃ o : Obj, W.heap[r]? = some o ∧ o.isCells = false) : Rw W' k T L := by
  refine h.grown hg (fun e => ?_)
  obtain ⟨o, ho, hc⟩ := hr k e.symm
  rw [show W.heap[k]? = _ from h] at ho
  injection ho with ho
  subst ho
  simp [Obj.isCells] at hc
theorem grown_below {B : Nat} {W W' : World} (hg : W.grownBy W' none) (hB : B ≤ W.heap.size) : Below B W W' := (Below.refl B W).grown hg hB (fun k e => by cases e)
/-- Between the rounds of text. -/
def TX (w : World) (sk : Nat) (pre : List (Nat × Nat)) (W : World) : Prop :=
  (Lib.BuilderAt 82 5 (w.heap.size + 1) (w.heap.size + 1) (.pointer (some ⟨w.heap.size + 1, 0, none⟩)) ((gone sk (pre.map (·.2))).map by8) W ∧ Rw W w.heap.size 3 [.int .i64 (skv sk pre : Nat)]) ∧ Below w.heap.size w W
theorem TX.own (w : World) (sk B : Nat) (hB : w.heap.size ≤ B) : OwnFrom B (TX w sk) :=
  OwnFrom.and (Own.from (fun _ _ _ _ hs hg hr => ⟨builder_kept hs.1 hg hr, rw_own hs.2 hg hr⟩) _) (ownFrom_below (Nat.le_refl _) hB)

def lenOf : Value → Nat | .slice _ n _ => n | _ => 0

set_option maxRecDepth 100000 in
set_option maxHeartbeats 2000000 in
theorem text_any (w : World) (b off c n : Nat) (ds : List Nat) (hc : Ds w b off ds) (hn : ds.length = n) (hd : Dig ds) (hmax : n ≤ 1000000000) (hcap : n ≤ c) (hc63 : c ≤ 9223372036854775807) :
    Calls Tryd.prog 46 #[.slice (some ⟨b, off, none⟩) n c] w fun e w' => e = .returned (.string (fb (val ds))) ∧ Below w.heap.size w w' := by
  refine (callsIn_wide (n := 4)).1 ?_
  refine callsIn_of_wp_marks Tryd.func46 rfl trivial ?_ rfl
  simp only [Tryd.ntmps46, List.size_toArray, List.length_cons, List.length_nil, Nat.reduceAdd, Nat.reduceSub, Array.replicate_succ, Array.replicate_zero, List.push_toArray, List.append_toArray, List.nil_append, List.cons_append]
  have HN := Lib.hid hn; clear hn
  gi_wp2
  gi_loopw [0] (fun v wr => ∃ k : Nat, k ≤ n ∧ v = .slice (some ⟨b, off, none⟩) k c ∧ val (ds.take k) = val ds ∧ w = wr) (fun v _ => lenOf v)
  case atStart => exact ⟨n, Nat.le_refl _, rfl, by rw [← HN.out, List.take_length], rfl⟩
  case round =>
    obtain ⟨k, hk, rfl, hv, rfl⟩ := hrel
    have HV := Lib.hid hv; clear hv
    by_cases hk0 : k = 0
    · subst hk0
      gi_wp2
      have hz : val ds = 0 := by rw [← HV.out]; rfl
      refine ⟨_, results_tmp rfl _ _ _, ?_, Below.refl _ _⟩
      rw [hz]
      rfl
    · have hlt : k - 1 < ds.length := by rw [HN.out]; omega
      have hcd := hc (k - 1) hlt
      unfold dg at hcd
      obtain ⟨d, hdk⟩ : ∃ d, d = ds[k - 1] := ⟨_, rfl⟩
      have hdB : d < B64 := by rw [hdk]; exact hd.get hlt
      rw [← hdk] at hcd
      have hsp : val (ds.take k) = val (ds.take (k - 1)) + B64 ^ (k - 1) * d := by
        have := take_succ_val ds hlt
        rw [show k - 1 + 1 = k by omega] at this
        rw [this, hdk]
      have hk1 : ((k : Int) - 1).toNat = k - 1 := by omega
      have t0 : decide ((0 : Int) < (k : Int)) = true := by simp; omega
      by_cases hd0 : d = 0
      · subst hd0
        have HS := Lib.hid hsp; clear hsp
        have HD := Lib.hid hdk; clear hdk
        gi_wp2
        go_roundw
        case rel => exact ⟨k - 1, by omega, rfl, by rw [← HV.out, HS.out]; simp, trivial⟩
        case measure => simp [lenOf]; omega
      · have td : ((d : Int) == 0) = false := by rw [beq_eq_false_iff_ne]; omega
        have HS := Lib.hid hsp; clear hsp
        have HD := Lib.hid hdk; clear hdk
        by_cases hk1' : k = 1
        · subst hk1'
          have hcd' : w.cell? ⟨b, off, none⟩ = some (.int .u64 d) := by simpa using hcd
          clear hcd t0 hk1
          gi_wp2_with (refine ⟨trivial, ?_⟩; gi_at_call 13; refine (callsIn_wide.2 (of_any _ d hdB)).mono ?_; rintro e w' ⟨rfl, hb⟩)
          have hz : val ds = d := by rw [← HV.out, HS.out]; simp [val]
          refine ⟨_, results_tmp rfl _ _ _, ?_, hb⟩
          rw [hz]
          rfl
        · obtain ⟨z, hz64, hzd, hz0, hlz⟩ := lz_bytes d hdB
          have hz := hz0 (by omega)
          clear hz0
          obtain ⟨sk, hsk⟩ : ∃ sk, sk = z / 8 := ⟨_, rfl⟩
          have hq : (z : Int) / 8 = (sk : Int) := by omega
          have hsk8 : sk < 8 := by omega
          rw [← hsk] at hzd
          have HZ := Lib.hid hzd; clear hzd hsk
          have t1 : ((k : Int) == 0) = false := by rw [beq_eq_false_iff_ne]; omega
          have t2 : ((k : Int) == 1) = false := by rw [beq_eq_false_iff_ne]; omega
          gi_wp2_with (refine ⟨trivial, ?_⟩; gi_at_call 37; refine (callsIn_wide.2 (hlz _)).mono ?_; rintro e w' ⟨rfl, rfl⟩)
          obtain ⟨w1, hw1⟩ : ∃ w1, w1 = (w.alloc (.cells #[.int .i64 (sk : Int)] 3)).alloc (.cells #[.pointer none, .slice none 0 0] 82) := ⟨_, rfl⟩
          rw [← hw1]
          have hsz1 : w1.heap.size = w.heap.size + 2 := by rw [hw1]; simp
          have hbw1 : Below w.heap.size w w1 := by rw [hw1]; exact ((Below.refl _ _).alloc (Nat.le_refl _) _).alloc (by simp) _
          have hsk1 : Rw w1 w.heap.size 3 [.int .i64 (sk : Int)] := by rw [hw1]; exact (Rw.new w _ _).alloc _
          have hbd1 : w1.heap[w.heap.size + 1]? = some (.cells #[.pointer none, .slice none 0 0] 82 (0, 0)) := by
            have := Rw.new (w.alloc (.cells #[.int .i64 (sk : Int)] 3)) 82 [.pointer none, .slice none 0 0]
            rw [World.size_alloc] at this
            rw [hw1]; exact this
          clear hw1
          refine ⟨trivial, ?_⟩
          rw [show (8 * (k : Int) - (sk : Int)) = ((8 * k - sk : Nat) : Int) by omega]
          refine (callsIn_wide.2 (Tryd.Builder_Grow_fresh (w.heap.size + 1) (w.heap.size + 1) (8 * k - sk) w1 (Nat.le_refl _) hbd1 (by omega) (by omega))).mono ?_
          rintro e w2 ⟨rfl, hB2, hb2⟩
          have hsk2 := hsk1.below hb2 (by omega)
          have hbw2 : Below w.heap.size w w2 := hbw1.trans (hb2.mono (by omega))
          have hsz2 : w.heap.size + 2 ≤ w2.heap.size := by have := hb2.size; omega
          clear hsk1 hbd1 hbw1 hb2
          gi_wp2_with (refine ⟨trivial, ?_⟩; gi_at_call 70; refine (backward_in Fence.wide _ trivial rfl _ _ _ _).mono ?_; rintro e w' ⟨rfl, rfl⟩)
          have hbx := Rw.new w2 54 [.slice (some ⟨b, off, none⟩) k c]
          have hTX : TX w sk [] (w2.alloc (.cells #[.slice (some ⟨b, off, none⟩) k c] 54)) := by
            refine ⟨⟨?_, hsk2.alloc _⟩, hbw2.alloc (by omega) _⟩
            rw [List.map_nil, gone_nil, List.map_nil]
            exact builder_kept hB2 (World.grownBy_alloc _ _ none) (fun r e => by cases e)
          have hblt : b < w.heap.size := World.block_lt_of_cell? w _ hcd
          have hc2 : Ds (w2.alloc (.cells #[.slice (some ⟨b, off, none⟩) k c] 54)) b off (ds.take k) := by
            intro j hj
            have hj' : j < ds.length := by rw [List.length_take] at hj; omega
            have h1 := (hbw2.alloc (by omega) (.cells #[.slice (some ⟨b, off, none⟩) k c] 54)).cell (p := ⟨b, off + j, none⟩) hblt
            rw [h1, hc j hj']
            simp
          have hkl : (ds.take k).length = k := by rw [List.length_take, HN.out]; omega
          have HKL := Lib.hid hkl; clear hkl
          have hs2 : w2.heap.size < (w2.alloc (.cells #[.slice (some ⟨b, off, none⟩) k c] 54)).heap.size := by simp
          have hs0 : w.heap.size ≤ (w2.alloc (.cells #[.slice (some ⟨b, off, none⟩) k c] 54)).heap.size := by simp; omega
          refine wpIn_rangeFunc_ownF rfl (by omega) (gf := 86) (lb := #[.pointer (some ⟨w2.heap.size, 0, none⟩)]) rfl trivial (enters_of Tryd.func86 (by kernel_rfl) rfl)
            (backward_stops Fence.wide _ trivial rfl (by omega) w2.heap.size w.heap.size b off k c (ds.take k) HKL.out (by omega) hblt _ hs0 hbx hc2) (fun h k => h.trans k) (KB.put hs0 hs2) (Below.refl _ _) (fun _ => rfl)
            (TX w sk) (fun _ _ _ => False) (TX.own w sk _ hs0) (fun _ _ _ _ _ hs _ _ => hs) hTX
            (fun x => { tmps := #[Value.slice (some ⟨b, off, none⟩) k c, undef, .string ⟨#[]⟩, .pointer (some ⟨w.heap.size, 0, none⟩), .pointer (some ⟨w.heap.size + 1, 0, none⟩), undef, .int .u64 (x.2 : Int), undef, .slice (some ⟨b, off, none⟩) k c, .int .i64 (k : Int), .bool true, .bool true, .slice (some ⟨b, off, none⟩) k c, .slice (some ⟨b, off, none⟩) k c, .int .i64 (k : Int), .int .i64 ((k : Int) - 1), .pointer (some ⟨b, off + (k - 1), none⟩), .int .u64 (d : Int), .bool false, .bool false, u20, u21, u22, u23, u24, .slice (some ⟨b, off, none⟩) k c, .int .i64 (k : Int), .bool false, .slice (some ⟨b, off, none⟩) k c, .int .i64 (k : Int), .bool false, undef, undef, undef, undef, .slice (some ⟨b, off, none⟩) k c, .slice (some ⟨b, off, none⟩) k c, .int .i64 (k : Int), .int .i64 ((k : Int) - 1), .pointer (some ⟨b, off + (k - 1), none⟩), .int .u64 (d : Int), .int .i64 (z : Int), .int .i64 (sk : Int), .slice (some ⟨b, off, none⟩) k c, .int .i64 (k : Int), .int .i64 (8 * (k : Int)), .int .i64 (sk : Int), .int .i64 ((8 * k - sk : Nat) : Int), .tuple #[], .slice (some ⟨b, off, none⟩) k c, .func (.func 86) #[] #[.pointer (some ⟨w2.heap.size, 0, none⟩)], .int .i64 (x.1 : Int), .int .u64 (x.2 : Int), undef, undef, undef, undef, undef, undef], defers := [] }) ?assign ?body ?done ?stop
          case assign =>
            intro l x W K hK
            gi_wp2
            exact hK
          case body =>
            rintro l pre x W hT hlen
            obtain ⟨⟨hBd, hSk⟩, hBw⟩ := hT
            obtain ⟨c0, c1, c2, c3, c4, c5, c6, c7, hc8, h8⟩ := eight_ex x.2
            obtain ⟨s0, hs0⟩ : ∃ s0, s0 = skv sk pre := ⟨_, rfl⟩
            have hs08 : s0 < 8 := by rw [hs0]; unfold skv; split <;> omega
            rw [← hs0] at hSk
            have HS0 := Lib.hid hs0; clear hs0
            have hsl := fun g w => slice8 g s0 hs08 w
            have hcs := hSk.cell 0
            simp only [List.getElem?_cons_zero] at hcs
            have HC8 := Lib.hid hc8; clear hc8
            gi_wp2_with fail
            refine ⟨trivial, ?_⟩
            refine (CallsIn.inRound l (callsIn_wide.2 (h8 _))).mono ?_
            rintro e W1 ⟨rfl, cs, hW1⟩
            have hg1 : W.grownBy W1 none := by rw [hW1]; exact World.grownBy_alloc _ _ _
            have hk1 : KeepsOthers W W1 := by rw [hW1]; exact KeepsOthers.alloc _ _
            have hSk1 := hSk.grown hg1 (by simp)
            have hBd1 := builder_kept hBd hg1 (fun r e => by cases e)
            have hcs1 := hSk1.cell 0
            simp only [List.getElem?_cons_zero] at hcs1
            have hsz1 : w.heap.size + 1 < W1.heap.size := Nat.lt_of_lt_of_le (World.block_lt_of_cell? W1 _ hBd1.cell0) (Nat.le_refl _)
            clear hW1 hcs
            obtain ⟨W2, hW2⟩ : ∃ W2, W2 = W1.alloc (.cells #[.int .u8 c0.toNat, .int .u8 c1.toNat, .int .u8 c2.toNat, .int .u8 c3.toNat, .int .u8 c4.toNat, .int .u8 c5.toNat, .int .u8 c6.toNat, .int .u8 c7.toNat] 46) := ⟨_, rfl⟩
            have hg2 : W1.grownBy W2 none := by rw [hW2]; exact World.grownBy_alloc _ _ _
            have hk2 : KeepsOthers W1 W2 := by rw [hW2]; exact KeepsOthers.alloc _ _
            have hN2 : Rw W2 W1.heap.size 46 ([c0, c1, c2, c3, c4, c5, c6, c7].map by8) := by rw [hW2]; exact Rw.new W1 _ _
            have hs2 : W1.heap.size < W2.heap.size := hN2.lt
            have HW2 := Lib.hid hW2; clear hW2
            have hcs2 := cell_past hcs1
            gi_wp2_with fail
            rw [← HW2.out]
            refine ⟨trivial, ?_⟩
            have hBd2 := builder_kept hBd1 hg2 (fun r e => by cases e)
            have hSk2 := hSk1.grown hg2 (by simp)
            have hkb2 : ∀ k T L, Rw W k T L → Rw W2 k T L := fun k T L h => (h.grown hg1 (by simp)).grown hg2 (by simp)
            have hpl : pre.length < 1000000000 := by omega
            have hgl : ((gone sk (pre.map (·.2))).map by8).length ≤ 8 * pre.length := by
              have := gone_length (sk := sk) (pre.map (·.2))
              simpa using this
            have hnl : (([c0, c1, c2, c3, c4, c5, c6, c7].drop s0).map by8).length = 8 - s0 := by simp
            refine (CallsIn.inRound l (callsIn_wide.2 (write_any W2 (w.heap.size + 1) (w.heap.size + 1) W1.heap.size s0 (8 - s0) (8 - s0) _ (([c0, c1, c2, c3, c4, c5, c6, c7].drop s0).map by8) hBd2 hnl (by omega) ?_ ?_ (by omega) (by omega)))).mono ?_
            · intro i hi
              rw [hN2.cell]
              have hi' : s0 + i < 8 := by rw [hnl] at hi; omega
              rw [List.getElem?_map, List.getElem?_eq_getElem (by simpa using hi'), Option.map_some, List.getElem_map, List.getElem_drop]
            · intro u hu
              obtain ⟨y, _, rfl⟩ := List.mem_map.1 hu
              rfl
            rintro e W3 ⟨rfl, hBd3, hb3, hk3, hkr3⟩
            have hSk3 := hkr3 _ _ _ hSk2 (by decide) (by omega)
            have hcs3 := hSk3.cell 0
            have hfs3 := hSk3.frozen 0
            simp only [List.getElem?_cons_zero] at hcs3
            have hbW3 : Below w.heap.size W W3 := ((grown_below hg1 hBw.size).trans (grown_below hg2 (by omega))).trans (hb3.mono (by omega))
            clear hcs1 hcs2
            gi_wp2
            refine ⟨((hk1.trans hk2).trans hk3).trans (KeepsOthers.setCell _ _ _), ⟨hbW3.setCell (p := ⟨w.heap.size, 0, none⟩) (Nat.le_refl _) _, fun hbxW => ?_⟩, ⟨?_, ?_⟩, (hBw.trans hbW3).setCell (p := ⟨w.heap.size, 0, none⟩) (Nat.le_refl _) _⟩
            · exact (hkr3 _ _ _ (hkb2 _ _ _ hbxW) (by decide) (by omega)).far (p := ⟨w.heap.size, 0, none⟩) (by simp; omega) _
            · have hg : gone sk ((pre ++ [x]).map (·.2)) = gone sk (pre.map (·.2)) ++ [c0, c1, c2, c3, c4, c5, c6, c7].drop s0 := by
                rw [← HC8.out, HS0.out]
                exact gone_step sk pre x (by omega)
              have hd8 : (gone sk ((pre ++ [x]).map (·.2))).map by8 = (gone sk (pre.map (·.2))).map by8 ++ ([c0, c1, c2, c3, c4, c5, c6, c7].drop s0).map by8 := by
                rw [hg, List.map_append]
              rw [hd8]
              obtain ⟨q1, v, q2, q3, q4⟩ := hBd3
              refine ⟨q1, v, (Below.heap_setCell _ _ _ _ (by simp)).trans q2, ?_, q4⟩
              exact ownsRow_setCell_below q3 (by simp) _
            · have hsv : skv sk (pre ++ [x]) = 0 := by unfold skv; simp
              rw [hsv]
              exact hSk3.set_ 0 _
          case done =>
            rintro D ys W hD rfl ⟨⟨hBd, _⟩, hBw⟩ hK
            have hys : gone sk ((backs (ds.take k) k).map (·.2)) = formL (val ds) := by
              obtain ⟨m, rfl⟩ : ∃ m, k = m + 1 := ⟨k - 1, by omega⟩
              have hsp : ds.take (m + 1) = ds.take m ++ [d] := by
                rw [List.take_succ_eq_append_getElem (by rw [HN.out]; omega), HD.out]; rfl
              have h1 : (backs (ds.take (m + 1)) (m + 1)).map (·.2) = (ds.take (m + 1)).reverse := by
                rw [← backs_map, HKL.out]
                simp [backs, HKL.out, Function.comp_def]
              rw [h1, hsp]
              have hdd : Dig (ds.take m ++ [d]) := by rw [← hsp]; exact hd.take _
              rw [gone_all hdd hd0 hsk8 HZ.out, ← hsp, HV.out]
            rw [hys] at hBd
            have hsz : w.heap.size + 1 ≤ W.heap.size := by have := World.block_lt_of_cell? W _ hBd.cell0; simp only at this; omega
            have hne := hBd.1
            have hstr := Tryd.Builder_String_any_k (w.heap.size + 1) (w.heap.size + 1) (formL (val ds)) W (Lib.IsBuilderF.of (.inr hBd)) hsz
            have hDb : D ≠ w.heap.size + 1 := by simp at hD; omega
            have HSTR := Lib.hid hstr; clear hstr
            gi_wp2_with fail
            refine ⟨trivial, ?_⟩
            refine (callsIn_wide.2 HSTR.out).mono ?_
            rintro e W' ⟨rfl, _, hb', hok⟩
            have hK' : W'.heap[D]? = some (.deferred (some [])) := hok D _ hK (by simpa using hDb) (fun _ _ e => by cases e)
            have hfin := (hBw.trans (hb'.mono (by omega))).trans (belowK_b (w := w) (Nat.le_refl _) W' D _ (.deferred none) (by simp at hD; omega) hK' rfl rfl)
            have HFIN := Lib.hid hfin; clear hfin
            gi_wp2
            refine ⟨by simp, .inl ⟨_, _, rfl, run_takeDeferred hK', ?_⟩⟩
            exact ⟨_, results_tmp rfl _ _ _, rfl, HFIN.out⟩
          case stop =>
            rintro D c pre W _ _ h _
            exact h.elim

end Go.Proofs.YtemlhloipjbecaaDoor
