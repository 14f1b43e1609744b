/- Package whole: the row of sizes and the two sides of a sum, walked. -/
import Derived.Test.YtfgolecbchhokaaGreatDoorWAddNum
import Derived.Test.YtfgolecbchhokaaGreatDoorW1
namespace Go.Proofs.YtfgolecbchhokaaGreatDoor
open Go.RowKit Go.Shelf

set_option maxRecDepth 100000 in
set_option maxHeartbeats 400000 in
theorem wgrown_any (w : World) (g cap n : Nat) (ds : List ByteArray) (s : ByteArray) (hd : OwnS w g cap ds) (hn : ds.length = n) (hmax : n ≤ 10000000) :
    Calls Tryz.prog 82 #[.slice (some ⟨g, 0, none⟩) n cap, .string s] w fun e w' => ∃ g' cap', e = .returned (.slice (some ⟨g', 0, none⟩) (n + 1) cap') ∧ OwnS w' g' cap' (ds ++ [s]) ∧ w.grownBy w' (some g) ∧ (g' = g ∨ w.heap.size ≤ g') := by
  go_enter Tryz.func82, Tryz.ntmps82
  go_wp2_with (first
    | (at_builtin; refine wpList_append_str rfl (.tmp 5) (.tmp 7) rfl g cap ds n rfl hn (hd.alloc _) ⟨w.heap.size, 0, none⟩ s 1 rfl (one_str w s) (by omega) ?_))
  intro g' cap' w' hO hg ha
  go_wp2
  go_ret
  refine ⟨g', cap', rfl, hO, grown_trans (World.grownBy_alloc w _ (some g)) hg, ?_⟩
  rcases ha with h | h
  · exact .inl h
  · right
    omega

set_option maxRecDepth 100000 in
set_option maxHeartbeats 400000 in
theorem wtotal_any (w : World) (g cap n : Nat) (ds : List ByteArray) (hd : OwnS w g cap ds) (hn : ds.length = n) (hmax : n ≤ 1000) (hs : ∀ s ∈ ds, s.size ≤ 100000) (o : ByteArray) (ho : fb (sumS ds) = o) :
    Calls Tryz.prog 124 #[.slice (some ⟨g, 0, none⟩) n cap] w (Ret (.string o) w) := by
  have hb := Below.refl w.heap.size w
  subst hn
  go_enter Tryz.func124, Tryz.ntmps124
  go_wp2_with fail
  refine (add_any _ _ ds ds.length cap rfl (by omega) (fun s h => by have := hs s h; omega) hd.rows).mono ?_
  rintro e W ⟨rfl, hq⟩
  replace hb := below_next hb hq; clear hq
  rw [sumTo_all, ho]
  go_wp2
  go_ret
  exact ⟨rfl, hb⟩

set_option maxRecDepth 100000 in
set_option maxHeartbeats 400000 in
theorem wbare_any (w : World) (g cap n : Nat) (ds : List ByteArray) (hd : OwnS w g cap ds) (hn : ds.length = n) (hmax : n ≤ 1000) (hs : ∀ s ∈ ds, s.size ≤ 100000) :
    Calls Tryz.prog 125 #[.slice (some ⟨g, 0, none⟩) n cap] w fun e w' => ∃ t, e = .returned (.string t) ∧ num t = sumS ds ∧ t.size ≤ 100003 ∧ Below w.heap.size w w' := by
  have hb := Below.refl w.heap.size w
  by_cases h1 : n = 1
  · subst h1
    obtain ⟨s, rfl⟩ : ∃ s, ds = [s] := by
      match ds, hn with
      | [s], _ => exact ⟨s, rfl⟩
    have hc := hd.cell 0 (by simp)
    simp only [List.getElem_cons_zero, Nat.add_zero] at hc
    have hsz := hs s (by simp)
    have hv := sumS_one s
    go_enter Tryz.func125, Tryz.ntmps125
    clear hd hn hs hmax
    have HV := Lib.hid hv; clear hv
    go_wp2
    go_ret
    exact ⟨s, rfl, HV.out.symm, by omega, hb⟩
  · go_enter Tryz.func125, Tryz.ntmps125
    go_wp2_with fail
    refine (wtotal_any _ g cap n ds hd hn hmax hs _ rfl).mono ?_
    rintro e W ⟨rfl, hq⟩
    replace hb := below_next hb hq; clear hq
    go_wp2
    go_ret
    exact ⟨_, rfl, num_fb _, sumS_size hs (by omega), hb⟩
end Go.Proofs.YtfgolecbchhokaaGreatDoor
