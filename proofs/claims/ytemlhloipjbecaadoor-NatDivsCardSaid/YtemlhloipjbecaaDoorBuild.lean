/- A strings.Builder that is written to, walked. -/
import Derived.Test.YtemlhloipjbecaaDoorOf
import Derived.OwnWalk
import Derived.Lib.Builder
import Derived.RangeFuncOwn
namespace Go.Proofs.YtemlhloipjbecaaDoor
open Go.RowKit Go.Shelf

theorem lays240b : Go.Proofs.Lays.n240 Tryd.prog Tryd.lays165_ren := { Tryd.lays165 with }
theorem copyCheck_used (b : Nat) (w : World) (h0 : w.cell? ⟨b, 0, none⟩ = some (.pointer (some ⟨b, 0, none⟩))) :
    Calls Tryd.prog 84 #[.pointer (some ⟨b, 0, none⟩)] w fun e w' => e = .returned (.tuple #[]) ∧ w = w' :=
  (Any.Builder_copyCheck_used lays240b Tryd.Builder_Extra_165.toX72 b w h0).mono fun _ _ ⟨he, hw⟩ => ⟨he, hw.symm⟩

theorem info8 : (Tryd.prog.info? 5).map (fun i => (i.zero, i.size, i.bytes)) = some (some (.int .u8 0), 1, 1) := by kernel_rfl

set_option maxRecDepth 100000 in
set_option maxHeartbeats 400000 in
theorem write_any (w : World) (B b g off m c : Nat) (bs news : List Value) (h : Lib.BuilderAt 82 5 B b (.pointer (some ⟨b, 0, none⟩)) bs w) (hl : news.length = m) (hm : 1 ≤ m)
    (hnews : ∀ i (hi : i < news.length), w.cell? ⟨g, off + i, none⟩ = some news[i]) (h1 : ∀ u ∈ news, u.oneCell' = true) (hlen : bs.length + m ≤ 100000000000) (hBw : B ≤ w.heap.size) :
    Calls Tryd.prog 71 #[.pointer (some ⟨b, 0, none⟩), .slice (some ⟨g, off, none⟩) m c] w
      fun e w' => e = .returned (.tuple #[.int .i64 m, .nilIface]) ∧ Lib.BuilderAt 82 5 B b (.pointer (some ⟨b, 0, none⟩)) (bs ++ news) w' ∧ Below B w w' ∧ KeepsOthers w w' ∧ ∀ k T L, Rw w k T L → T ≠ 5 → k ≠ b → Rw w' k T L := by
  obtain ⟨i0, hi0, hz0, hz1, hz2⟩ := info_parts info8
  obtain ⟨hBb, v, hbk, hown, hne⟩ := h
  have hc0 : w.cell? ⟨b, 0, none⟩ = some (.pointer (some ⟨b, 0, none⟩)) := by simp [World.cell?, hbk]
  have hc1 : w.cell? ⟨b, 1, none⟩ = some v := by simp [World.cell?, hbk]
  have hnews' : ∀ j u, news[j]? = some u → w.cell? ((⟨g, off, none⟩ : Addr).add j) = some u := by
    intro j u hj
    obtain ⟨hj1, hj2⟩ := List.getElem?_eq_some_iff.1 hj
    have : (⟨g, off, none⟩ : Addr).add j = ⟨g, off + j, none⟩ := by unfold Addr.add; split <;> simp_all
    rw [this, hnews j hj1, hj2]
  have hl1 : news.length = m * 1 := by omega
  have HN := Lib.hid hnews'; clear hnews hnews'
  have HB := Lib.hid hbk; clear hbk
  have HL := Lib.hid (And.intro hl hl1); clear hl hl1
  go_enter Tryd.func71, Tryd.ntmps71
  go_wp2_with fail
  refine (copyCheck_used b w hc0).mono ?_
  rintro e w' ⟨rfl, rfl⟩
  go_wp2_with (first | (at_builtin; refine wpList_append_own _ rfl (.tmp 12) (.tmp 13) 27 rfl B 5 i0 (.int .u8 0) 1 1 Tryd.underlying27 hi0 hz0 hz1 hz2 rfl (by decide) v bs.length bs rfl hown ⟨g, off, none⟩ m c news rfl HL.out.2 HN.out h1 (by unfold maxLen; omega) (by omega) hBw ?_))
  intro v' w1 hown' hgrow _
  have hblt : b < w.heap.size := World.block_lt_of_cell? w _ hc0
  have hb1 : Rw w1 b 82 [.pointer (some ⟨b, 0, none⟩), v] := (hgrow.block b hblt (fun e => hne e.symm)).trans HB.out
  have hbel : Below B w w1 := (Below.refl B w).grown hgrow hBw (fun k hk => (hown.lt k hk).1)
  obtain ⟨hx, hfm⟩ := hown'
  rcases hfm with ⟨_, h0⟩ | ⟨g', cap', cur', rfl, hg1, hg2, hg3, hg4, hg5, hg6⟩
  · omega
  have hne' : g' ≠ b := by
    rintro rfl
    unfold Rw at hb1
    rw [hg2] at hb1
    simp at hb1
  have hc1' := hb1.cell 1
  have hf1' := hb1.frozen 1
  simp only [List.getElem?_cons_succ, List.getElem?_cons_zero] at hc1'
  have hW : Rw (w1.setCell ⟨b, 1, none⟩ (.slice (some ⟨g', 0, none⟩) (bs.length + m) cap')) b 82 [.pointer (some ⟨b, 0, none⟩), .slice (some ⟨g', 0, none⟩) (bs.length + m) cap'] := hb1.set_ 1 _
  have hO : (w1.setCell ⟨b, 1, none⟩ (.slice (some ⟨g', 0, none⟩) (bs.length + m) cap')).ownsRow B 5 1 (.slice (some ⟨g', 0, none⟩) (bs.length + m) cap') (bs.length + m) (bs ++ news) :=
    ⟨hx, .inr ⟨g', cap', cur', rfl, hg1, (Below.heap_setCell _ _ _ _ (by simpa using hne')).trans hg2, hg3, hg4, hg5, hg6⟩⟩
  have hko : KeepsOthers w (w1.setCell ⟨b, 1, none⟩ (.slice (some ⟨g', 0, none⟩) (bs.length + m) cap')) := by
    refine (KeepsOthers.of_grownBy hgrow fun j o hj ho => ?_).trans (KeepsOthers.setCell _ _ _)
    obtain ⟨_, hv⟩ := hown
    rcases hv with ⟨rfl, _⟩ | ⟨g0, cap0, cur0, rfl, _, hg0, _⟩
    · simp [Value.ownBlock] at hj
    · simp [Value.ownBlock] at hj
      subst hj
      rw [hg0] at ho
      injection ho with ho
      subst ho
      rfl
  have hkr : ∀ k T L, Rw w k T L → T ≠ 5 → k ≠ b → Rw (w1.setCell ⟨b, 1, none⟩ (.slice (some ⟨g', 0, none⟩) (bs.length + m) cap')) k T L := by
    intro k T L hk hT hkb
    have hne2 : some k ≠ v.ownBlock := by
      intro e
      obtain ⟨_, hv⟩ := hown
      rcases hv with ⟨rfl, _⟩ | ⟨g0, cap0, cur0, rfl, _, hg0, _⟩
      · simp [Value.ownBlock] at e
      · simp [Value.ownBlock] at e
        subst e
        unfold Rw at hk
        rw [hg0] at hk
        simp at hk
        exact hT hk.2.symm
    exact ((hk.grown hgrow hne2).far (p := ⟨b, 1, none⟩) (by simpa using hkb) _)
  have HK := Lib.hid (And.intro hko hkr); clear hko hkr
  have HFIN := Lib.hid (And.intro hW (And.intro hO (hbel.setCell (p := ⟨b, 1, none⟩) hBb (.slice (some ⟨g', 0, none⟩) (bs.length + m) cap'))))
  clear hW hO hg2 hg3 hg4 hg5 hg6 hx hgrow hown hc0 hc1 hbel hb1
  go_wp2
  go_ret2
  refine ⟨rfl, ⟨hBb, _, HFIN.out.1, ?_, by simpa [Value.ownBlock] using hne'⟩, HFIN.out.2.2, HK.out.1, HK.out.2⟩
  have := HFIN.out.2.1
  rw [List.length_append, HL.out.1]
  exact this

end Go.Proofs.YtemlhloipjbecaaDoor
