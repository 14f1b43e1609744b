/- Package whole: the two sides of a sum, walked. -/
import Derived.Test.YtfgolecbchhokaaGreatDoorWAdd1
namespace Go.Proofs.YtfgolecbchhokaaGreatDoor
open Go.RowKit Go.Shelf

/-- Block b holds a side of a sum. -/
def Bd (W : World) (b : Nat) (cs : Array Value) : Prop := W.heap[b]? = some (.cells cs 87 (0, 0))
section
variable {W W' : World} {b : Nat} {x y : Value} {cs : Array Value}
theorem Bd.lt (h : Bd W b cs) : b < W.heap.size := by
  rcases Nat.lt_or_ge b W.heap.size with hlt | hge
  · exact hlt
  · unfold Bd at h; rw [Array.getElem?_eq_none hge] at h; cases h
theorem Bd.new (w : World) (cs : Array Value) : Bd (w.alloc (.cells cs 87)) w.heap.size cs := heap_alloc_new w _
theorem Bd.alloc (h : Bd W b cs) (o : Obj) : Bd (W.alloc o) b cs := (Below.heap_alloc W o b h.lt).trans h
theorem Bd.below (h : Bd W b cs) (hq : Below W.heap.size W W') : Bd W' b cs := (hq.block b h.lt).trans h
theorem Bd.grown {g : Nat} (h : Bd W b cs) (hq : W.grownBy W' (some g)) (hne : b ≠ g) : Bd W' b cs := (hq.block b h.lt (by simp; exact hne)).trans h
theorem Bd.drew (h : Bd W b cs) : Bd W.drew b cs := h
theorem Bd.set0 (h : Bd W b #[x, y]) (u : Value) : Bd (W.setCell ⟨b, 0, none⟩ u) b #[u, y] := by
  unfold Bd at h ⊢
  simp [World.setCell, Array.getElem?_modify, h]
theorem Bd.far (h : Bd W b cs) {p : Addr} (hp : b ≠ p.block) (u : Value) : Bd (W.setCell p u) b cs := (Below.heap_setCell W p u b hp).trans h
theorem Bd.facts (h : Bd W b #[x, y]) : W.cell? ⟨b, 0, none⟩ = some x ∧ W.cell? ⟨b, 1, none⟩ = some y ∧ W.frozen? ⟨b, 0, none⟩ = false ∧ W.frozen? ⟨b, 1, none⟩ = false := by
  unfold Bd at h
  refine ⟨?_, ?_, ?_, ?_⟩
  · rw [cell_of_row W b 0 _ _ _ h]; rfl
  · rw [cell_of_row W b 1 _ _ _ h]; rfl
  · simp [World.frozen?, h]
  · simp [World.frozen?, h]
theorem Bd.cells (h : Bd W b #[x, y]) : W.cell? ⟨b, 0, none⟩ = some x ∧ W.cell? ⟨b, 1, none⟩ = some y := ⟨h.facts.1, h.facts.2.1⟩
end
/-- One side's blocks, and the answer's. -/
theorem sides1 (w : World) (a c : Array Value) : Bd ((w.alloc (.cells a 87)).alloc (.cells c 23)) w.heap.size a ∧ Bk ((w.alloc (.cells a 87)).alloc (.cells c 23)) (w.heap.size + 1) c ∧
    Below w.heap.size w ((w.alloc (.cells a 87)).alloc (.cells c 23)) := by
  refine ⟨(Bd.new w a).alloc _, ?_, ((Below.refl _ _).alloc (Nat.le_refl _) _).alloc (by rw [World.size_alloc]; omega) _⟩
  have := Bk.new (w.alloc (.cells a 87)) c
  rwa [World.size_alloc] at this
theorem sides2 (w : World) (a b c : Array Value) : Bd (((w.alloc (.cells a 87)).alloc (.cells b 87)).alloc (.cells c 23)) w.heap.size a ∧ Bd (((w.alloc (.cells a 87)).alloc (.cells b 87)).alloc (.cells c 23)) (w.heap.size + 1) b ∧
    Bk (((w.alloc (.cells a 87)).alloc (.cells b 87)).alloc (.cells c 23)) (w.heap.size + 1 + 1) c ∧ Below w.heap.size w (((w.alloc (.cells a 87)).alloc (.cells b 87)).alloc (.cells c 23)) := by
  have h2 := Bd.new (w.alloc (.cells a 87)) b
  rw [World.size_alloc] at h2
  refine ⟨((Bd.new w a).alloc _).alloc _, h2.alloc _, ?_, (((Below.refl _ _).alloc (Nat.le_refl _) _).alloc (by rw [World.size_alloc]; omega) _).alloc (by rw [World.size_alloc, World.size_alloc]; omega) _⟩
  have := Bk.new ((w.alloc (.cells a 87)).alloc (.cells b 87)) c
  rwa [World.size_alloc, World.size_alloc] at this

set_option maxRecDepth 100000 in
set_option maxHeartbeats 400000 in
theorem wsum_any (w : World) (g cap n : Nat) (ds : List ByteArray) (q : Bool) (hd : OwnS w g cap ds) (hn : ds.length = n) (hmax : n ≤ 1000) (hs : ∀ s ∈ ds, s.size ≤ 100000) (z : Bool) (o : ByteArray) (hz : wf (sI q (sumS ds)) = wi z o) :
    Calls Tryz.prog 83 #[.agg #[.slice (some ⟨g, 0, none⟩) n cap, .bool q]] w (Ret (.agg #[.bool z, .string o]) w) := by
  have HZ := Lib.hid hz; clear hz
  have HN := Lib.hid hn; clear hn
  go_enter Tryz.func83, Tryz.ntmps83
  go_wp2_with fail
  obtain ⟨hA, hC, hb⟩ := sides1 w #[Value.slice (some { block := g, off := 0 }) n cap, Value.bool q] #[Value.bool false, Value.string { data := #[] }]
  have hO := (hd.alloc (Obj.cells #[Value.slice (some { block := g, off := 0 }) n cap, Value.bool q] 87)).alloc (Obj.cells #[Value.bool false, Value.string { data := #[] }] 23)
  generalize ((w.alloc (Obj.cells #[Value.slice (some { block := g, off := 0 }) n cap, Value.bool q] 87)).alloc (Obj.cells #[Value.bool false, Value.string { data := #[] }] 23)) = W0 at *
  replace hO : OwnS W0.drew g cap ds := hO
  replace hC := hC.drew
  replace hb := hb.drew
  have hin := hA.drew.cells
  clear hA hd
  go_region_held3 (fun w' => w'.cell? ⟨w.heap.size, 0, none⟩ = some (.slice (some ⟨g, 0, none⟩) n cap) ∧ w'.cell? ⟨w.heap.size, 1, none⟩ = some (.bool q))
    (first | assumption | exact held (by assumption) (by assumption) | exact held_set2 (by assumption) (by omega))
    (first
     | (go_at_call 124; refine (wtotal_any _ g cap n ds hO HN.out hmax hs _ rfl).mono ?_; rintro e W1 ⟨rfl, hq⟩; replace hb := below_next hb hq; replace hC := hC.below hq)
     | (go_at_call 78; refine (signed_any _ q _ (sumS ds) z o rfl HZ.out).mono ?_; rintro e W2 ⟨rfl, hq⟩; replace hb := below_next hb hq; replace hC := hC.below hq; obtain ⟨hC0, hC1, hC2, hC3⟩ := hC.facts))
  go_wp2
  exact ret_whole rfl rfl (hC.set_ _ _) ⟨rfl, below_set2 hb (by omega) _ _ _ _⟩

set_option maxRecDepth 100000 in
set_option maxHeartbeats 400000 in
theorem wless_any (w : World) (g1 cap1 n1 g2 cap2 n2 : Nat) (xs ys : List ByteArray) (p q : Bool) (hx : OwnS w g1 cap1 xs) (hy : OwnS w g2 cap2 ys) (hn1 : xs.length = n1) (hn2 : ys.length = n2) (hm1 : n1 ≤ 1000) (hm2 : n2 ≤ 1000)
    (hs : ∀ s ∈ xs, s.size ≤ 100000) (ht : ∀ s ∈ ys, s.size ≤ 100000) (z : Bool) (o : ByteArray) (hz : wf (if sumS ys ≤ sumS xs then sI p (sumS xs - sumS ys) else sI q (sumS ys - sumS xs)) = wi z o) :
    Calls Tryz.prog 84 #[.agg #[.slice (some ⟨g1, 0, none⟩) n1 cap1, .bool p], .agg #[.slice (some ⟨g2, 0, none⟩) n2 cap2, .bool q]] w (Ret (.agg #[.bool z, .string o]) w) := by
  have HZ := Lib.hid hz; clear hz
  have HN := Lib.hid hn1; clear hn1
  have HM := Lib.hid hn2; clear hn2
  go_enter Tryz.func84, Tryz.ntmps84
  go_wp2_with fail
  obtain ⟨hA, hB, hC, hb⟩ := sides2 w #[Value.slice (some { block := g1, off := 0 }) n1 cap1, Value.bool p] #[Value.slice (some { block := g2, off := 0 }) n2 cap2, Value.bool q] #[Value.bool false, Value.string { data := #[] }]
  replace hx := ((hx.alloc (Obj.cells #[Value.slice (some { block := g1, off := 0 }) n1 cap1, Value.bool p] 87)).alloc (Obj.cells #[Value.slice (some { block := g2, off := 0 }) n2 cap2, Value.bool q] 87)).alloc (Obj.cells #[Value.bool false, Value.string { data := #[] }] 23)
  replace hy := ((hy.alloc (Obj.cells #[Value.slice (some { block := g1, off := 0 }) n1 cap1, Value.bool p] 87)).alloc (Obj.cells #[Value.slice (some { block := g2, off := 0 }) n2 cap2, Value.bool q] 87)).alloc (Obj.cells #[Value.bool false, Value.string { data := #[] }] 23)
  generalize (((w.alloc (Obj.cells #[Value.slice (some { block := g1, off := 0 }) n1 cap1, Value.bool p] 87)).alloc (Obj.cells #[Value.slice (some { block := g2, off := 0 }) n2 cap2, Value.bool q] 87)).alloc (Obj.cells #[Value.bool false, Value.string { data := #[] }] 23)) = W0 at *
  replace hx : OwnS W0.drew g1 cap1 xs := hx
  replace hy : OwnS W0.drew g2 cap2 ys := hy
  replace hC := hC.drew
  replace hb := hb.drew
  have hin := And.intro hA.drew.cells hB.drew.cells
  clear hA hB
  go_region_held3 (fun w' => (w'.cell? ⟨w.heap.size, 0, none⟩ = some (.slice (some ⟨g1, 0, none⟩) n1 cap1) ∧ w'.cell? ⟨w.heap.size, 1, none⟩ = some (.bool p)) ∧ (w'.cell? ⟨w.heap.size + 1, 0, none⟩ = some (.slice (some ⟨g2, 0, none⟩) n2 cap2) ∧ w'.cell? ⟨w.heap.size + 1, 1, none⟩ = some (.bool q)))
    (first | assumption | exact held2 (by assumption) (by assumption) | exact held2_set2 (by assumption) (by omega))
    (first
     | (go_at_call 125; refine (wbare_any _ g1 cap1 n1 xs hx HN.out hm1 hs).mono ?_; rintro e W1 ⟨t1, rfl, hv1, hz1, hq⟩; replace hb := below_next hb hq; replace hC := hC.below hq; replace hy := hy.below hq hy.lt; clear hx)
     | (go_at_call 125; refine (wbare_any _ g2 cap2 n2 ys hy HM.out hm2 ht).mono ?_; rintro e W2 ⟨t2, rfl, hv2, hz2, hq⟩; replace hb := below_next hb hq; replace hC := hC.below hq; clear hy))
  rename_i hH
  have hin2 := hH
  clear hin hq
  by_cases hle : sumS ys ≤ sumS xs
  · obtain ⟨L, hL⟩ : ∃ L, fb (sumS xs - sumS ys) = L := ⟨_, rfl⟩
    have hz2 : wf (sI p (sumS xs - sumS ys)) = wi z o := by rw [← HZ.out, if_pos hle]
    have hk1 : fb (num t1 - num t2) = L := by rw [hv1, hv2, hL]
    have hk2 : decide (num t2 ≤ num t1) = true := by rw [hv1, hv2]; exact decide_eq_true hle
    have HS := Lib.hid (And.intro hL (And.intro hz2 (And.intro hk1 hk2))); clear hL hz2 hk1 hk2 hv1 hv2 hle HN HM hs ht
    obtain ⟨⟨hA0, hA1⟩, hB0, hB1⟩ := hin2
    go_wp2_with fail
    refine (use_sub _ t1 t2 L true (by omega) (by omega) HS.out.2.2.1 HS.out.2.2.2).mono ?_
    rintro e W3 ⟨rfl, hq⟩
    replace hb := below_next hb hq
    replace hC := hC.below hq
    replace hH := held2 hH hq
    clear hA0 hA1 hB0 hB1 hq
    obtain ⟨⟨hA0, hA1⟩, hB0, hB1⟩ := hH
    go_wp2_with fail
    refine (signed_any _ p L (sumS xs - sumS ys) z o HS.out.1 HS.out.2.1).mono ?_
    rintro e W4 ⟨rfl, hq⟩
    replace hb := below_next hb hq
    replace hC := hC.below hq
    obtain ⟨hC0, hC1, hC2, hC3⟩ := hC.facts
    clear hq hA0 hA1 hB0 hB1
    go_wp2
    exact ret_whole rfl rfl (hC.set_ _ _) ⟨rfl, below_set2 hb (by omega) _ _ _ _⟩
  · obtain ⟨L, hL⟩ : ∃ L, fb (sumS ys - sumS xs) = L := ⟨_, rfl⟩
    have hz2 : wf (sI q (sumS ys - sumS xs)) = wi z o := by rw [← HZ.out, if_neg hle]
    have hk1 : fb (num t2 - num t1) = L := by rw [hv1, hv2, hL]
    have hk2 : decide (num t2 ≤ num t1) = false := by rw [hv1, hv2]; exact decide_eq_false hle
    have hk3 : decide (num t1 ≤ num t2) = true := by rw [hv1, hv2]; exact decide_eq_true (by omega)
    have HS := Lib.hid (And.intro hL (And.intro hz2 (And.intro hk1 (And.intro hk2 hk3)))); clear hL hz2 hk1 hk2 hk3 hv1 hv2 hle HN HM hs ht
    obtain ⟨⟨hA0, hA1⟩, hB0, hB1⟩ := hin2
    go_wp2_with fail
    refine (use_sub _ t1 t2 _ false (by omega) (by omega) rfl HS.out.2.2.2.1).mono ?_
    rintro e W3 ⟨rfl, hq⟩
    replace hb := below_next hb hq
    replace hC := hC.below hq
    replace hH := held2 hH hq
    clear hA0 hA1 hB0 hB1 hq
    have hin3 := hH
    obtain ⟨⟨hA0, hA1⟩, hB0, hB1⟩ := hin3
    go_wp2_with fail
    refine (use_sub _ t2 t1 L true (by omega) (by omega) HS.out.2.2.1 HS.out.2.2.2.2).mono ?_
    rintro e W4 ⟨rfl, hq⟩
    replace hb := below_next hb hq
    replace hC := hC.below hq
    replace hH := held2 hH hq
    clear hA0 hA1 hB0 hB1 hq
    obtain ⟨⟨hA0, hA1⟩, hB0, hB1⟩ := hH
    go_wp2_with fail
    refine (signed_any _ q L (sumS ys - sumS xs) z o HS.out.1 HS.out.2.1).mono ?_
    rintro e W5 ⟨rfl, hq⟩
    replace hb := below_next hb hq
    replace hC := hC.below hq
    obtain ⟨hC0, hC1, hC2, hC3⟩ := hC.facts
    clear hq hA0 hA1 hB0 hB1
    go_wp2
    exact ret_whole rfl rfl (hC.set_ _ _) ⟨rfl, below_set2 hb (by omega) _ _ _ _⟩
end Go.Proofs.YtfgolecbchhokaaGreatDoor
