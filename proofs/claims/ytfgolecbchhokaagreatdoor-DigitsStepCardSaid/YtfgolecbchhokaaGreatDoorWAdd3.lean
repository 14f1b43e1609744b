/- Package whole: Add and Sub, walked. -/
import Derived.Test.YtfgolecbchhokaaGreatDoorWAdd2
import Derived.Test.YtfgolecbchhokaaGreatDoorWNum2
namespace Go.Proofs.YtfgolecbchhokaaGreatDoor
open Go.RowKit Go.Shelf

theorem OwnS.far {w : World} {g cap : Nat} {ds : List ByteArray} (h : OwnS w g cap ds) {p : Addr} (hp : g ≠ p.block) (u : Value) : OwnS (w.setCell p u) g cap ds := by
  obtain ⟨T, L, h, r⟩ := h
  exact ⟨T, L, (Below.heap_setCell w p u g hp).trans h, r⟩
/-- Between the rounds of Add: after k of them. -/
structure AW (w W : World) (l : List IV) (k p q g1 cap1 : Nat) (xs : List ByteArray) (g2 cap2 : Nat) (ys : List ByteArray) : Prop where
  res : Bk W w.heap.size #[.bool false, .string ⟨#[]⟩]
  up : Bd W p #[.slice (some ⟨g1, 0, none⟩) xs.length cap1, .bool false]
  down : Bd W q #[.slice (some ⟨g2, 0, none⟩) ys.length cap2, .bool true]
  ox : OwnS W g1 cap1 xs
  oy : OwnS W g2 cap2 ys
  below : Below w.heap.size w W
  val : (sumS xs : Int) - (sumS ys : Int) = sumI l k
  len : xs.length + ys.length = k
  sx : ∀ s ∈ xs, s.size ≤ 100000
  sy : ∀ s ∈ ys, s.size ≤ 100000
  far : w.heap.size < p ∧ w.heap.size < q ∧ w.heap.size < g1 ∧ w.heap.size < g2 ∧ p ≠ q ∧ g1 ≠ g2 ∧ g1 ≠ p ∧ g1 ≠ q ∧ g2 ≠ p ∧ g2 ≠ q
theorem AW.alloc {w W : World} {l : List IV} {k p q g1 cap1 : Nat} {xs : List ByteArray} {g2 cap2 : Nat} {ys : List ByteArray} (h : AW w W l k p q g1 cap1 xs g2 cap2 ys) (o : Obj) : AW w (W.alloc o) l k p q g1 cap1 xs g2 cap2 ys :=
  ⟨h.res.alloc o, h.up.alloc o, h.down.alloc o, h.ox.alloc o, h.oy.alloc o, h.below.alloc h.below.size o, h.val, h.len, h.sx, h.sy, h.far⟩
theorem AW.goUp {w V V' : World} {l : List IV} {k p q g1 cap1 : Nat} {xs : List ByteArray} {g2 cap2 : Nat} {ys : List ByteArray} (h : AW w V l k p q g1 cap1 xs g2 cap2 ys) {s : ByteArray} (hk : k < l.length) (hx : l[k] = (false, s)) (hs : s.size ≤ 100000)
    {g' cap' : Nat} (hO : OwnS V' g' cap' (xs ++ [s])) (hg : V.grownBy V' (some g1)) (ha : g' = g1 ∨ V.heap.size ≤ g') :
    AW w (V'.setCell ⟨p, 0, none⟩ (.slice (some ⟨g', 0, none⟩) (xs.length + 1) cap')) l (k + 1) p q g' cap' (xs ++ [s]) g2 cap2 ys := by
  obtain ⟨f1, f2, f3, f4, f5, f6, f7, f8, f9, f10⟩ := h.far
  have l1 := h.up.lt
  have l2 := h.down.lt
  have l3 := h.oy.lt
  have l4 := h.res.lt
  have e1 : g' ≠ g2 ∧ g' ≠ p ∧ g' ≠ q ∧ w.heap.size < g' := by omega
  refine ⟨?_, ?_, ?_, hO.far e1.2.1 _, ?_, (below_grown h.below h.below.size hg (by omega)).setCell (by show w.heap.size ≤ p; omega) _, ?_, ?_, ?_, h.sy, by omega⟩
  · exact Bk.far ((hg.block _ l4 (by simp; omega)).trans h.res) (by show w.heap.size ≠ p; omega) _
  · have := (h.up.grown hg (by omega)).set0 (.slice (some ⟨g', 0, none⟩) (xs.length + 1) cap')
    rw [List.length_append, List.length_singleton]
    exact this
  · exact (h.down.grown hg (by omega)).far (by show q ≠ p; omega) _
  · exact (h.oy.grown hg (by simp; omega)).far (by show g2 ≠ p; omega) _
  · rw [sumS_snoc, sumI_succ hk, hx, ← h.val]
    show _ = _ + (num s : Int)
    omega
  · have := h.len
    rw [List.length_append, List.length_singleton]; omega
  · intro t ht
    rw [List.mem_append, List.mem_singleton] at ht
    rcases ht with ht | rfl
    · exact h.sx t ht
    · exact hs
theorem AW.goDown {w V V' : World} {l : List IV} {k p q g1 cap1 : Nat} {xs : List ByteArray} {g2 cap2 : Nat} {ys : List ByteArray} (h : AW w V l k p q g1 cap1 xs g2 cap2 ys) {s : ByteArray} (hk : k < l.length) (hx : l[k] = (true, s)) (hs : s.size ≤ 100000)
    {g' cap' : Nat} (hO : OwnS V' g' cap' (ys ++ [s])) (hg : V.grownBy V' (some g2)) (ha : g' = g2 ∨ V.heap.size ≤ g') :
    AW w (V'.setCell ⟨q, 0, none⟩ (.slice (some ⟨g', 0, none⟩) (ys.length + 1) cap')) l (k + 1) p q g1 cap1 xs g' cap' (ys ++ [s]) := by
  obtain ⟨f1, f2, f3, f4, f5, f6, f7, f8, f9, f10⟩ := h.far
  have l1 := h.up.lt
  have l2 := h.down.lt
  have l3 := h.ox.lt
  have l4 := h.res.lt
  have e1 : g' ≠ g1 ∧ g' ≠ p ∧ g' ≠ q ∧ w.heap.size < g' := by omega
  refine ⟨?_, ?_, ?_, ?_, hO.far e1.2.2.1 _, (below_grown h.below h.below.size hg (by omega)).setCell (by show w.heap.size ≤ q; omega) _, ?_, ?_, h.sx, ?_, by omega⟩
  · exact Bk.far ((hg.block _ l4 (by simp; omega)).trans h.res) (by show w.heap.size ≠ q; omega) _
  · exact (h.up.grown hg (by omega)).far (by show p ≠ q; omega) _
  · have := (h.down.grown hg (by omega)).set0 (.slice (some ⟨g', 0, none⟩) (ys.length + 1) cap')
    rw [List.length_append, List.length_singleton]
    exact this
  · exact (h.ox.grown hg (by simp; omega)).far (by show g1 ≠ q; omega) _
  · rw [sumS_snoc, sumI_succ hk, hx, ← h.val]
    show _ = _ + -(num s : Int)
    omega
  · have := h.len
    rw [List.length_append, List.length_singleton]; omega
  · intro t ht
    rw [List.mem_append, List.mem_singleton] at ht
    rcases ht with ht | rfl
    · exact h.sy t ht
    · exact hs
theorem three (w : World) : Bk (((w.alloc (Obj.cells #[Value.bool false, Value.string { data := #[] }] 23)).alloc (Obj.cells #[Value.string { data := #[] }, Value.string { data := #[] }, Value.string { data := #[] }, Value.string { data := #[] }, Value.string { data := #[] }, Value.string { data := #[] }, Value.string { data := #[] }, Value.string { data := #[] }] 84)).alloc (Obj.cells #[Value.string { data := #[] }, Value.string { data := #[] }, Value.string { data := #[] }, Value.string { data := #[] }, Value.string { data := #[] }, Value.string { data := #[] }, Value.string { data := #[] }, Value.string { data := #[] }] 84)) w.heap.size #[Value.bool false, Value.string { data := #[] }] ∧ OwnS (((w.alloc (Obj.cells #[Value.bool false, Value.string { data := #[] }] 23)).alloc (Obj.cells #[Value.string { data := #[] }, Value.string { data := #[] }, Value.string { data := #[] }, Value.string { data := #[] }, Value.string { data := #[] }, Value.string { data := #[] }, Value.string { data := #[] }, Value.string { data := #[] }] 84)).alloc (Obj.cells #[Value.string { data := #[] }, Value.string { data := #[] }, Value.string { data := #[] }, Value.string { data := #[] }, Value.string { data := #[] }, Value.string { data := #[] }, Value.string { data := #[] }, Value.string { data := #[] }] 84)) (w.heap.size + 1) 8 [] ∧ OwnS (((w.alloc (Obj.cells #[Value.bool false, Value.string { data := #[] }] 23)).alloc (Obj.cells #[Value.string { data := #[] }, Value.string { data := #[] }, Value.string { data := #[] }, Value.string { data := #[] }, Value.string { data := #[] }, Value.string { data := #[] }, Value.string { data := #[] }, Value.string { data := #[] }] 84)).alloc (Obj.cells #[Value.string { data := #[] }, Value.string { data := #[] }, Value.string { data := #[] }, Value.string { data := #[] }, Value.string { data := #[] }, Value.string { data := #[] }, Value.string { data := #[] }, Value.string { data := #[] }] 84)) (w.heap.size + 1 + 1) 8 [] ∧ Below w.heap.size w (((w.alloc (Obj.cells #[Value.bool false, Value.string { data := #[] }] 23)).alloc (Obj.cells #[Value.string { data := #[] }, Value.string { data := #[] }, Value.string { data := #[] }, Value.string { data := #[] }, Value.string { data := #[] }, Value.string { data := #[] }, Value.string { data := #[] }, Value.string { data := #[] }] 84)).alloc (Obj.cells #[Value.string { data := #[] }, Value.string { data := #[] }, Value.string { data := #[] }, Value.string { data := #[] }, Value.string { data := #[] }, Value.string { data := #[] }, Value.string { data := #[] }, Value.string { data := #[] }] 84)) ∧ (((w.alloc (Obj.cells #[Value.bool false, Value.string { data := #[] }] 23)).alloc (Obj.cells #[Value.string { data := #[] }, Value.string { data := #[] }, Value.string { data := #[] }, Value.string { data := #[] }, Value.string { data := #[] }, Value.string { data := #[] }, Value.string { data := #[] }, Value.string { data := #[] }] 84)).alloc (Obj.cells #[Value.string { data := #[] }, Value.string { data := #[] }, Value.string { data := #[] }, Value.string { data := #[] }, Value.string { data := #[] }, Value.string { data := #[] }, Value.string { data := #[] }, Value.string { data := #[] }] 84)).heap.size = w.heap.size + 1 + 1 + 1 := by
  have h0 : (w.alloc (Obj.cells #[Value.bool false, Value.string { data := #[] }] 23)).heap.size = w.heap.size + 1 := World.size_alloc _ _
  have h1 : ((w.alloc (Obj.cells #[Value.bool false, Value.string { data := #[] }] 23)).alloc (Obj.cells #[Value.string { data := #[] }, Value.string { data := #[] }, Value.string { data := #[] }, Value.string { data := #[] }, Value.string { data := #[] }, Value.string { data := #[] }, Value.string { data := #[] }, Value.string { data := #[] }] 84)).heap.size = w.heap.size + 1 + 1 := by rw [World.size_alloc, h0]
  have a1 := Rw.new (w.alloc (Obj.cells #[Value.bool false, Value.string { data := #[] }] 23)) 84 [Value.string { data := #[] }, Value.string { data := #[] }, Value.string { data := #[] }, Value.string { data := #[] }, Value.string { data := #[] }, Value.string { data := #[] }, Value.string { data := #[] }, Value.string { data := #[] }]
  have a2 := Rw.new ((w.alloc (Obj.cells #[Value.bool false, Value.string { data := #[] }] 23)).alloc (Obj.cells #[Value.string { data := #[] }, Value.string { data := #[] }, Value.string { data := #[] }, Value.string { data := #[] }, Value.string { data := #[] }, Value.string { data := #[] }, Value.string { data := #[] }, Value.string { data := #[] }] 84)) 84 [Value.string { data := #[] }, Value.string { data := #[] }, Value.string { data := #[] }, Value.string { data := #[] }, Value.string { data := #[] }, Value.string { data := #[] }, Value.string { data := #[] }, Value.string { data := #[] }]
  rw [h0] at a1
  rw [h1] at a2
  refine ⟨((Bk.new w _).alloc _).alloc _, (OwnS.empty a1 (by unfold maxLen; decide)).alloc _, OwnS.empty a2 (by unfold maxLen; decide), ?_, by rw [World.size_alloc, h1]⟩
  exact (((Below.refl _ _).alloc (Nat.le_refl _) _).alloc (by rw [h0]; omega) _).alloc (by rw [h1]; omega) _
theorem AW.startA (w : World) (l : List IV) : AW w (((((w.alloc (Obj.cells #[Value.bool false, Value.string { data := #[] }] 23)).alloc (Obj.cells #[Value.string { data := #[] }, Value.string { data := #[] }, Value.string { data := #[] }, Value.string { data := #[] }, Value.string { data := #[] }, Value.string { data := #[] }, Value.string { data := #[] }, Value.string { data := #[] }] 84)).alloc (Obj.cells #[Value.string { data := #[] }, Value.string { data := #[] }, Value.string { data := #[] }, Value.string { data := #[] }, Value.string { data := #[] }, Value.string { data := #[] }, Value.string { data := #[] }, Value.string { data := #[] }] 84)).alloc (Obj.cells #[Value.slice (some { block := w.heap.size + 1, off := 0 }) 0 8, Value.bool false] 87)).alloc (Obj.cells #[Value.slice (some { block := w.heap.size + 1 + 1, off := 0 }) 0 8, Value.bool true] 87)).drew l 0 (w.heap.size + 1 + 1 + 1) (w.heap.size + 1 + 1 + 1 + 1) (w.heap.size + 1) 8 [] (w.heap.size + 1 + 1) 8 [] := by
  obtain ⟨h1, h2, h3, h4, h5⟩ := three w
  generalize (((w.alloc (Obj.cells #[Value.bool false, Value.string { data := #[] }] 23)).alloc (Obj.cells #[Value.string { data := #[] }, Value.string { data := #[] }, Value.string { data := #[] }, Value.string { data := #[] }, Value.string { data := #[] }, Value.string { data := #[] }, Value.string { data := #[] }, Value.string { data := #[] }] 84)).alloc (Obj.cells #[Value.string { data := #[] }, Value.string { data := #[] }, Value.string { data := #[] }, Value.string { data := #[] }, Value.string { data := #[] }, Value.string { data := #[] }, Value.string { data := #[] }, Value.string { data := #[] }] 84)) = W at *
  have u := Bd.new W #[Value.slice (some { block := w.heap.size + 1, off := 0 }) 0 8, Value.bool false]
  have d := Bd.new (W.alloc (Obj.cells #[Value.slice (some { block := w.heap.size + 1, off := 0 }) 0 8, Value.bool false] 87)) #[Value.slice (some { block := w.heap.size + 1 + 1, off := 0 }) 0 8, Value.bool true]
  rw [World.size_alloc] at d
  rw [h5] at u d
  exact ⟨(h1.alloc _).alloc _, u.alloc _, d, (h2.alloc _).alloc _, (h3.alloc _).alloc _, ((h4.alloc (by omega) _).alloc (by rw [World.size_alloc]; omega) _).drew, rfl, rfl, (fun s h => by cases h), (fun s h => by cases h), by omega⟩
theorem AW.startB (w : World) (l : List IV) : AW w (((((w.alloc (Obj.cells #[Value.bool false, Value.string { data := #[] }] 23)).alloc (Obj.cells #[Value.string { data := #[] }, Value.string { data := #[] }, Value.string { data := #[] }, Value.string { data := #[] }, Value.string { data := #[] }, Value.string { data := #[] }, Value.string { data := #[] }, Value.string { data := #[] }] 84)).alloc (Obj.cells #[Value.string { data := #[] }, Value.string { data := #[] }, Value.string { data := #[] }, Value.string { data := #[] }, Value.string { data := #[] }, Value.string { data := #[] }, Value.string { data := #[] }, Value.string { data := #[] }] 84)).alloc (Obj.cells #[Value.slice (some { block := w.heap.size + 1 + 1, off := 0 }) 0 8, Value.bool true] 87)).alloc (Obj.cells #[Value.slice (some { block := w.heap.size + 1, off := 0 }) 0 8, Value.bool false] 87)).drew l 0 (w.heap.size + 1 + 1 + 1 + 1) (w.heap.size + 1 + 1 + 1) (w.heap.size + 1) 8 [] (w.heap.size + 1 + 1) 8 [] := by
  obtain ⟨h1, h2, h3, h4, h5⟩ := three w
  generalize (((w.alloc (Obj.cells #[Value.bool false, Value.string { data := #[] }] 23)).alloc (Obj.cells #[Value.string { data := #[] }, Value.string { data := #[] }, Value.string { data := #[] }, Value.string { data := #[] }, Value.string { data := #[] }, Value.string { data := #[] }, Value.string { data := #[] }, Value.string { data := #[] }] 84)).alloc (Obj.cells #[Value.string { data := #[] }, Value.string { data := #[] }, Value.string { data := #[] }, Value.string { data := #[] }, Value.string { data := #[] }, Value.string { data := #[] }, Value.string { data := #[] }, Value.string { data := #[] }] 84)) = W at *
  have d := Bd.new W #[Value.slice (some { block := w.heap.size + 1 + 1, off := 0 }) 0 8, Value.bool true]
  have u := Bd.new (W.alloc (Obj.cells #[Value.slice (some { block := w.heap.size + 1 + 1, off := 0 }) 0 8, Value.bool true] 87)) #[Value.slice (some { block := w.heap.size + 1, off := 0 }) 0 8, Value.bool false]
  rw [World.size_alloc] at u
  rw [h5] at u d
  exact ⟨(h1.alloc _).alloc _, u, d.alloc _, (h2.alloc _).alloc _, (h3.alloc _).alloc _, ((h4.alloc (by omega) _).alloc (by rw [World.size_alloc]; omega) _).drew, rfl, rfl, (fun s h => by cases h), (fun s h => by cases h), by omega⟩
def intQ : Value → Nat | .int _ n => n.toNat | _ => 0

set_option maxRecDepth 100000 in
set_option maxHeartbeats 3200000 in
theorem wadd_any (w : World) (ad : Option Addr) (l : List IV) (n c : Nat) (hn : l.length = n) (hmax : n ≤ 900) (hs : ∀ x ∈ l, x.2.size ≤ 100000) (hl : IAt w ad l)
    (z : Bool) (o : ByteArray) (hz : wf (sumI l n) = wi z o) :
    Calls Tryz.prog 24 #[.slice ad n c] w (Ret (.agg #[.bool z, .string o]) w) := by
  have HN := Lib.hid hn; clear hn
  have HZ := Lib.hid hz; clear hz
  go_enter Tryz.func24, Tryz.ntmps24
  go_wp2_with fail
  go_region
  · have hS := AW.startA w l
    generalize (((((w.alloc (Obj.cells #[Value.bool false, Value.string { data := #[] }] 23)).alloc (Obj.cells #[Value.string { data := #[] }, Value.string { data := #[] }, Value.string { data := #[] }, Value.string { data := #[] }, Value.string { data := #[] }, Value.string { data := #[] }, Value.string { data := #[] }, Value.string { data := #[] }] 84)).alloc (Obj.cells #[Value.string { data := #[] }, Value.string { data := #[] }, Value.string { data := #[] }, Value.string { data := #[] }, Value.string { data := #[] }, Value.string { data := #[] }, Value.string { data := #[] }, Value.string { data := #[] }] 84)).alloc (Obj.cells #[Value.slice (some { block := w.heap.size + 1, off := 0 }) 0 8, Value.bool false] 87)).alloc (Obj.cells #[Value.slice (some { block := w.heap.size + 1 + 1, off := 0 }) 0 8, Value.bool true] 87)).drew = W0 at *
    generalize w.heap.size + 1 + 1 + 1 + 1 = q at *
    generalize w.heap.size + 1 + 1 + 1 = p at *
    generalize w.heap.size + 1 + 1 = b2 at *
    generalize w.heap.size + 1 = b1 at *
    go_wp2_with fail
    go_loopw [15] (fun i wr => ∃ (k g1 cap1 : Nat) (xs : List ByteArray) (g2 cap2 : Nat) (ys : List ByteArray), k ≤ n ∧ i = .int .i64 k ∧ AW w wr l k p q g1 cap1 xs g2 cap2 ys) (fun i _ => n - intQ i)
    case atStart => exact ⟨0, _, _, _, _, _, _, Nat.zero_le _, rfl, hS⟩
    case round =>
      clear hS
      obtain ⟨k, g1, cap1, xs, g2, cap2, ys, hk, rfl, hM⟩ := hrel
      by_cases hlt : k < n
      · have hkl : k < l.length := by rw [HN.out]; exact hlt
        obtain ⟨lb, lo, rfl, hlb, hc1, hc2⟩ := hl k hkl
        obtain ⟨b, s, hx⟩ : ∃ b s, l[k] = (b, s) := ⟨_, _, rfl⟩
        have hss : s.size ≤ 100000 := by have := hs l[k] (List.getElem_mem hkl); rw [hx] at this; exact this
        rw [hx] at hc1 hc2
        replace hc1 : wr.cell? ⟨lb, lo + k * 2, none⟩ = some (.bool b) := by rw [hM.below.cell hlb]; exact hc1
        replace hc2 : wr.cell? ⟨lb, lo + k * 2 + 1, none⟩ = some (.string s) := by rw [hM.below.cell hlb]; exact hc2
        have HX := Lib.hid hx; clear hx
        have hU := cell_past hM.up.facts.1 (Obj.cells #[Value.bool b, Value.string s] 23)
        have hD := cell_past hM.down.facts.1 (Obj.cells #[Value.bool b, Value.string s] 23)
        have hM2 := hM.alloc (Obj.cells #[Value.bool b, Value.string s] 23)
        cases b
        · go_wp2_with fail
          refine (wgrown_any _ g1 cap1 xs.length xs s hM2.ox rfl (by have := hM2.len; omega)).mono ?_
          rintro e V1 ⟨g', cap', rfl, hO, hg, ha⟩
          have hN := AW.goUp hM2 hkl HX.out hss hO hg ha
          have hU2 := (hM2.up.grown hg (by have := hM2.far; omega)).facts
          obtain ⟨hU20, hU21, hU22, hU23⟩ := hU2
          clear hM hM2 hU hD hc1 hc2 hO hg ha
          go_wp2
          go_roundw
          case rel => exact ⟨k + 1, g', cap', xs ++ [s], g2, cap2, ys, by omega, by simp, hN⟩
          case measure => simp [intQ]; omega
        · go_wp2_with fail
          refine (wgrown_any _ g2 cap2 ys.length ys s hM2.oy rfl (by have := hM2.len; omega)).mono ?_
          rintro e V1 ⟨g', cap', rfl, hO, hg, ha⟩
          have hN := AW.goDown hM2 hkl HX.out hss hO hg ha
          have hU2 := (hM2.down.grown hg (by have := hM2.far; omega)).facts
          obtain ⟨hU20, hU21, hU22, hU23⟩ := hU2
          clear hM hM2 hU hD hc1 hc2 hO hg ha
          go_wp2
          go_roundw
          case rel => exact ⟨k + 1, g1, cap1, xs, g', cap', ys ++ [s], by omega, by simp, hN⟩
          case measure => simp [intQ]; omega
      · have hkn : k = n := by omega
        subst hkn
        obtain ⟨hU0, hU1⟩ := hM.up.cells
        obtain ⟨hD0, hD1⟩ := hM.down.cells
        have hv := hM.val
        have hlen := hM.len
        by_cases hy0 : ys.length = 0
        · have hz2 : wf (sI false (sumS xs)) = wi z o := by
            rw [← HZ.out, ← hv, List.eq_nil_of_length_eq_zero hy0]
            show wf (sumS xs : Int) = wf ((sumS xs : Int) - 0)
            rw [Int.sub_zero]
          have HZ2 := Lib.hid hz2; clear hz2 hv
          go_wp2_with fail
          refine (wsum_any _ g1 cap1 xs.length xs false hM.ox rfl (by omega) hM.sx z o HZ2.out).mono ?_
          rintro e V1 ⟨rfl, hq⟩
          have hb := below_next hM.below hq
          have hC := hM.res.below hq
          obtain ⟨hC0, hC1, hC2, hC3⟩ := hC.facts
          clear hM hq hU0 hU1 hD0 hD1
          go_wp2
          exact ret_whole rfl rfl (hC.set_ _ _) ⟨rfl, below_set2 hb (by omega) _ _ _ _⟩
        · by_cases hx0 : xs.length = 0
          · have hz2 : wf (sI true (sumS ys)) = wi z o := by
              rw [← HZ.out, ← hv, List.eq_nil_of_length_eq_zero hx0]
              show wf (-(sumS ys : Int)) = wf ((0 : Int) - sumS ys)
              rw [Int.zero_sub]
            have HZ2 := Lib.hid hz2; clear hz2 hv
            go_wp2_with fail
            refine (wsum_any _ g2 cap2 ys.length ys true hM.oy rfl (by omega) hM.sy z o HZ2.out).mono ?_
            rintro e V1 ⟨rfl, hq⟩
            have hb := below_next hM.below hq
            have hC := hM.res.below hq
            obtain ⟨hC0, hC1, hC2, hC3⟩ := hC.facts
            clear hM hq hU0 hU1 hD0 hD1
            go_wp2
            exact ret_whole rfl rfl (hC.set_ _ _) ⟨rfl, below_set2 hb (by omega) _ _ _ _⟩
          · have hz2 : wf (if sumS ys ≤ sumS xs then sI false (sumS xs - sumS ys) else sI true (sumS ys - sumS xs)) = wi z o := by
              rw [← HZ.out, ← hv]
              congr 1
              by_cases hle : sumS ys ≤ sumS xs
              · rw [if_pos hle]; show ((sumS xs - sumS ys : Nat) : Int) = _; omega
              · rw [if_neg hle]; show -((sumS ys - sumS xs : Nat) : Int) = _; omega
            have HZ2 := Lib.hid hz2; clear hz2 hv
            go_wp2_with fail
            refine (wless_any _ g1 cap1 xs.length g2 cap2 ys.length xs ys false true hM.ox hM.oy rfl rfl (by omega) (by omega) hM.sx hM.sy z o HZ2.out).mono ?_
            rintro e V1 ⟨rfl, hq⟩
            have hb := below_next hM.below hq
            have hC := hM.res.below hq
            obtain ⟨hC0, hC1, hC2, hC3⟩ := hC.facts
            clear hM hq hU0 hU1 hD0 hD1
            go_wp2
            exact ret_whole rfl rfl (hC.set_ _ _) ⟨rfl, below_set2 hb (by omega) _ _ _ _⟩
  · have hS := AW.startB w l
    generalize (((((w.alloc (Obj.cells #[Value.bool false, Value.string { data := #[] }] 23)).alloc (Obj.cells #[Value.string { data := #[] }, Value.string { data := #[] }, Value.string { data := #[] }, Value.string { data := #[] }, Value.string { data := #[] }, Value.string { data := #[] }, Value.string { data := #[] }, Value.string { data := #[] }] 84)).alloc (Obj.cells #[Value.string { data := #[] }, Value.string { data := #[] }, Value.string { data := #[] }, Value.string { data := #[] }, Value.string { data := #[] }, Value.string { data := #[] }, Value.string { data := #[] }, Value.string { data := #[] }] 84)).alloc (Obj.cells #[Value.slice (some { block := w.heap.size + 1 + 1, off := 0 }) 0 8, Value.bool true] 87)).alloc (Obj.cells #[Value.slice (some { block := w.heap.size + 1, off := 0 }) 0 8, Value.bool false] 87)).drew = W0 at *
    generalize w.heap.size + 1 + 1 + 1 + 1 = p at *
    generalize w.heap.size + 1 + 1 + 1 = q at *
    generalize w.heap.size + 1 + 1 = b2 at *
    generalize w.heap.size + 1 = b1 at *
    go_wp2_with fail
    go_loopw [15] (fun i wr => ∃ (k g1 cap1 : Nat) (xs : List ByteArray) (g2 cap2 : Nat) (ys : List ByteArray), k ≤ n ∧ i = .int .i64 k ∧ AW w wr l k p q g1 cap1 xs g2 cap2 ys) (fun i _ => n - intQ i)
    case atStart => exact ⟨0, _, _, _, _, _, _, Nat.zero_le _, rfl, hS⟩
    case round =>
      clear hS
      obtain ⟨k, g1, cap1, xs, g2, cap2, ys, hk, rfl, hM⟩ := hrel
      by_cases hlt : k < n
      · have hkl : k < l.length := by rw [HN.out]; exact hlt
        obtain ⟨lb, lo, rfl, hlb, hc1, hc2⟩ := hl k hkl
        obtain ⟨b, s, hx⟩ : ∃ b s, l[k] = (b, s) := ⟨_, _, rfl⟩
        have hss : s.size ≤ 100000 := by have := hs l[k] (List.getElem_mem hkl); rw [hx] at this; exact this
        rw [hx] at hc1 hc2
        replace hc1 : wr.cell? ⟨lb, lo + k * 2, none⟩ = some (.bool b) := by rw [hM.below.cell hlb]; exact hc1
        replace hc2 : wr.cell? ⟨lb, lo + k * 2 + 1, none⟩ = some (.string s) := by rw [hM.below.cell hlb]; exact hc2
        have HX := Lib.hid hx; clear hx
        have hU := cell_past hM.up.facts.1 (Obj.cells #[Value.bool b, Value.string s] 23)
        have hD := cell_past hM.down.facts.1 (Obj.cells #[Value.bool b, Value.string s] 23)
        have hM2 := hM.alloc (Obj.cells #[Value.bool b, Value.string s] 23)
        cases b
        · go_wp2_with fail
          refine (wgrown_any _ g1 cap1 xs.length xs s hM2.ox rfl (by have := hM2.len; omega)).mono ?_
          rintro e V1 ⟨g', cap', rfl, hO, hg, ha⟩
          have hN := AW.goUp hM2 hkl HX.out hss hO hg ha
          have hU2 := (hM2.up.grown hg (by have := hM2.far; omega)).facts
          obtain ⟨hU20, hU21, hU22, hU23⟩ := hU2
          clear hM hM2 hU hD hc1 hc2 hO hg ha
          go_wp2
          go_roundw
          case rel => exact ⟨k + 1, g', cap', xs ++ [s], g2, cap2, ys, by omega, by simp, hN⟩
          case measure => simp [intQ]; omega
        · go_wp2_with fail
          refine (wgrown_any _ g2 cap2 ys.length ys s hM2.oy rfl (by have := hM2.len; omega)).mono ?_
          rintro e V1 ⟨g', cap', rfl, hO, hg, ha⟩
          have hN := AW.goDown hM2 hkl HX.out hss hO hg ha
          have hU2 := (hM2.down.grown hg (by have := hM2.far; omega)).facts
          obtain ⟨hU20, hU21, hU22, hU23⟩ := hU2
          clear hM hM2 hU hD hc1 hc2 hO hg ha
          go_wp2
          go_roundw
          case rel => exact ⟨k + 1, g1, cap1, xs, g', cap', ys ++ [s], by omega, by simp, hN⟩
          case measure => simp [intQ]; omega
      · have hkn : k = n := by omega
        subst hkn
        obtain ⟨hU0, hU1⟩ := hM.up.cells
        obtain ⟨hD0, hD1⟩ := hM.down.cells
        have hv := hM.val
        have hlen := hM.len
        by_cases hy0 : ys.length = 0
        · have hz2 : wf (sI false (sumS xs)) = wi z o := by
            rw [← HZ.out, ← hv, List.eq_nil_of_length_eq_zero hy0]
            show wf (sumS xs : Int) = wf ((sumS xs : Int) - 0)
            rw [Int.sub_zero]
          have HZ2 := Lib.hid hz2; clear hz2 hv
          go_wp2_with fail
          refine (wsum_any _ g1 cap1 xs.length xs false hM.ox rfl (by omega) hM.sx z o HZ2.out).mono ?_
          rintro e V1 ⟨rfl, hq⟩
          have hb := below_next hM.below hq
          have hC := hM.res.below hq
          obtain ⟨hC0, hC1, hC2, hC3⟩ := hC.facts
          clear hM hq hU0 hU1 hD0 hD1
          go_wp2
          exact ret_whole rfl rfl (hC.set_ _ _) ⟨rfl, below_set2 hb (by omega) _ _ _ _⟩
        · by_cases hx0 : xs.length = 0
          · have hz2 : wf (sI true (sumS ys)) = wi z o := by
              rw [← HZ.out, ← hv, List.eq_nil_of_length_eq_zero hx0]
              show wf (-(sumS ys : Int)) = wf ((0 : Int) - sumS ys)
              rw [Int.zero_sub]
            have HZ2 := Lib.hid hz2; clear hz2 hv
            go_wp2_with fail
            refine (wsum_any _ g2 cap2 ys.length ys true hM.oy rfl (by omega) hM.sy z o HZ2.out).mono ?_
            rintro e V1 ⟨rfl, hq⟩
            have hb := below_next hM.below hq
            have hC := hM.res.below hq
            obtain ⟨hC0, hC1, hC2, hC3⟩ := hC.facts
            clear hM hq hU0 hU1 hD0 hD1
            go_wp2
            exact ret_whole rfl rfl (hC.set_ _ _) ⟨rfl, below_set2 hb (by omega) _ _ _ _⟩
          · have hz2 : wf (if sumS ys ≤ sumS xs then sI false (sumS xs - sumS ys) else sI true (sumS ys - sumS xs)) = wi z o := by
              rw [← HZ.out, ← hv]
              congr 1
              by_cases hle : sumS ys ≤ sumS xs
              · rw [if_pos hle]; show ((sumS xs - sumS ys : Nat) : Int) = _; omega
              · rw [if_neg hle]; show -((sumS ys - sumS xs : Nat) : Int) = _; omega
            have HZ2 := Lib.hid hz2; clear hz2 hv
            go_wp2_with fail
            refine (wless_any _ g1 cap1 xs.length g2 cap2 ys.length xs ys false true hM.ox hM.oy rfl rfl (by omega) (by omega) hM.sx hM.sy z o HZ2.out).mono ?_
            rintro e V1 ⟨rfl, hq⟩
            have hb := below_next hM.below hq
            have hC := hM.res.below hq
            obtain ⟨hC0, hC1, hC2, hC3⟩ := hC.facts
            clear hM hq hU0 hU1 hD0 hD1
            go_wp2
            exact ret_whole rfl rfl (hC.set_ _ _) ⟨rfl, below_set2 hb (by omega) _ _ _ _⟩

theorem use_wadd2 (w : World) (m n : Bool) (s t : ByteArray) (hs : s.size ≤ 100000) (ht : t.size ≤ 100000) (z : Bool) (o : ByteArray) (hz : wf (wv m s + wv n t) = wi z o) :
    Calls Tryz.prog 24 #[.slice (some ⟨w.heap.size, 0, none⟩) 2 2] (w.alloc (.cells #[.bool m, .string s, .bool n, .string t] 23)) (Ret (.agg #[.bool z, .string o]) w) := by
  refine (wadd_any _ _ [(m, s), (n, t)] 2 2 rfl (by omega) (fun x h => by simp at h; rcases h with h | h <;> (rw [h]; assumption)) (IAt.new w _ _ _ rfl) z o ?_).mono fun _ _ ⟨h, hb⟩ => ⟨h, ?_⟩
  · rw [← hz]
    congr 1
    show wv m s + (wv n t + 0) = _
    rw [Int.add_zero]
  · exact ((Below.refl _ _).alloc (Nat.le_refl _) _).trans (hb.mono (by rw [World.size_alloc]; omega))
theorem use_wadd3 (w : World) (m n q : Bool) (s t u : ByteArray) (hs : s.size ≤ 100000) (ht : t.size ≤ 100000) (hu : u.size ≤ 100000) (z : Bool) (o : ByteArray) (hz : wf (wv m s + wv n t + wv q u) = wi z o) :
    Calls Tryz.prog 24 #[.slice (some ⟨w.heap.size, 0, none⟩) 3 3] (w.alloc (.cells #[.bool m, .string s, .bool n, .string t, .bool q, .string u] 23)) (Ret (.agg #[.bool z, .string o]) w) := by
  refine (wadd_any _ _ [(m, s), (n, t), (q, u)] 3 3 rfl (by omega) (fun x h => by simp at h; rcases h with h | h | h <;> (rw [h]; assumption)) (IAt.new w _ _ _ rfl) z o ?_).mono fun _ _ ⟨h, hb⟩ => ⟨h, ?_⟩
  · rw [← hz]
    congr 1
    show wv m s + (wv n t + (wv q u + 0)) = _
    rw [Int.add_zero, Int.add_assoc]
  · exact ((Below.refl _ _).alloc (Nat.le_refl _) _).trans (hb.mono (by rw [World.size_alloc]; omega))

set_option maxRecDepth 100000 in
set_option maxHeartbeats 800000 in
theorem wsub_any (w : World) (m n : Bool) (s t : ByteArray) (hs : s.size ≤ 100000) (ht : t.size ≤ 100000) (z : Bool) (o : ByteArray) (hz : wf (wv m s - wv n t) = wi z o) :
    Calls Tryz.prog 98 #[wi m s, wi n t] w (Ret (.agg #[.bool z, .string o]) w) := by
  have hz2 : wf (wv m s + wv (!n) t) = wi z o := by rw [wv_not, ← hz, Int.sub_eq_add_neg]
  have HZ := Lib.hid hz2; clear hz hz2
  have hsz : (((w.alloc (Obj.cells #[Value.bool m, Value.string s] 23)).alloc (Obj.cells #[Value.bool (!n), Value.string t] 23)).alloc (Obj.cells #[Value.bool false, Value.string { data := #[] }] 23)).heap.size = w.heap.size + 1 + 1 + 1 := by rw [World.size_alloc, World.size_alloc, World.size_alloc]
  unfold wi
  go_enter Tryz.func98, Tryz.ntmps98
  go_wp2_with fail
  obtain ⟨hA, hB, hC, hb⟩ := blocks3 w #[Value.bool m, Value.string s] #[Value.bool (!n), Value.string t] #[Value.bool false, Value.string { data := #[] }]
  generalize (((w.alloc (Obj.cells #[Value.bool m, Value.string s] 23)).alloc (Obj.cells #[Value.bool (!n), Value.string t] 23)).alloc (Obj.cells #[Value.bool false, Value.string { data := #[] }] 23)) = W0 at *
  have hu := use_wadd2 W0 m (!n) s t hs ht z o HZ.out
  rw [hsz] at hu
  refine hu.mono ?_
  rintro e W ⟨rfl, hq⟩
  replace hb := below_next hb hq
  replace hC := hC.below hq
  obtain ⟨hC0, hC1, hC2, hC3⟩ := hC.facts
  clear hq hA hB hu
  go_wp2
  exact ret_whole rfl rfl (hC.set_ _ _) ⟨rfl, below_set2 hb (by omega) _ _ _ _⟩
end Go.Proofs.YtfgolecbchhokaaGreatDoor
