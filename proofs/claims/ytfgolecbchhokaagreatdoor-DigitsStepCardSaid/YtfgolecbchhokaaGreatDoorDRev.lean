/- slices.Reverse at a row of Ints, walked. -/
import Derived.Test.YtfgolecbchhokaaGreatDoorDScale
namespace Go.Proofs.YtfgolecbchhokaaGreatDoor
open Go.RowKit Go.Shelf

theorem icells_set : ∀ (l : List IV) (i : Nat) (x : IV), icells (l.set i x) = ((icells l).set (i * 2) (.bool x.1)).set (i * 2 + 1) (.string x.2)
  | [], i, x => by simp [icells]
  | y :: l, 0, x => rfl
  | y :: l, i + 1, x => by
    rw [List.set_cons_succ, icells, icells, icells_set l i x, show (i + 1) * 2 = i * 2 + 1 + 1 by omega]
    rfl
theorem ownsRow_seti {W : World} {B g n cap i : Nat} {m : List IV} (h : W.ownsRow B 23 2 (.slice (some ⟨g, 0, none⟩) n cap) n (icells m)) (x : IV) :
    ((W.setCell ⟨g, i * 2, none⟩ (.bool x.1)).setCell ⟨g, i * 2 + 1, none⟩ (.string x.2)).ownsRow B 23 2 (.slice (some ⟨g, 0, none⟩) n cap) n (icells (m.set i x)) := by
  have h1 := h.1
  rw [icells_len] at h1
  refine ⟨by rw [icells_len, List.length_set]; omega, ?_⟩
  rcases h.2 with ⟨h0, _⟩ | ⟨g', cap', cur, e, hB, hg, hc, hm, hs, ht⟩
  · cases h0
  · simp only [Value.slice.injEq, Option.some.injEq, Addr.mk.injEq, and_true, true_and] at e
    obtain ⟨rfl, rfl⟩ := e
    refine .inr ⟨g, cap, (cur.setIfInBounds (i * 2) (.bool x.1)).setIfInBounds (i * 2 + 1) (.string x.2), rfl, hB, ?_, hc, hm, by simp [hs], ?_⟩
    · simp [World.setCell, Array.getElem?_modify, hg]
    · rw [icells_set, ← ht]
      simp [List.take_set]
theorem row_cells {W : World} {B g n cap : Nat} {m : List IV} (h : W.ownsRow B 23 2 (.slice (some ⟨g, 0, none⟩) n cap) n (icells m)) (i : Nat) (hi : i < m.length) :
    W.cell? ⟨g, i * 2, none⟩ = some (.bool m[i].1) ∧ W.cell? ⟨g, i * 2 + 1, none⟩ = some (.string m[i].2) ∧ W.frozen? ⟨g, i * 2, none⟩ = false ∧ W.frozen? ⟨g, i * 2 + 1, none⟩ = false := by
  have hcell := h.cells (g := g) rfl
  have hgt := icells_get m i hi
  have ea : ∀ j : Nat, (⟨g, 0, none⟩ : Addr).add j = ⟨g, j, none⟩ := fun j => by unfold Addr.add; split <;> simp_all
  have h1 := hcell _ _ hgt.1
  have h2 := hcell _ _ hgt.2
  rw [ea] at h1 h2
  rcases h.2 with ⟨h0, _⟩ | ⟨g', cap', cur, e, hB, hg, hc, hm, hs, ht⟩
  · cases h0
  · simp only [Value.slice.injEq, Option.some.injEq, Addr.mk.injEq, and_true, true_and] at e
    obtain ⟨rfl, rfl⟩ := e
    refine ⟨h1, h2, ?_, ?_⟩ <;> simp [World.frozen?, hg]
def intRv : Value → Nat | .int _ n => n.toNat | _ => 0
/-- Between the rounds: the first k and the last k are exchanged. -/
def RV (w wr : World) (B g cap : Nat) (l : List IV) (k : Nat) : Prop :=
  ∃ m : List IV, m.length = l.length ∧ wr.ownsRow B 23 2 (.slice (some ⟨g, 0, none⟩) l.length cap) l.length (icells m) ∧ Below B w wr ∧
    (∀ i : Nat, i < l.length → m[i]? = if i < k ∨ l.length ≤ i + k then l[l.length - 1 - i]? else l[i]?)

theorem rv_next {l m : List IV} {k j : Nat} (hm : m.length = l.length) (h : ∀ i : Nat, i < l.length → m[i]? = if i < k ∨ l.length ≤ i + k then l[l.length - 1 - i]? else l[i]?) (hj : j + k + 1 = l.length) (hkj : k < j) (x y : IV) (hx : m[k]? = some x) (hy : m[j]? = some y) :
    ∀ i : Nat, i < l.length → ((m.set k y).set j x)[i]? = if i < k + 1 ∨ l.length ≤ i + (k + 1) then l[l.length - 1 - i]? else l[i]? := by
  intro i hi
  rw [List.getElem?_set, List.getElem?_set]
  have hk1 := h k (by omega)
  have hj1 := h j (by omega)
  rw [if_neg (by omega)] at hk1 hj1
  by_cases h1 : j = i
  · subst h1
    rw [if_pos rfl, if_pos (by rw [List.length_set]; omega), if_pos (by omega), show l.length - 1 - j = k by omega, ← hk1, hx]
  · rw [if_neg h1]
    by_cases h2 : k = i
    · subst h2
      rw [if_pos rfl, if_pos (by omega), if_pos (by omega), show l.length - 1 - k = j by omega, ← hj1, hy]
    · rw [if_neg h2, h i hi]
      by_cases h3 : i < k ∨ l.length ≤ i + k
      · rw [if_pos h3, if_pos (by omega)]
      · rw [if_neg h3, if_neg (by omega)]
theorem rv_end {l m : List IV} {k : Nat} (hm : m.length = l.length) (h : ∀ i : Nat, i < l.length → m[i]? = if i < k ∨ l.length ≤ i + k then l[l.length - 1 - i]? else l[i]?) (hk : l.length ≤ 2 * k + 1) : m = l.reverse := by
  apply List.ext_getElem?
  intro i
  rcases Nat.lt_or_ge i l.length with hi | hi
  · rw [List.getElem?_reverse hi, h i hi]
    by_cases h3 : i < k ∨ l.length ≤ i + k
    · rw [if_pos h3]
    · rw [if_neg h3, show l.length - 1 - i = i by omega]
  · rw [List.getElem?_eq_none (by omega), List.getElem?_eq_none (by rw [List.length_reverse]; omega)]
set_option maxRecDepth 100000 in
set_option maxHeartbeats 1600000 in
theorem reverse_any (w : World) (B g n cap : Nat) (l : List IV) (hn : l.length = n) (hmax : n ≤ 100000) (hrow : w.ownsRow B 23 2 (.slice (some ⟨g, 0, none⟩) n cap) n (icells l)) :
    Calls Tryz.prog 119 #[.slice (some ⟨g, 0, none⟩) n cap] w fun e w' => e = .returned (.tuple #[]) ∧ w'.ownsRow B 23 2 (.slice (some ⟨g, 0, none⟩) n cap) n (icells l.reverse) ∧ Below B w w' := by
  subst hn
  go_enter Tryz.func119, Tryz.ntmps119
  have hR0 : RV w w B g cap l 0 := ⟨l, rfl, hrow, Below.refl _ _, fun i hi => by rw [if_neg (by omega)]⟩
  have hgB : B ≤ g := (hrow.lt g rfl).1
  go_wp2
  go_loopw [2, 3] (fun iv jv wr => ∃ (k : Nat) (jz : Int), iv = .int .i64 k ∧ jv = .int .i64 jz ∧ jz + k + 1 = l.length ∧ k ≤ l.length ∧ RV w wr B g cap l k) (fun iv _ _ => l.length - intRv iv)
  case atStart => exact ⟨0, _, rfl, rfl, by omega, Nat.zero_le _, hR0⟩
  case round =>
    clear hR0 hrow
    obtain ⟨k, jz, rfl, rfl, hjz, hkl, m, hm, hrow, hb, hel⟩ := hrel
    by_cases hlt : (k : Int) < jz
    · obtain ⟨j, rfl⟩ : ∃ j : Nat, jz = (j : Int) := ⟨jz.toNat, by omega⟩
      have hj : j + k + 1 = l.length := by omega
      have hkj : k < j := by omega
      obtain ⟨a0, a1, a2, a3⟩ := row_cells hrow k (by omega)
      obtain ⟨b0, b1, b2, b3⟩ := row_cells hrow j (by omega)
      obtain ⟨x, hx⟩ : ∃ x, m[k] = x := ⟨_, rfl⟩
      obtain ⟨y, hy⟩ : ∃ y, m[j] = y := ⟨_, rfl⟩
      rw [hx] at a0 a1
      rw [hy] at b0 b1
      have hx2 : m[k]? = some x := by rw [List.getElem?_eq_getElem (by omega), hx]
      have hy2 : m[j]? = some y := by rw [List.getElem?_eq_getElem (by omega), hy]
      have hnext := rv_next hm hel hj hkj x y hx2 hy2
      have hr1 := ownsRow_seti (i := k) hrow y
      have hr2 := ownsRow_seti (i := j) hr1 x
      obtain ⟨xn, xs⟩ := x
      obtain ⟨yn, ys⟩ := y
      have HN := Lib.hid (And.intro hnext hr2)
      have hjl : (j : Int) < (l.length : Int) := by omega
      have hkl2 : (k : Int) < (l.length : Int) := by omega
      clear hnext hr1 hr2 hx hy hx2 hy2 hel hrow hjz
      go_wp2_with fail
      go_region
      go_wp2
      go_roundw
      case rel => exact ⟨k + 1, (j : Int) - 1, by simp, rfl, by omega, by omega, _, by rw [List.length_set, List.length_set]; exact hm, HN.out.2, ((below_set2 (below_set2 hb hgB _ _ _ _) hgB _ _ _ _)).drew, HN.out.1⟩
      case measure => simp [intRv]; omega
    · have hend := rv_end hm hel (by omega)
      subst hend
      clear hel hm
      go_wp2
      go_end0
      exact ⟨rfl, hrow, hb⟩
end Go.Proofs.YtfgolecbchhokaaGreatDoor
