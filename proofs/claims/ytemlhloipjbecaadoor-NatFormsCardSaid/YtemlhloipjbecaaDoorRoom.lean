/- A call's room: an array of sixteen digits on the heap, and the row that begins there. -/
import Derived.Test.YtemlhloipjbecaaDoorRead
import Derived.Test.YtemlhloipjbecaaDoorText
import Derived.Test.YtemlhloipjbecaaDoorDivide
namespace Go.Proofs.YtemlhloipjbecaaDoor
open Go.RowKit Go.Shelf

/-- Sixteen noughts. -/
def roomZ : Obj := .cells #[.int .u64 0, .int .u64 0, .int .u64 0, .int .u64 0, .int .u64 0, .int .u64 0, .int .u64 0, .int .u64 0, .int .u64 0, .int .u64 0, .int .u64 0, .int .u64 0, .int .u64 0, .int .u64 0, .int .u64 0, .int .u64 0] 52
theorem room_own (w : World) : Own64 (w.alloc roomZ) w.heap.size 16 [] := by
  have h := Rw.new w 52 ((List.replicate 16 0).map dg)
  exact Own64.empty (L := (List.replicate 16 0).map dg) h (by unfold maxLen; simp)
/-- Two rows that lie in two blocks, both behind what there was in w. -/
def Two (w w2 : World) (g1 cap1 : Nat) (xs : List Nat) (g2 cap2 : Nat) (ys : List Nat) : Prop :=
  Own64 w2 g1 cap1 xs ∧ Own64 w2 g2 cap2 ys ∧ g1 ≠ g2 ∧ w.heap.size ≤ g1 ∧ w.heap.size ≤ g2 ∧ Below w.heap.size w w2
theorem below_grown {B g : Nat} {w w1 w2 : World} (h : Below B w w1) (hB : B ≤ w1.heap.size) (hg : w1.grownBy w2 (some g)) (hgB : B ≤ g) : Below B w w2 :=
  h.grown hg hB (fun k e => by cases e; exact hgB)
/-- Two rooms in one. -/
theorem rooms_two (w : World) : Two w ((w.alloc roomZ).alloc roomZ) w.heap.size 16 [] (w.heap.size + 1) 16 [] := by
  refine ⟨(room_own w).alloc _, ?_, by omega, Nat.le_refl _, by omega, ((Below.refl _ _).alloc (Nat.le_refl _) _).alloc (by rw [World.size_alloc]; omega) _⟩
  have h := room_own (w.alloc roomZ)
  rw [World.size_alloc] at h
  exact h
theorem Two.first {w W w1 : World} {g1 cap1 g2 cap2 g3 cap3 : Nat} {xs ys zs : List Nat} (h : Two w W g1 cap1 xs g2 cap2 ys) (hO : Own64 w1 g3 cap3 zs) (hg : W.grownBy w1 (some g1)) (ha : g3 = g1 ∨ W.heap.size ≤ g3) : Two w w1 g3 cap3 zs g2 cap2 ys := by
  obtain ⟨h1, h2, h3, h4, h5, h6⟩ := h
  have l1 := h1.lt
  have l2 := h2.lt
  have hsz := h6.size
  exact ⟨hO, h2.grown hg (by simp; omega), by omega, by omega, h5, below_grown h6 hsz hg h4⟩
theorem Two.second {w W w1 : World} {g1 cap1 g2 cap2 g3 cap3 : Nat} {xs ys zs : List Nat} (h : Two w W g1 cap1 xs g2 cap2 ys) (hO : Own64 w1 g3 cap3 zs) (hg : W.grownBy w1 (some g2)) (ha : g3 = g2 ∨ W.heap.size ≤ g3) : Two w w1 g1 cap1 xs g3 cap3 zs := by
  obtain ⟨h1, h2, h3, h4, h5, h6⟩ := h
  have l1 := h1.lt
  have l2 := h2.lt
  have hsz := h6.size
  exact ⟨h1.grown hg (by simp; omega), hO, by omega, h4, by omega, below_grown h6 hsz hg h5⟩
/-- No 0 at the top. -/
def Top (ds : List Nat) : Prop := ds = [] ∨ ∃ l d, ds = l ++ [d] ∧ d ≠ 0
theorem Top.ge {ds : List Nat} (h : Top ds) (hn : ds ≠ []) : B64 ^ (ds.length - 1) ≤ val ds := by
  rcases h with h | ⟨l, d, rfl, hd⟩
  · exact absurd h hn
  · rw [val_snoc]
    simp
    have : B64 ^ l.length * 1 ≤ B64 ^ l.length * d := Nat.mul_le_mul_left _ (by omega)
    omega
theorem Top.length_le {xs ys : List Nat} (hx : Dig xs) (hy : Top ys) (h : val ys ≤ val xs) : ys.length ≤ xs.length := by
  by_cases hn : ys = []
  · subst hn; simp
  have h1 := hy.ge hn
  have h2 := val_lt hx
  have h3 : B64 ^ (ys.length - 1) < B64 ^ xs.length := by omega
  have := (Nat.pow_lt_pow_iff_right (by unfold B64; omega : 1 < B64)).1 h3
  omega
theorem minus_zero {e y x B o : Nat} (h : e + 1 * y = x + B * o) (he : e < B) (hy : y ≤ x) : e = x - y := by
  have : o = 0 := by
    cases o with
    | zero => rfl
    | succ o => rw [Nat.mul_succ] at h; omega
  subst this
  omega

set_option maxRecDepth 100000 in
set_option maxHeartbeats 800000 in
theorem sub_any (w : World) (s t : ByteArray) (hs : s.size ≤ 1000000000) (ht : t.size ≤ 1000000000) :
    Calls Tryd.prog 22 #[.string s, .string t] w fun e w' =>
      e = .returned (.tuple #[.string (fb (num s - num t)), .bool (decide (num t ≤ num s))]) ∧ Below w.heap.size w w' := by
  go_enter Tryd.func22, Tryd.ntmps22
  go_wp2_with fail
  refine (cmp_any _ s t).mono ?_
  rintro e w' ⟨rfl, rfl⟩
  by_cases h : num s < num t
  · have hc : decide (cmpN (num s) (num t) < 0) = true := by unfold cmpN; rw [if_pos h]; decide
    have hd : num s - num t = 0 := by omega
    have hl : decide (num t ≤ num s) = false := by simp; omega
    have HD := Lib.hid (And.intro hd hl); clear hd hl h
    go_wp2
    go_ret2
    exact ⟨by rw [HD.out.1, HD.out.2]; rfl, Below.refl _ _⟩
  · have hc : decide (cmpN (num s) (num t) < 0) = false := by unfold cmpN; rw [if_neg h]; split <;> simp
    have HH := Lib.hid h; clear h
    go_wp2_with fail
    have hT := rooms_two w
    unfold roomZ at hT
    refine (read_any _ w.heap.size 16 s hT.1 hs).mono ?_
    rintro e w1 ⟨g1, cap1, xs, rfl, hO, hg, ha, hdx, hvx, htx, hlx⟩
    have hT1 := hT.first hO hg ha
    clear hT hO hg ha
    go_wp2_with fail
    refine (read_any _ (w.heap.size + 1) 16 t hT1.2.1 ht).mono ?_
    rintro e w2 ⟨g2, cap2, ys, rfl, hO, hg, ha, hdy, hvy, hty, hly⟩
    have hT2 := hT1.second hO hg ha
    clear hT1 hO hg ha
    obtain ⟨t1, t2, t3, t4, t5, t6⟩ := hT2
    have hm : num t ≤ num s := by have := HH.out; omega
    obtain ⟨T, post, hR, hcp, hcm⟩ := t1.parts
    have HC := Lib.hid (And.intro hcp hcm); clear hcp hcm
    go_wp2_with fail
    refine (minusTimes_at (n := 1) rfl rfl hR rfl t2.ds t3.symm hdx hdy (by unfold B64; omega) (Top.length_le hdx hty (by omega)) (by omega)).mono ?_
    rintro e w3 ⟨es, o, rfl, hR3, hg3, hel, hde, _, hval⟩
    have hve : val es = num s - num t := by rw [← hvx, ← hvy]; exact minus_zero hval (by rw [← hel]; exact val_lt hde) (by omega)
    have hds : Ds w3 g1 0 es := Rw.ds hR3 rfl
    have hb3 := below_grown t6 t6.size hg3 t4
    go_wp2_with fail
    refine (text_any _ g1 0 cap1 _ es hds hel hde (by omega) (by rw [HC.out.1]; omega) HC.out.2).mono ?_
    rintro e w4 ⟨rfl, hb4⟩
    have hl : decide (num t ≤ num s) = true := by simp; omega
    go_wp2
    go_ret2
    exact ⟨by rw [hl]; rfl, hb3.trans (hb4.mono hb3.size)⟩
end Go.Proofs.YtemlhloipjbecaaDoor
