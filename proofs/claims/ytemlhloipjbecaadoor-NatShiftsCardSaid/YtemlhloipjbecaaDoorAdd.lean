/- The sum of any texts, walked. -/
import Derived.Test.YtemlhloipjbecaaDoorRoom
namespace Go.Proofs.YtemlhloipjbecaaDoor
open Go.RowKit Go.Shelf

theorem Own64.none {w : World} {g cap : Nat} {ds : List Nat} (h : Own64 w g cap ds) : Own64 w g cap [] := by
  obtain ⟨T, L, h, _, h2, h3, _⟩ := h
  exact ⟨T, L, h, Nat.zero_le _, h2, h3, by simp⟩
/-- What the first k are together. -/
def sumTo (l : List ByteArray) (k : Nat) : Nat := ((l.take k).map num).sum
theorem sumTo_succ {l : List ByteArray} {k : Nat} (h : k < l.length) : sumTo l (k + 1) = sumTo l k + num l[k] := by
  unfold sumTo
  rw [List.take_succ_eq_append_getElem h, List.map_append, List.sum_append]
  show _ + (num l[k] + 0) = _
  rw [Nat.add_zero]
theorem Two.drewN {w W : World} {g1 cap1 g2 cap2 : Nat} {xs ys : List Nat} (h : Two w W g1 cap1 xs g2 cap2 ys) (k : Nat) : Two w (W.drewN k) g1 cap1 xs g2 cap2 ys :=
  ⟨h.1, h.2.1, h.2.2.1, h.2.2.2.1, h.2.2.2.2.1, below_drewN h.2.2.2.2.2 k⟩
def intA : Value → Nat | .int _ n => n.toNat | _ => 0
/-- Between the rounds of Add. -/
def AD (w wr : World) (l : List ByteArray) (k g1 cap1 : Nat) (xs : List Nat) (g2 cap2 : Nat) (ys : List Nat) : Prop :=
  Two w wr g1 cap1 xs g2 cap2 ys ∧ Dig xs ∧ val xs = sumTo l k ∧ xs.length ≤ 1000000 + k

set_option maxRecDepth 100000 in
set_option maxHeartbeats 800000 in
theorem add_any (w : World) (ad : Option Addr) (l : List ByteArray) (n c : Nat) (hn : l.length = n) (hmax : n ≤ 1000000) (hs : ∀ s ∈ l, s.size ≤ 1000000)
    (hcell : ∀ i (h : i < l.length), ∃ lb lo, ad = some ⟨lb, lo, none⟩ ∧ lb < w.heap.size ∧ w.cell? ⟨lb, lo + i, none⟩ = some (.string l[i])) :
    Calls Tryd.prog 26 #[.slice ad n c] w fun e w' => e = .returned (.string (fb (sumTo l n))) ∧ Below w.heap.size w w' := by
  have HN := Lib.hid hn; clear hn
  have HC := Lib.hid hcell; clear hcell
  go_enter Tryd.func26, Tryd.ntmps26
  go_wp2
  go_quiet (fail)
  go_wp2
  have hT := rooms_two w
  have hAD : AD w _ l 0 w.heap.size 16 [] (w.heap.size + 1) 16 [] := ⟨hT.drewN nq, Dig.nil, rfl, by simp⟩
  unfold roomZ at hAD
  clear hT
  go_loopw [5, 6, 13] (fun s x i wr => ∃ (k g1 cap1 : Nat) (xs : List Nat) (g2 cap2 : Nat) (ys : List Nat), k ≤ n ∧ s = .slice (some ⟨g1, 0, none⟩) xs.length cap1 ∧ x = .slice (some ⟨g2, 0, none⟩) ys.length cap2 ∧ i = .int .i64 k ∧ AD w wr l k g1 cap1 xs g2 cap2 ys)
    (fun _ _ i _ => n - intA i)
  case atStart => exact ⟨0, _, 16, [], _, 16, [], Nat.zero_le _, rfl, rfl, rfl, hAD⟩
  case round =>
    clear hAD
    obtain ⟨k, g1, cap1, xs, g2, cap2, ys, hk, rfl, rfl, rfl, hAD⟩ := hrel
    obtain ⟨hT, hdx, hvx, hlx⟩ := hAD
    have HV := Lib.hid (And.intro hdx hvx); clear hdx hvx
    by_cases hlt : k < n
    · have hkl : k < l.length := by rw [HN.out]; exact hlt
      obtain ⟨lb, lo, rfl, hlb, hcl⟩ := HC.out k hkl
      have hcw : wr.cell? ⟨lb, lo + k, none⟩ = some (.string l[k]) := by rw [hT.2.2.2.2.2.cell hlb]; exact hcl
      obtain ⟨s, hs'⟩ : ∃ s, s = l[k] := ⟨_, rfl⟩
      have hss : s.size ≤ 1000000 := by rw [hs']; exact hs _ (List.getElem_mem hkl)
      have hsu := sumTo_succ hkl
      rw [← hs'] at hcw hsu
      clear hs' hcl
      have HS := Lib.hid hsu; clear hsu
      have hc2 : cap2 ≤ maxLen := hT.2.1.max
      go_wp2_with fail
      refine (read_any _ g2 cap2 s hT.2.1.none (by omega)).mono ?_
      rintro e w1 ⟨g3, cap3, zs, rfl, hO, hg, ha, hdz, hvz, _, hlz⟩
      have hT1 := hT.second hO hg ha
      clear hT hO hg ha
      go_wp2_with fail
      refine (plus_any _ g1 cap1 xs.length g3 zs.length cap3 xs zs hT1.1 rfl hT1.2.1.ds rfl (Ne.symm hT1.2.2.1) hT1.2.1.lt HV.out.1 hdz (by omega) (by omega)).mono ?_
      rintro e w2 ⟨g4, cap4, es, rfl, hO, hg, ha, hde, hve, hle⟩
      have hT2 := hT1.first hO hg ha
      clear hT1 hO hg ha
      have hAD2 : AD w w2 l (k + 1) g4 cap4 es g3 cap3 zs := ⟨hT2, hde, by rw [hve, hvz, HV.out.2, HS.out], by omega⟩
      clear hT2 hde hve HV
      go_wp2
      go_roundw
      case rel => exact ⟨k + 1, g4, cap4, es, g3, cap3, zs, by omega, rfl, rfl, by simp, hAD2⟩
      case measure => simp [intA]; omega
    · have hkn : k = n := by omega
      go_wp2_with fail
      refine (text_any _ g1 0 cap1 _ xs hT.1.ds rfl HV.out.1 (by omega) hT.1.le hT.1.max).mono ?_
      rintro e w4 ⟨rfl, hb4⟩
      go_wp2
      go_ret
      exact ⟨by rw [HV.out.2, hkn]; rfl, hT.2.2.2.2.2.trans (hb4.mono hT.2.2.2.2.2.size)⟩
end Go.Proofs.YtemlhloipjbecaaDoor
