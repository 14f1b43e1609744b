/- The document's sums, products and moves, walked. -/
import Derived.Test.YtemlhloipjbecaaDoorRef7
namespace Go.Proofs.YtemlhloipjbecaaDoor
open Go.RowKit Go.Shelf

theorem plusr_at {w : World} {xd yd : Option Addr} {xc yc xn yn : Nat} {i : Int} {u : Nat} {xs ys : List Nat} (hi : i = (u : Int)) (hx : Bw w xd xc xs) (hy : Bw w yd yc ys) (hxn : xs.length = xn) (hyn : ys.length = yn) (hbx : Bit xs) (hby : Bit ys) (hmx : xn ≤ 100000000) (hmy : yn ≤ 100000000) (hu : u ≤ 100000000) :
    Calls Tryd.prog 52 #[.slice xd xn xc, .slice yd yn yc, .int .i64 i] w fun e w' =>
      ∃ L es, L = max xn (yn + u) + 1 ∧ e = .returned (.slice (some ⟨w.heap.size, 0, none⟩) L L) ∧ Bw w' (some ⟨w.heap.size, 0, none⟩) L es ∧ es.length = L ∧ Bit es ∧ val2 es = val2 xs + val2 ys * 2 ^ u ∧ Below w.heap.size w w' := by
  subst hi
  exact plusr_any w xd yd xc yc xn yn u xs ys hx hy hxn hyn hbx hby hmx hmy hu

set_option maxRecDepth 100000 in
set_option maxHeartbeats 400000 in
theorem ref_mul (w : World) (s t : ByteArray) (hs : s.size ≤ 1000000) (ht : t.size ≤ 1000000) : Calls Tryd.prog 29 #[.string s, .string t] w (Ret (.string (fb (num s * num t))) w) := by
  go_enter Tryd.func29, Tryd.ntmps29
  go_wp2_with fail
  refine (bits_of_any _ s hs).mono ?_
  rintro e w1 ⟨ad, c, xs, rfl, hbw, hbx, _, hvx, hlx, hb⟩
  go_wp2_with fail
  refine (bits_of_any _ t ht).mono ?_
  rintro e w2 ⟨bd, d, ys, rfl, hyw, hby, _, hvy, hly, hb2⟩
  have hxw := hbw.below hb2
  replace hb := below_trans hb hb2; clear hb2 hbw
  have HV := Lib.hid (And.intro hvx hvy); clear hvx hvy
  go_wp2
  go_loopw [7, 8] (fun v i wr => ∃ (k : Nat) (od : Option Addr) (oc : Nat) (os : List Nat), k ≤ xs.length ∧ i = .int .i64 k ∧ v = .slice od os.length oc ∧ Bw wr od oc os ∧ Bit os ∧ val2 os = val2 (xs.take k) * val2 ys ∧ os.length ≤ ys.length + 2 * k ∧ Below w2.heap.size w2 wr) (fun _ i _ => xs.length - intN i)
  case atStart => exact ⟨0, none, 0, [], Nat.zero_le _, rfl, rfl, Bw.nil _, Bit.nil, by simp [val2], by simp, Below.refl _ _⟩
  case round =>
    obtain ⟨k, od, oc, os, hk, rfl, rfl, how, hbo, hvo, hlo, hb2⟩ := hrel
    have HO := Lib.hid (And.intro hvo hlo); clear hvo hlo
    have hom : os.length ≤ 100000000 := by have := HO.out.2; omega
    by_cases hlt : k < xs.length
    · have hxw' := hxw.below hb2
      have hyw' := hyw.below hb2
      obtain ⟨bb, off, rfl, hbl, hcx⟩ := hxw'.cell k hlt
      obtain ⟨b, hbb⟩ : ∃ b, b = xs[k] := ⟨_, rfl⟩
      have hb2' : b < 2 := by rw [hbb]; exact hbx.get hlt
      have hg : xs.getD k 0 = b := by rw [hbb]; simp [hlt]
      rw [← hbb] at hcx
      unfold bv at hcx
      have HG := Lib.hid hg; clear hg hbb
      by_cases h1 : b = 1
      · subst h1
        go_wp2_with fail
        refine (plusr_at (u := k) rfl how hyw' rfl rfl hbo hby hom (by omega) (by omega)).mono ?_
        rintro e w3 ⟨L, ps, hL, rfl, hpw, hpl, hbp, hvp, hb3⟩
        have hb4 := below_trans hb2 hb3
        have HP := Lib.hid (And.intro hL (And.intro hpl hvp)); clear hL hvp
        clear hxw' hyw' how hb2 hb3
        go_wp2
        go_roundw
        case rel =>
          refine ⟨k + 1, some ⟨_, 0, none⟩, L, ps, by omega, by simp, by rw [hpl], hpw, hbp, ?_, ?_, hb4⟩
          · rw [HP.out.2.2, HO.out.1, val2_take_succ, HG.out, Nat.mul_one, Nat.add_mul, Nat.mul_comm (val2 ys)]
          · have := HO.out.2
            rw [HP.out.2.1, HP.out.1]
            omega
        case measure => simp [intN]; omega
      · obtain rfl : b = 0 := by omega
        clear hxw' hyw'
        go_wp2
        go_roundw
        case rel => exact ⟨k + 1, od, oc, os, by omega, by simp, rfl, how, hbo, by rw [val2_take_succ, HG.out, Nat.mul_zero, Nat.add_zero]; exact HO.out.1, by have := HO.out.2; omega, hb2⟩
        case measure => simp [intN]; omega
    · go_wp2_with fail
      refine (textr_any _ od oc os.length os how rfl hbo hom).mono ?_
      rintro e w4 ⟨rfl, hb3⟩
      have hv : val2 os = num s * num t := by
        have h := HO.out.1
        rw [List.take_of_length_le (by omega), HV.out.1, HV.out.2] at h
        exact h
      have HF := Lib.hid hv; clear hv
      go_wp2
      go_ret
      exact ⟨by rw [← HF.out]; rfl, below_trans (below_trans hb hb2) hb3⟩

set_option maxRecDepth 100000 in
set_option maxHeartbeats 400000 in
theorem ref_add (w : World) (ad : Option Addr) (l : List ByteArray) (n c : Nat) (hn : l.length = n) (hmax : n ≤ 1000000) (hs : ∀ s ∈ l, s.size ≤ 1000000)
    (hcell : ∀ i (h : i < l.length), ∃ lb lo, ad = some ⟨lb, lo, none⟩ ∧ lb < w.heap.size ∧ w.cell? ⟨lb, lo + i, none⟩ = some (.string l[i])) :
    Calls Tryd.prog 27 #[.slice ad n c] w (Ret (.string (fb (sumTo l n))) w) := by
  have HN := Lib.hid hn; clear hn
  have HC := Lib.hid hcell; clear hcell
  go_enter Tryd.func27, Tryd.ntmps27
  go_wp2
  go_loopw [3, 4] (fun v i wr => ∃ (k : Nat) (od : Option Addr) (oc : Nat) (os : List Nat), k ≤ n ∧ i = .int .i64 k ∧ v = .slice od os.length oc ∧ Bw wr od oc os ∧ Bit os ∧ val2 os = sumTo l k ∧ os.length ≤ 8000000 + k ∧ Below w.heap.size w wr) (fun _ i _ => n - intN i)
  case atStart => exact ⟨0, none, 0, [], Nat.zero_le _, rfl, rfl, Bw.nil _, Bit.nil, rfl, by simp, Below.refl _ _⟩
  case round =>
    obtain ⟨k, od, oc, os, hk, rfl, rfl, how, hbo, hvo, hlo, hb⟩ := hrel
    have HO := Lib.hid (And.intro hvo hlo); clear hvo hlo
    have hom : os.length ≤ 100000000 := by have := HO.out.2; omega
    by_cases hlt : k < n
    · have hkl : k < l.length := by rw [HN.out]; exact hlt
      obtain ⟨lb, lo, rfl, hlb, hcl⟩ := HC.out k hkl
      have hcw : wr.cell? ⟨lb, lo + k, none⟩ = some (.string l[k]) := by rw [hb.cell hlb]; exact hcl
      obtain ⟨s, hs'⟩ : ∃ s, s = l[k] := ⟨_, rfl⟩
      have hss : s.size ≤ 1000000 := by rw [hs']; exact hs _ (List.getElem_mem hkl)
      have hsu := sumTo_succ hkl
      rw [← hs'] at hcw hsu
      clear hs' hcl
      have HS := Lib.hid hsu; clear hsu
      go_wp2_with fail
      refine (bits_of_any _ s hss).mono ?_
      rintro e w2 ⟨bd, d, ys, rfl, hyw, hby, _, hvy, hly, hb2⟩
      have how' := how.below hb2
      replace hb := below_trans hb hb2; clear hb2 how
      go_wp2_with fail
      refine (plusr_at (u := 0) rfl how' hyw rfl rfl hbo hby hom (by omega) (by omega)).mono ?_
      rintro e w3 ⟨L, ps, hL, rfl, hpw, hpl, hbp, hvp, hb3⟩
      have hb4 := below_trans hb hb3
      have HP := Lib.hid (And.intro hL (And.intro hpl (And.intro hvp (And.intro hvy hly)))); clear hL hvp hvy hly
      clear how' hyw hb hb3
      go_wp2
      go_roundw
      case rel =>
        refine ⟨k + 1, some ⟨_, 0, none⟩, L, ps, by omega, by simp, by rw [hpl], hpw, hbp, ?_, ?_, hb4⟩
        · rw [HP.out.2.2.1, HO.out.1, HP.out.2.2.2.1, HS.out, Nat.pow_zero, Nat.mul_one]
        · have h1 := HO.out.2
          have h2 := HP.out.2.2.2.2
          rw [HP.out.2.1, HP.out.1]
          omega
      case measure => simp [intN]; omega
    · obtain rfl : k = n := by omega
      go_wp2_with fail
      refine (textr_any _ od oc os.length os how rfl hbo hom).mono ?_
      rintro e w4 ⟨rfl, hb3⟩
      go_wp2
      go_ret
      exact ⟨by rw [← HO.out.1]; rfl, below_trans hb hb3⟩

theorem ref_shl (w : World) (s : ByteArray) (n : Int) (hs : s.size ≤ 1000000) (hn : n ≤ 10000000) : Calls Tryd.prog 33 #[.string s, .int .i64 n] w (Ret (.string (fb (shlN (num s) n))) w) := by
  obtain ⟨u, hu, hv⟩ : ∃ u : Nat, max n 0 = (u : Int) ∧ shlN (num s) n = num s * 2 ^ u := by
    unfold shlN
    by_cases h : n < 0
    · exact ⟨0, by omega, by rw [if_pos h]; simp⟩
    · exact ⟨n.toNat, by omega, by rw [if_neg h]⟩
  have hu2 : u ≤ 10000000 := by omega
  have HV := Lib.hid hv; clear hv
  go_enter Tryd.func33, Tryd.ntmps33
  go_wp2_with fail
  refine (bits_of_any _ s hs).mono ?_
  rintro e w2 ⟨bd, d, ys, rfl, hyw, hby, _, hvy, hly, hb⟩
  go_wp2_with fail
  refine (plusr_at (u := u) rfl (Bw.nil _) hyw rfl rfl Bit.nil hby (by simp) (by omega) (by omega)).mono ?_
  rintro e w3 ⟨L, ps, hL, rfl, hpw, hpl, hbp, hvp, hb3⟩
  have hLm : L ≤ 100000000 := by rw [hL]; simp; omega
  have HP := Lib.hid (And.intro hvp hvy); clear hL hvp hvy
  go_wp2_with fail
  refine (textr_any _ _ L L ps hpw hpl hbp hLm).mono ?_
  rintro e w4 ⟨rfl, hb4⟩
  go_wp2
  go_ret
  refine ⟨?_, below_trans (below_trans hb hb3) hb4⟩
  have h := HP.out.1
  rw [HP.out.2, show val2 [] = 0 from rfl, Nat.zero_add] at h
  rw [HV.out, ← h]
  rfl

/-- From a place on. -/
theorem Bw.drop {w : World} {b off c : Nat} {bs : List Nat} (h : Bw w (some ⟨b, off, none⟩) c bs) (hlt : b < w.heap.size) (k : Nat) (hk : k ≤ bs.length) : Bw w (some ⟨b, off + k, none⟩) (c - k) (bs.drop k) := by
  have hle := h.le
  refine ⟨by rw [List.length_drop]; omega, by have := h.max; omega, .inr ⟨b, off + k, rfl, hlt⟩, fun i hi => ⟨b, off + k, rfl, hlt, ?_⟩⟩
  rw [List.length_drop] at hi
  obtain ⟨b', off', e, _, hc⟩ := h.cell (k + i) (by omega)
  simp only [Option.some.injEq, Addr.mk.injEq] at e
  obtain ⟨rfl, rfl, _⟩ := e
  rw [Nat.add_assoc, List.getElem_drop]
  exact hc
end Go.Proofs.YtemlhloipjbecaaDoor
