/- The document's answer for whole numbers: sums and products of rows, powers, walked. -/
import Derived.Test.YtmenngmejehofaaGreatDoorWRef3
import Derived.Test.YtmenngmejehofaaGreatDoorWAdd3
import Derived.Test.YtmenngmejehofaaGreatDoorWMul
import Derived.Deep.RegionWith
namespace Go.Proofs.YtmenngmejehofaaGreatDoor
open Go.RowKit Go.Shelf

/-- Some text for any number. -/
theorem nmw_some (z : Int) : ∃ n s, wf z = wi n s := by
  obtain ⟨n, s, h, _⟩ := nmw (z := z) (k := z.natAbs) (Nat.lt_pow_self (by omega))
  exact ⟨n, s, h⟩
def intR9 : Value → Nat | .int _ n => n.toNat | _ => 0
/-- Between the rounds: what was put together so far stands in the block b. -/
def RO (w wr : World) (b : Nat) (z : Int) (q : Bool) (t : ByteArray) : Prop :=
  wf z = wi q t ∧ wv q t = z ∧ Below w.heap.size w wr ∧ Bk wr b #[.bool q, .string t]
theorem Bk.far2' {W : World} {b r : Nat} {cs : Array Value} (h : Bk W b cs) (hr : b ≠ r) (u v : Value) : Bk ((W.setCell ⟨r, 0, none⟩ u).setCell ⟨r, 1, none⟩ v) b cs := (h.far (p := ⟨r, 0, none⟩) hr u).far (p := ⟨r, 1, none⟩) hr v

set_option maxRecDepth 100000 in
set_option maxHeartbeats 1600000 in
theorem radd_any (w : World) (ad : Option Addr) (l : List IV) (n c : Nat) (hn : l.length = n) (hmax : n ≤ 900) (hs : ∀ x ∈ l, x.2.size ≤ 1000) (hl : IAt w ad l) (z : Bool) (o : ByteArray) (hz : wf (sumI l n) = wi z o) :
    Calls Tryz.prog 28 #[.slice ad n c] w (Ret (.agg #[.bool z, .string o]) w) := by
  have HN := Lib.hid hn; clear hn
  have HZ := Lib.hid hz; clear hz
  go_enter Tryz.func28, Tryz.ntmps28
  go_wp2_with fail
  obtain ⟨hC, hO, hb⟩ := blocks2 w #[Value.bool false, Value.string { data := #[] }] #[Value.bool false, Value.string { data := #[] }]
  generalize ((w.alloc (Obj.cells #[Value.bool false, Value.string { data := #[] }] 23)).alloc (Obj.cells #[Value.bool false, Value.string { data := #[] }] 23)) = W0 at *
  have hR0 : RO w W0 (w.heap.size + 1) (sumI l 0) false ⟨#[]⟩ := ⟨rfl, rfl, hb, hO⟩
  clear hO hb
  generalize hB : w.heap.size + 1 = B at hR0 ⊢
  have hBh : w.heap.size ≤ B ∧ w.heap.size ≠ B := by omega
  clear hB
  go_loopw [4] (fun i wr => ∃ (k : Nat) (q : Bool) (t : ByteArray), k ≤ n ∧ i = .int .i64 k ∧ t.size ≤ 1000 + k ∧ RO w wr B (sumI l k) q t ∧ Bk wr w.heap.size #[Value.bool false, Value.string { data := #[] }]) (fun i _ => n - intR9 i)
  case atStart => exact ⟨0, false, ⟨#[]⟩, Nat.zero_le _, rfl, by decide, hR0, hC⟩
  case round =>
    clear hR0 hC
    obtain ⟨k, q, t, hk, rfl, hts, ⟨ez, vz, hb, hO⟩, hC⟩ := hrel
    by_cases hlt : k < n
    · have hkl : k < l.length := by rw [HN.out]; exact hlt
      obtain ⟨lb, lo, rfl, hlb, hc1, hc2⟩ := hl k hkl
      obtain ⟨m1, s1, hx⟩ : ∃ m s, l[k] = (m, s) := ⟨_, _, rfl⟩
      have hss : s1.size ≤ 1000 := by have := hs l[k] (List.getElem_mem hkl); rw [hx] at this; exact this
      have hp := sumI_succ hkl
      rw [hx] at hc1 hc2 hp
      replace hc1 : wr.cell? ⟨lb, lo + k * 2, none⟩ = some (.bool m1) := by rw [hb.cell hlb]; exact hc1
      replace hc2 : wr.cell? ⟨lb, lo + k * 2 + 1, none⟩ = some (.string s1) := by rw [hb.cell hlb]; exact hc2
      obtain ⟨p, u, eu, vu, su⟩ := plus_nmw q m1 t s1 (k := 1000 + k) hts (by omega)
      have e2 : wf (sumI l (k + 1)) = wi p u := by rw [hp, ← vz, eu]
      have v2 : wv p u = sumI l (k + 1) := by rw [vu, vz, hp]
      have HU := Lib.hid (And.intro eu (And.intro e2 v2))
      clear hx hp eu vu e2 v2 ez vz
      obtain ⟨hO0, hO1, hO2, hO3⟩ := hO.facts
      go_wp2_with fail
      replace hb := hb.drew
      replace hO := hO.drew
      replace hC := hC.drew
      clear hO0 hO1 hO2 hO3
      have hO0 := hO.facts.1
      have hO1 := hO.facts.2.1
      replace hc1 : wr.drew.cell? ⟨lb, lo + k * 2, none⟩ = some (.bool m1) := hc1
      replace hc2 : wr.drew.cell? ⟨lb, lo + k * 2 + 1, none⟩ = some (.string s1) := hc2
      go_region_with (go_at_call 60; refine (rplus_any _ q m1 t s1 (by omega) (by omega) p u HU.out.1).mono ?_; rintro e V ⟨rfl, hq⟩; replace hb := below_next hb hq; replace hC := hC.below hq; replace hO := hO.below hq; obtain ⟨hO4, hO5, hO6, hO7⟩ := hO.facts)
      all_goals
        go_wp2
        go_roundw
        case rel => exact ⟨k + 1, p, u, by omega, by simp, by omega, ⟨HU.out.2.1, HU.out.2.2, below_set2 hb (by omega) _ _ _ _, hO.set_ _ _⟩, hC.far2' (by omega) _ _⟩
        case measure => simp [intR9]; omega
    · have hkn : k = n := by omega
      subst hkn
      obtain ⟨rfl, rfl⟩ := wi_inj (ez.symm.trans HZ.out)
      obtain ⟨hO0, hO1, _, _⟩ := hO.facts
      obtain ⟨hC0, hC1, hC2, hC3⟩ := hC.facts
      clear ez vz
      go_wp2
      exact ret_whole rfl rfl (hC.set_ _ _) ⟨rfl, below_set2 hb (by omega) _ _ _ _⟩

set_option maxRecDepth 100000 in
set_option maxHeartbeats 1600000 in
theorem rmul_any (w : World) (ad : Option Addr) (l : List IV) (n c : Nat) (hn : l.length = n) (hmax : n ≤ 90) (hs : ∀ x ∈ l, x.2.size ≤ 1000) (hl : IAt w ad l) (z : Bool) (o : ByteArray) (hz : wf (prodI l n) = wi z o) :
    Calls Tryz.prog 34 #[.slice ad n c] w (Ret (.agg #[.bool z, .string o]) w) := by
  have HN := Lib.hid hn; clear hn
  have HZ := Lib.hid hz; clear hz
  go_enter Tryz.func34, Tryz.ntmps34
  go_wp2_with fail
  obtain ⟨hC, hb⟩ := blocks1 w #[Value.bool false, Value.string { data := #[] }]
  generalize (w.alloc (Obj.cells #[Value.bool false, Value.string { data := #[] }] 23)) = W0 at *
  refine (rof_any _ 1 (by omega) (by omega) false ⟨#[1]⟩ (by kernel_rfl)).mono ?_
  rintro e W1 ⟨rfl, hq⟩
  replace hb := below_next hb hq
  replace hC := hC.below hq
  skip
  clear hq
  go_wp2_with fail
  obtain ⟨hO, hb2⟩ := blocks1 W1 #[Value.bool false, Value.string { data := #[1] }]
  have hBh : w.heap.size ≤ W1.heap.size ∧ w.heap.size ≠ W1.heap.size := by have := hC.lt; have := hb.size; omega
  replace hb := below_next hb hb2
  replace hC := hC.below hb2
  skip
  have hR0 : RO w _ W1.heap.size (prodI l 0) false ⟨#[1]⟩ := ⟨by (try rw [Int.pow_zero]); kernel_rfl, by (try rw [Int.pow_zero]); kernel_rfl, hb, hO⟩
  clear hb hO hb2
  generalize (W1.alloc (Obj.cells #[Value.bool false, Value.string { data := #[1] }] 23)) = W2 at *
  generalize W1.heap.size = B at *
  go_loopw [4] (fun i wr => ∃ (k : Nat) (q : Bool) (t : ByteArray), k ≤ n ∧ i = .int .i64 k ∧ t.size ≤ 1 + k * 1000 ∧ RO w wr B (prodI l k) q t ∧ Bk wr w.heap.size #[Value.bool false, Value.string { data := #[] }]) (fun i _ => n - intR9 i)
  case atStart => exact ⟨0, false, ⟨#[1]⟩, Nat.zero_le _, rfl, by decide, hR0, hC⟩
  case round =>
    clear hR0 hC
    obtain ⟨k, q, t, hk, rfl, hts, ⟨ez, vz, hb, hO⟩, hC⟩ := hrel
    by_cases hlt : k < n
    · have hkl : k < l.length := by rw [HN.out]; exact hlt
      obtain ⟨lb, lo, rfl, hlb, hc1, hc2⟩ := hl k hkl
      obtain ⟨m1, s1, hx⟩ : ∃ m s, l[k] = (m, s) := ⟨_, _, rfl⟩
      have hss : s1.size ≤ 1000 := by have := hs l[k] (List.getElem_mem hkl); rw [hx] at this; exact this
      have hp := prodI_succ hkl
      rw [hx] at hc1 hc2 hp
      replace hc1 : wr.cell? ⟨lb, lo + k * 2, none⟩ = some (.bool m1) := by rw [hb.cell hlb]; exact hc1
      replace hc2 : wr.cell? ⟨lb, lo + k * 2 + 1, none⟩ = some (.string s1) := by rw [hb.cell hlb]; exact hc2
      obtain ⟨p, u, eu, vu, su⟩ := times_nmw q m1 t s1 (k := 1 + k * 1000) (l := 1000) hts (by omega)
      have e2 : wf (prodI l (k + 1)) = wi p u := by rw [hp, ← vz, eu]
      have v2 : wv p u = prodI l (k + 1) := by rw [vu, vz, hp]
      have HU := Lib.hid (And.intro eu (And.intro e2 v2))
      clear hx hp eu vu e2 v2 ez vz
      obtain ⟨hO0, hO1, hO2, hO3⟩ := hO.facts
      go_wp2_with fail
      replace hb := hb.drew
      replace hO := hO.drew
      replace hC := hC.drew
      clear hO0 hO1 hO2 hO3
      have hO0 := hO.facts.1
      have hO1 := hO.facts.2.1
      replace hc1 : wr.drew.cell? ⟨lb, lo + k * 2, none⟩ = some (.bool m1) := hc1
      replace hc2 : wr.drew.cell? ⟨lb, lo + k * 2 + 1, none⟩ = some (.string s1) := hc2
      go_region_with (go_at_call 64; refine (rtimes_any _ q m1 t s1 (by omega) (by omega) p u HU.out.1).mono ?_; rintro e V ⟨rfl, hq⟩; replace hb := below_next hb hq; replace hC := hC.below hq; replace hO := hO.below hq; obtain ⟨hO4, hO5, hO6, hO7⟩ := hO.facts)
      all_goals
        go_wp2
        go_roundw
        case rel => exact ⟨k + 1, p, u, by omega, by simp, by omega, ⟨HU.out.2.1, HU.out.2.2, below_set2 hb (by omega) _ _ _ _, hO.set_ _ _⟩, hC.far2' (by omega) _ _⟩
        case measure => simp [intR9]; omega
    · have hkn : k = n := by omega
      subst hkn
      obtain ⟨rfl, rfl⟩ := wi_inj (ez.symm.trans HZ.out)
      obtain ⟨hO0, hO1, _, _⟩ := hO.facts
      obtain ⟨hC0, hC1, hC2, hC3⟩ := hC.facts
      clear ez vz
      go_wp2
      exact ret_whole rfl rfl (hC.set_ _ _) ⟨rfl, below_set2 hb (by omega) _ _ _ _⟩

set_option maxRecDepth 100000 in
set_option maxHeartbeats 1600000 in
theorem rpow_any (w : World) (m : Bool) (s : ByteArray) (n : Int) (hs : s.size ≤ 1000) (hn : n ≤ 64) (z : Bool) (o : ByteArray) (hz : wf (wv m s ^ n.toNat) = wi z o) :
    Calls Tryz.prog 36 #[.agg #[.bool m, .string s], .int .i64 n] w (Ret (.agg #[.bool z, .string o]) w) := by
  have HZ := Lib.hid hz; clear hz
  go_enter Tryz.func36, Tryz.ntmps36
  go_wp2_with fail
  obtain ⟨hA, hC, hb⟩ := blocks2 w #[Value.bool m, Value.string s] #[Value.bool false, Value.string { data := #[] }]
  generalize ((w.alloc (Obj.cells #[Value.bool m, Value.string s] 23)).alloc (Obj.cells #[Value.bool false, Value.string { data := #[] }] 23)) = W0 at *
  refine (rof_any _ 1 (by omega) (by omega) false ⟨#[1]⟩ (by kernel_rfl)).mono ?_
  rintro e W1 ⟨rfl, hq⟩
  replace hb := below_next hb hq
  replace hC := hC.below hq
  replace hA := hA.below hq
  clear hq
  go_wp2_with fail
  obtain ⟨hO, hb2⟩ := blocks1 W1 #[Value.bool false, Value.string { data := #[1] }]
  have hBh : w.heap.size ≤ W1.heap.size ∧ w.heap.size ≠ W1.heap.size ∧ w.heap.size + 1 ≠ W1.heap.size := by have := hC.lt; have := hb.size; omega
  replace hb := below_next hb hb2
  replace hC := hC.below hb2
  replace hA := hA.below hb2
  have hR0 : RO w _ W1.heap.size (wv m s ^ 0) false ⟨#[1]⟩ := ⟨by (try rw [Int.pow_zero]); kernel_rfl, by (try rw [Int.pow_zero]); kernel_rfl, hb, hO⟩
  clear hb hO hb2
  generalize (W1.alloc (Obj.cells #[Value.bool false, Value.string { data := #[1] }] 23)) = W2 at *
  generalize W1.heap.size = B at *
  go_loopw [6] (fun i wr => ∃ (k : Nat) (q : Bool) (t : ByteArray), k ≤ n.toNat ∧ i = .int .i64 k ∧ t.size ≤ 1 + k * 1000 ∧ RO w wr B (wv m s ^ k) q t ∧ Bk wr (w.heap.size + 1) #[Value.bool false, Value.string { data := #[] }] ∧ Bk wr w.heap.size #[.bool m, .string s]) (fun i _ => n.toNat - intR9 i)
  case atStart => exact ⟨0, false, ⟨#[1]⟩, Nat.zero_le _, rfl, by decide, hR0, hC, hA⟩
  case round =>
    clear hR0 hC hA
    obtain ⟨k, q, t, hk, rfl, hts, ⟨ez, vz, hb, hO⟩, hC, hA⟩ := hrel
    by_cases hlt : (k : Int) < n
    · have hp : wv m s ^ (k + 1) = wv m s ^ k * wv m s := Int.pow_succ _ _
      obtain ⟨hA0, hA1⟩ := hA.cells
      obtain ⟨p, u, eu, vu, su⟩ := times_nmw q m t s (k := 1 + k * 1000) (l := 1000) hts (by omega)
      have e2 : wf (wv m s ^ (k + 1)) = wi p u := by rw [hp, ← vz, eu]
      have v2 : wv p u = wv m s ^ (k + 1) := by rw [vu, vz, hp]
      have HU := Lib.hid (And.intro eu (And.intro e2 v2))
      clear hp eu vu e2 v2 ez vz
      obtain ⟨hO0, hO1, hO2, hO3⟩ := hO.facts
      go_wp2_with fail
      refine (rtimes_any _ q m t s (by omega) (by omega) p u HU.out.1).mono ?_
      rintro e V ⟨rfl, hq⟩
      replace hb := below_next hb hq; replace hC := hC.below hq; replace hA := hA.below hq; replace hO := hO.below hq
      obtain ⟨hO4, hO5, hO6, hO7⟩ := hO.facts
      all_goals
        go_wp2
        go_roundw
        case rel => exact ⟨k + 1, p, u, by omega, by simp, by omega, ⟨HU.out.2.1, HU.out.2.2, below_set2 hb (by omega) _ _ _ _, hO.set_ _ _⟩, hC.far2' (by omega) _ _, hA.far2' (by omega) _ _⟩
        case measure => simp [intR9]; omega
    · have hkn : k = n.toNat := by omega
      subst hkn
      obtain ⟨rfl, rfl⟩ := wi_inj (ez.symm.trans HZ.out)
      obtain ⟨hO0, hO1, _, _⟩ := hO.facts
      obtain ⟨hC0, hC1, hC2, hC3⟩ := hC.facts
      clear ez vz
      go_wp2
      exact ret_whole rfl rfl (hC.set_ _ _) ⟨rfl, below_set2 hb (by omega) _ _ _ _⟩
end Go.Proofs.YtmenngmejehofaaGreatDoor
