/- Package whole: Mul, walked. -/
import Derived.Test.YtfgolecbchhokaaGreatDoorW2
import Derived.Test.YtfgolecbchhokaaGreatDoorWRow
namespace Go.Proofs.YtfgolecbchhokaaGreatDoor
open Go.RowKit Go.Shelf

/-- What the first k are, multiplied. -/
def prodI (l : List IV) (k : Nat) : Int := ((l.take k).map fun x => wv x.1 x.2).foldl (· * ·) 1
theorem prodI_succ {l : List IV} {k : Nat} (h : k < l.length) : prodI l (k + 1) = prodI l k * wv l[k].1 l[k].2 := by
  unfold prodI
  rw [List.take_succ_eq_append_getElem h, List.map_append, List.foldl_append]
  rfl
theorem prodI_zero (l : List IV) : prodI l 0 = 1 := rfl
/-- Between the rounds of Mul: after k + 1 of them. -/
def MUL (w wr : World) (l : List IV) (k : Nat) (n : Bool) (s : ByteArray) : Prop :=
  wv n s = prodI l (k + 1) ∧ (0 < k → ∃ m, fb m = s) ∧ s.size ≤ (k + 1) * 100000 ∧ Below w.heap.size w wr ∧ Bk wr w.heap.size #[.bool false, .string ⟨#[]⟩]
def intP : Value → Nat | .int _ n => n.toNat | _ => 0

set_option maxRecDepth 100000 in
set_option maxHeartbeats 400000 in
theorem wmul_none (w : World) (ad : Option Addr) (c : Nat) (z : Bool) (o : ByteArray) (hz : wf 1 = wi z o) :
    Calls Tryz.prog 25 #[.slice ad 0 c] w (Ret (.agg #[.bool z, .string o]) w) := by
  have HZ := Lib.hid hz; clear hz
  go_enter Tryz.func25, Tryz.ntmps25
  go_wp2_with fail
  obtain ⟨hC, hb⟩ := blocks1 w #[Value.bool false, Value.string { data := #[] }]
  generalize (w.alloc (Obj.cells #[Value.bool false, Value.string { data := #[] }] 23)) = W0 at *
  refine (wof_any _ 1 (by omega) (by omega) z o HZ.out).mono ?_
  rintro e W1 ⟨rfl, hq⟩
  replace hb := below_next hb hq
  replace hC := hC.below hq
  obtain ⟨hC0, hC1, hC2, hC3⟩ := hC.facts
  clear hq
  go_wp2
  exact ret_whole rfl rfl (hC.set_ _ _) ⟨rfl, below_set2 hb (by omega) _ _ _ _⟩

set_option maxRecDepth 100000 in
set_option maxHeartbeats 400000 in
theorem wmul_one (w : World) (b off : Nat) (c : Nat) (m : Bool) (s : ByteArray) (hs : s.size ≤ 100000) (hc1 : w.cell? ⟨b, off, none⟩ = some (.bool m)) (hc2 : w.cell? ⟨b, off + 1, none⟩ = some (.string s))
    (z : Bool) (o : ByteArray) (hz : wf (wv m s) = wi z o) :
    Calls Tryz.prog 25 #[.slice (some ⟨b, off, none⟩) 1 c] w (Ret (.agg #[.bool z, .string o]) w) := by
  have HZ := Lib.hid hz; clear hz
  have hn1 := cell_past hc1 (Obj.cells #[Value.bool false, Value.string { data := #[] }] 23)
  have hn2 := cell_past hc2 (Obj.cells #[Value.bool false, Value.string { data := #[] }] 23)
  go_enter Tryz.func25, Tryz.ntmps25
  go_wp2_with fail
  obtain ⟨hC, hb⟩ := blocks1 w #[Value.bool false, Value.string { data := #[] }]
  generalize (w.alloc (Obj.cells #[Value.bool false, Value.string { data := #[] }] 23)) = W0 at *
  refine (wform_any _ m s (by omega) z o HZ.out).mono ?_
  rintro e W1 ⟨rfl, hq⟩
  replace hb := below_next hb hq
  replace hC := hC.below hq
  obtain ⟨hC0, hC1, hC2, hC3⟩ := hC.facts
  clear hq
  go_wp2
  exact ret_whole rfl rfl (hC.set_ _ _) ⟨rfl, below_set2 hb (by omega) _ _ _ _⟩

set_option maxRecDepth 100000 in
set_option maxHeartbeats 400000 in
theorem wmul_any (w : World) (b off : Nat) (l : List IV) (n c : Nat) (hn : l.length = n) (hc : n ≤ c) (h2 : 2 ≤ n) (hmax : n ≤ 900) (hs : ∀ x ∈ l, x.2.size ≤ 100000) (hl : IAt w (some ⟨b, off, none⟩) l)
    (z : Bool) (o : ByteArray) (hz : wf (prodI l n) = wi z o) :
    Calls Tryz.prog 25 #[.slice (some ⟨b, off, none⟩) n c] w (Ret (.agg #[.bool z, .string o]) w) := by
  have HN := Lib.hid hn; clear hn
  have hkl : 0 < l.length := by rw [HN.out]; omega
  obtain ⟨lb, lo, hae, hlb, hc1, hc2⟩ := hl 0 hkl
  obtain ⟨rfl, rfl⟩ : b = lb ∧ off = lo := by simpa using hae
  clear hae
  obtain ⟨m, s, hx⟩ : ∃ m s, l[0] = (m, s) := ⟨_, _, rfl⟩
  have hss : s.size ≤ 100000 := by have := hs l[0] (List.getElem_mem hkl); rw [hx] at this; exact this
  have hp : prodI l 1 = wv m s := by rw [prodI_succ hkl, prodI_zero, hx, Int.one_mul]
  rw [hx] at hc1 hc2
  rw [Nat.zero_mul, Nat.add_zero] at hc1 hc2
  have hp2 := hp.symm
  clear hx hp
  go_enter Tryz.func25, Tryz.ntmps25
  go_wp2_with fail
  obtain ⟨hC, hb⟩ := blocks1 w #[Value.bool false, Value.string { data := #[] }]
  generalize (w.alloc (Obj.cells #[Value.bool false, Value.string { data := #[] }] 23)) = W0 at *
  have hlb0 : b < W0.heap.size := Nat.lt_of_lt_of_le hlb hb.size
  replace hc1 : W0.cell? ⟨b, off, none⟩ = some (.bool m) := by rw [hb.cell hlb]; exact hc1
  replace hc2 : W0.cell? ⟨b, off + 1, none⟩ = some (.string s) := by rw [hb.cell hlb]; exact hc2
  go_region
  go_wp2_with fail
  have hM0 : MUL w W0.drew l 0 m s := ⟨hp2, fun h => by omega, by omega, hb.drew, hC.drew⟩
  clear hb hp2 hC hc1 hc2 hss
  go_loopw [3, 4, 29] (fun nv sv i wr => ∃ (k : Nat) (q : Bool) (t : ByteArray), k ≤ n - 1 ∧ nv = .bool q ∧ sv = .string t ∧ i = .int .i64 k ∧ MUL w wr l k q t)
    (fun _ _ i _ => n - intP i)
  case atStart => exact ⟨0, m, s, Nat.zero_le _, rfl, rfl, rfl, hM0⟩
  case round =>
    clear hM0
    obtain ⟨k, q, t, hk, rfl, rfl, rfl, hM1⟩ := hrel
    obtain ⟨hv, hf, hsz, hb, hC⟩ := hM1
    have HV := Lib.hid hv; clear hv
    by_cases hlt : k < n - 1
    · have hkl1 : k + 1 < l.length := by rw [HN.out]; omega
      obtain ⟨lb, lo, hae, _, hc1, hc2⟩ := hl (k + 1) hkl1
      obtain ⟨rfl, rfl⟩ : b = lb ∧ off = lo := by simpa using hae
      clear hae
      obtain ⟨m1, s1, hx⟩ : ∃ m s, l[k + 1] = (m, s) := ⟨_, _, rfl⟩
      have hss : s1.size ≤ 100000 := by have := hs l[k + 1] (List.getElem_mem hkl1); rw [hx] at this; exact this
      have hp := prodI_succ hkl1
      rw [hx] at hc1 hc2 hp
      rw [show off + (k + 1) * 2 = off + 2 + k * 2 by omega] at hc1 hc2
      replace hc1 : wr.cell? ⟨b, off + 2 + k * 2, none⟩ = some (.bool m1) := by rw [hb.cell hlb]; exact hc1
      replace hc2 : wr.cell? ⟨b, off + 2 + k * 2 + 1, none⟩ = some (.string s1) := by rw [hb.cell hlb]; exact hc2
      have HP := Lib.hid hp; clear hp hx
      obtain ⟨r, hr⟩ : ∃ r, fb (num t * num s1) = r := ⟨_, rfl⟩
      have hrs : r.size ≤ (k + 1 + 1) * 100000 := by
        rw [← hr]
        have := fb_size_le (lt_mul (num_lt t) (num_lt s1))
        omega
      have hrv : wv (q != m1) r = prodI l (k + 1 + 1) := by rw [HP.out, ← HV.out, ← hr, sI_fb, wv_sI, wv_sI, sI_mul]
      have HR := Lib.hid (And.intro hr hrv); clear hr hrv
      go_wp2_with fail
      have hA := Bk.new wr #[.bool m1, .string s1]
      have hbk := hb.size
      replace hb := hb.alloc hbk (.cells #[.bool m1, .string s1] 23)
      replace hC := hC.alloc (.cells #[.bool m1, .string s1] 23)
      generalize (wr.alloc (Obj.cells #[Value.bool m1, Value.string s1] 23)) = V0 at *
      replace hb := hb.drew
      replace hC := hC.drew
      have hin := hA.drew.cells
      clear hA hc1 hc2
      go_region_held3 (fun w' => w'.cell? ⟨wr.heap.size, 0, none⟩ = some (.bool m1) ∧ w'.cell? ⟨wr.heap.size, 1, none⟩ = some (.string s1))
        (first | assumption | exact held (by assumption) (by assumption))
        (first
         | (go_at_call 85; refine (use_mul _ t s1 r (by omega) (by omega) HR.out.1).mono ?_; rintro e V1 ⟨rfl, hq⟩; replace hb := below_next hb hq; replace hC := hC.below hq))
      go_wp2
      go_roundw
      case rel => exact ⟨k + 1, (q != m1), r, by omega, rfl, rfl, by simp, HR.out.2, fun _ => ⟨_, HR.out.1⟩, hrs, hb, hC⟩
      case measure => simp [intP]; omega
    · have hkn : k = n - 1 := by omega
      obtain ⟨m2, hm2⟩ := hf (by omega)
      have hz2 : wf (sI q m2) = wi z o := by
        rw [← hz, ← sI_fb, hm2, HV.out, hkn]
        congr 2
        omega
      go_wp2_with fail
      refine (signed_any _ q t m2 z o hm2 hz2).mono ?_
      rintro e V1 ⟨rfl, hq⟩
      replace hb := below_next hb hq
      replace hC := hC.below hq
      obtain ⟨hC0, hC1, hC2, hC3⟩ := hC.facts
      clear hq
      go_wp2
      exact ret_whole rfl rfl (hC.set_ _ _) ⟨rfl, below_set2 hb (by omega) _ _ _ _⟩
end Go.Proofs.YtfgolecbchhokaaGreatDoor
