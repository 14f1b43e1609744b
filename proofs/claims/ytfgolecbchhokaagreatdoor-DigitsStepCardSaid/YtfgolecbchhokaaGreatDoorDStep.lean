/- The law of a digit more, and of a product's digits: it answers true for all. -/
import Derived.Test.YtfgolecbchhokaaGreatDoorDBack
import Derived.Test.YtfgolecbchhokaaGreatDoorWHeld
import Derived.Test.YtfgolecbchhokaaGreatDoorWDag2
import Derived.Deep.DeepCutAuto
import Derived.Deep.DeepFit
import Derived.Deep.RegionHeld3
namespace Go.Proofs.YtfgolecbchhokaaGreatDoor
open Go.RowKit Go.Shelf Go.Lib

theorem step_lt {m : Bool} {s : ByteArray} {k : Nat} {c : Int} (hs : s.size ≤ 200) (hk : k < 10) (hc : sg (wv m s) = c) : (wv m s * 10 + (k : Int) * c).natAbs < 256 ^ 202 := by
  have h1 := wv_lt (n := m) hs
  have h2 : (256 : Nat) ^ 202 = 256 ^ 200 * 65536 := by rw [show 202 = 200 + 2 from rfl, Nat.pow_add]
  rw [h2]
  have h3 : 0 < (256 : Nat) ^ 200 := Nat.pow_pos (by decide)
  generalize (256 : Nat) ^ 200 = q at *
  rcases sg_cases (wv m s) with ⟨_, h⟩ | ⟨_, h⟩ | ⟨_, h⟩
  all_goals
    rw [h] at hc
    subst hc
    omega
theorem one_byte_at {W : World} {g d : Nat} {z : Int} {oc : ByteArray} (hR : Rw W g 5 [.int .u8 z]) (hz : z = (d : Int)) (h : d < 256) (hoc : (⟨#[UInt8.ofNat d]⟩ : ByteArray) = oc) :
    (convert 38 9 (.slice (some ⟨g, 0, none⟩) 1 1)).run Tryz.prog W = .ok (.string oc) W := by
  subst hz
  subst hoc
  have hd : (UInt8.ofNat d).toNat = d := by rw [UInt8.toNat_ofNat']; exact Nat.mod_eq_of_lt h
  refine run_bytes_at (l := [UInt8.ofNat d]) rfl (fun i hi => ?_)
  obtain rfl : i = 0 := by simpa using hi
  rw [hR.cell]
  show some (Value.int .u8 d) = some (by8 (UInt8.ofNat d))
  unfold by8
  rw [hd]

set_option maxRecDepth 100000 in
set_option maxHeartbeats 4000000 in
theorem dstep_any (w : World) (htab : TabIs Tryz.prog w "internal/strconv.uint64pow10" .u64 pow10Tab) (m n : Bool) (s t : ByteArray) (d : Nat) (hd : d < 256) :
    Calls Tryz.prog 6 #[wi m s, wi n t, .int .u8 d] w (Ret (.bool true) w) := by
  unfold wi
  go_enter Tryz.func6, Tryz.ntmps6
  have HB := Lib.hid (blocks2 w #[.bool m, .string s] #[.bool n, .string t])
  by_cases h1 : 200 < s.size
  · go_wp2_with fail
    have hb := HB.out.2.2
    refine (dawake_any _ (tab_below htab hb)).mono ?_
    rintro e W9 ⟨rfl, hq⟩
    replace hb := below_next hb hq
    go_wp2
    go_ret
    exact ⟨rfl, hb⟩
  by_cases h2 : 200 < t.size
  · go_wp2_with fail
    have hb := HB.out.2.2
    refine (dawake_any _ (tab_below htab hb)).mono ?_
    rintro e W9 ⟨rfl, hq⟩
    replace hb := below_next hb hq
    go_wp2
    go_ret
    exact ⟨rfl, hb⟩
  obtain ⟨k, hk⟩ : ∃ k : Nat, d % 10 = k := ⟨_, rfl⟩
  have hk10 : k < 10 := by omega
  have hki : (d : Int) % 10 = (k : Int) := by omega
  obtain ⟨c, hc⟩ : ∃ c, sg (wv m s) = c := ⟨_, rfl⟩
  go_wp2_with fail
  obtain ⟨hA, hB, hb⟩ := HB.out
  generalize ((w.alloc (Obj.cells #[Value.bool m, Value.string s] 23)).alloc (Obj.cells #[Value.bool n, Value.string t] 23)) = W0 at *
  clear HB
  refine (wsign_any _ m s (by omega) c hc).mono ?_
  rintro e W ⟨rfl, hq⟩
  replace hb := below_next hb hq
  replace hA := hA.below hq
  replace hB := hB.below hq
  clear hq
  rcases sg_cases (wv m s) with ⟨hz, hc'⟩ | hz
  · have hc0 : c = 0 := by rw [← hc, hc']
    subst hc0
    go_wp2_with fail
    refine (dlen_any _ (tab_below htab hb) false ⟨#[]⟩ (by decide) 1 (by kernel_rfl)).mono ?_
    rintro e U2 ⟨rfl, hq⟩
    replace hb := below_next hb hq
    go_wp2_with fail
    refine (dawake_any _ (tab_below htab hb)).mono ?_
    rintro e W9 ⟨rfl, hq⟩
    replace hb := below_next hb hq
    go_wp2
    go_ret
    exact ⟨rfl, hb⟩
  · have hcne : (c == 0) = false := by
      rcases hz with ⟨_, h⟩ | ⟨_, h⟩
      all_goals
        rw [← hc, h]
        rfl
    have hz0 : wv m s ≠ 0 := by omega
    have w1 : IntKind.i64.wrap (48 + (k : Int)) = 48 + (k : Int) := by rw [IntKind.wrap_i64]; omega
    have w2 : IntKind.u8.wrap (48 + (k : Int)) = 48 + (k : Int) := by rw [IntKind.wrap_u8]; omega
    obtain ⟨o, ho⟩ : ∃ o, (⟨(itoa (wv m s)).toArray⟩ : ByteArray) = o := ⟨_, rfl⟩
    obtain ⟨oc, hoc⟩ : ∃ oc, (⟨#[UInt8.ofNat (48 + k)]⟩ : ByteArray) = oc := ⟨_, rfl⟩
    have hos := text_size ho
    have hoc1 : oc.size = 1 := by rw [← hoc]; rfl
    have hsz : (o ++ oc).size = o.size + oc.size := ByteArray.size_append
    have hmore : (⟨(itoa (wv m s * 10 + (k : Int) * c)).toArray⟩ : ByteArray) = o ++ oc := by
      apply ByteArray.ext
      apply Array.ext'
      rw [ByteArray.data_append, Array.toList_append, ← ho, ← hoc, ← hc]
      show itoa (wv m s * 10 + (k : Int) * sg (wv m s)) = itoa (wv m s) ++ [UInt8.ofNat (48 + k)]
      exact (itoa_more hz0 hk10).symm
    obtain ⟨g1, g2⟩ := text_good hmore
    obtain ⟨zx, ox, ex, vx, sx⟩ := nmw (z := wv m s * 10 + (k : Int) * c) (k := 202) (step_lt (by omega) hk10 hc)
    have hcat : ¬ (9223372036854775807 < o.size + 1) := by omega
    have HO := Lib.hid (And.intro ho (And.intro g1 (And.intro (by rw [g2]; exact ex : wf (tV (o ++ oc).data.toList) = wi zx ox) (And.intro ex vx))))
    have HK := Lib.hid hoc
    obtain ⟨zm, om, em, vm, sm⟩ := times_nmw m false s ⟨#[10]⟩ (k := 200) (l := 1) (by omega) (by decide)
    have h10 : wv false ⟨#[10]⟩ = 10 := by kernel_rfl
    obtain ⟨kc, hkc⟩ : ∃ kc, (k : Int) * c = kc := ⟨_, rfl⟩
    have hkc9 : -9 ≤ kc ∧ kc ≤ 9 ∧ 10 * num s + k = (wv m s * 10 + kc).natAbs := by
      have ha := wv_abs m s
      rcases hz with ⟨h, h'⟩ | ⟨h, h'⟩
      · have : kc = -(k : Int) := by rw [← hkc, ← hc, h', Int.mul_neg_one]
        omega
      · have : kc = (k : Int) := by rw [← hkc, ← hc, h', Int.mul_one]
        omega
    obtain ⟨hk1, hk2, hk3⟩ := hkc9
    have w3 : IntKind.i64.wrap kc = kc := by rw [IntKind.wrap_i64]; omega
    obtain ⟨zk, ok', ek, vk, sk⟩ := nmw (z := kc) (k := 1) (by omega)
    rw [hkc] at ex vx
    have eadd : wf (wv zm om + wv zk ok') = wi zx ox := by rw [vm, vk, h10]; exact ex
    obtain ⟨L, hL⟩ : ∃ L, nDigits (num s) = L := ⟨_, rfl⟩
    have hLs : L ≤ 601 := by have := nDigits_num s; omega
    have hs0 : 0 < num s := by have := wv_abs m s; omega
    have lx : ((nDigits (num ox) : Nat) : Int) = (L : Int) + 1 := by
      have hnx : num ox = 10 * num s + k := by rw [hk3, ← vx, wv_abs]
      rw [hnx, nDigits_more hs0 hk10, hL]
      rfl
    have w4 : IntKind.i64.wrap ((L : Int) + 1) = (L : Int) + 1 := by rw [IntKind.wrap_i64]; omega
    have H2 := Lib.hid (And.intro em (And.intro ek (And.intro eadd (And.intro lx (show ((nDigits (num s) : Nat) : Int) = (L : Int) by rw [hL])))))
    clear em vm h10 vk ek eadd lx
    clear ho hoc g1 g2 hmore
    go_wp2_with fail
    have hcb : (c != 0) = true := by
      show (!(c == 0)) = true
      rw [hcne]
      rfl
    rw [hcb]
    have hin : (fun w' => Below w.heap.size w w' ∧ (w'.cell? ⟨w.heap.size, 0, none⟩ = some (.bool m) ∧ w'.cell? ⟨w.heap.size, 1, none⟩ = some (.string s)) ∧ (w'.cell? ⟨w.heap.size + 1, 0, none⟩ = some (.bool n) ∧ w'.cell? ⟨w.heap.size + 1, 1, none⟩ = some (.string t))) W.drew := ⟨hb.drew, hA.drew.cells, hB.drew.cells⟩
    clear hb hA hB
    refine region_dag (fun w' => Below w.heap.size w w' ∧ (w'.cell? ⟨w.heap.size, 0, none⟩ = some (.bool m) ∧ w'.cell? ⟨w.heap.size, 1, none⟩ = some (.string s)) ∧ (w'.cell? ⟨w.heap.size + 1, 0, none⟩ = some (.bool n) ∧ w'.cell? ⟨w.heap.size + 1, 1, none⟩ = some (.string t))) (fun fu li ac Wn => (fun w' => Below w.heap.size w w' ∧ (w'.cell? ⟨w.heap.size, 0, none⟩ = some (.bool m) ∧ w'.cell? ⟨w.heap.size, 1, none⟩ = some (.string s)) ∧ (w'.cell? ⟨w.heap.size + 1, 0, none⟩ = some (.bool n) ∧ w'.cell? ⟨w.heap.size + 1, 1, none⟩ = some (.string t))) Wn ∧ ((fu = 17 ∧ li = #[false, false, false, false, false, false, false, false, false, false, false, false, false, false, false, false, false] ∧ ac = { tmps := #[.agg #[.bool m, .string s], .agg #[.bool n, .string t], Value.int IntKind.u8 ↑d, .pointer (some ⟨w.heap.size, 0, none⟩), .pointer (some ⟨w.heap.size + 1, 0, none⟩), undef, .bool false, .int .i64 ↑k, .int .i64 c, undef, undef, undef, undef, undef, .pointer (some { block := w.heap.size, off := 1 }), .string s, .int .i64 ↑s.size, .bool (decide (200 < (s.size : Int))), .bool (decide (200 < (s.size : Int))), .pointer (some { block := w.heap.size + 1, off := 1 }), .string t, .int .i64 ↑t.size, .bool (decide (200 < (t.size : Int))), .bool (decide (200 < (s.size : Int)) || decide (200 < (t.size : Int))), undef, Value.int IntKind.u8 ↑d, Value.int IntKind.u8 ↑k, .int .i64 ↑k, .agg #[.bool m, .string s], .int .i64 c, .int .i64 c, .bool true, undef, undef, undef, undef, undef, undef, undef, undef, undef, undef, undef, undef, undef, undef, undef, undef, undef, undef, undef, undef, undef, undef, undef, undef, undef, undef, undef, undef, undef, undef, undef, undef, undef, undef, undef, undef, undef, undef, undef, undef, undef, undef, undef, undef, undef, undef, undef, undef, undef, undef, undef, undef, undef, undef, undef, undef, undef, undef, undef, undef, undef, undef, undef, undef, undef, undef, undef, undef, undef, undef, undef, undef], defers := [] }) ∨ (fu = 12 ∧ li = #[true, true, true, true, true, false, false, false, false, false, false, false, false, false, false, false, false] ∧ ∃ (x33 : Value) (x35 : Value) (x36 : Value), ac = { tmps := #[.agg #[.bool m, .string s], .agg #[.bool n, .string t], Value.int IntKind.u8 ↑d, .pointer (some ⟨w.heap.size, 0, none⟩), .pointer (some ⟨w.heap.size + 1, 0, none⟩), undef, .bool false, .int .i64 ↑k, .int .i64 c, undef, undef, undef, undef, undef, .pointer (some { block := w.heap.size, off := 1 }), .string s, .int .i64 ↑s.size, .bool (decide (200 < (s.size : Int))), .bool (decide (200 < (s.size : Int))), .pointer (some { block := w.heap.size + 1, off := 1 }), .string t, .int .i64 ↑t.size, .bool (decide (200 < (t.size : Int))), .bool (decide (200 < (s.size : Int)) || decide (200 < (t.size : Int))), undef, Value.int IntKind.u8 ↑d, Value.int IntKind.u8 ↑k, .int .i64 ↑k, .agg #[.bool m, .string s], .int .i64 c, .int .i64 c, .bool true, undef, x33, .string o, x35, x36, Value.int IntKind.u8 (48 + ↑k), undef, undef, undef, undef, undef, undef, undef, undef, undef, undef, undef, undef, undef, undef, undef, undef, undef, undef, undef, undef, undef, undef, undef, undef, undef, undef, undef, undef, undef, undef, undef, undef, undef, undef, undef, undef, undef, undef, undef, undef, undef, undef, undef, undef, undef, undef, undef, undef, undef, undef, undef, undef, undef, undef, undef, undef, undef, undef, undef, undef, undef, undef, undef, undef, undef, undef], defers := [] }) ∨ (fu = 12 ∧ li = #[true, false, true, true, true, true, false, false, false, false, false, false, false, false, false, false, false] ∧ ∃ (x35 : Value) (x36 : Value) (x37 : Value) (g38 : Nat), ac = { tmps := #[.agg #[.bool m, .string s], .agg #[.bool n, .string t], Value.int IntKind.u8 ↑d, .pointer (some ⟨w.heap.size, 0, none⟩), .pointer (some ⟨w.heap.size + 1, 0, none⟩), undef, .bool false, .int .i64 ↑k, .int .i64 c, undef, undef, undef, undef, undef, .pointer (some { block := w.heap.size, off := 1 }), .string s, .int .i64 ↑s.size, .bool (decide (200 < (s.size : Int))), .bool (decide (200 < (s.size : Int))), .pointer (some { block := w.heap.size + 1, off := 1 }), .string t, .int .i64 ↑t.size, .bool (decide (200 < (t.size : Int))), .bool (decide (200 < (s.size : Int)) || decide (200 < (t.size : Int))), undef, Value.int IntKind.u8 ↑d, Value.int IntKind.u8 ↑k, .int .i64 ↑k, .agg #[.bool m, .string s], .int .i64 c, .int .i64 c, .bool true, undef, .agg #[.bool m, .string s], undef, x35, x36, x37, .slice (some ⟨g38, 0, none⟩) 1 1, undef, undef, undef, undef, undef, undef, undef, undef, undef, undef, undef, undef, undef, undef, undef, undef, undef, undef, undef, undef, undef, undef, undef, undef, undef, undef, undef, undef, undef, undef, undef, undef, undef, undef, undef, undef, undef, undef, undef, undef, undef, undef, undef, undef, undef, undef, undef, undef, undef, undef, undef, undef, undef, undef, undef, undef, undef, undef, undef, undef, undef, undef, undef, undef, undef], defers := [] } ∧ Rw Wn g38 5 [.int .u8 (48 + (k : Int))]) ∨ (fu = 12 ∧ li = #[true, false, true, true, true, false, false, false, false, false, false, false, false, true, false, false, false] ∧ ∃ (x35 : Value) (x36 : Value) (p9 : Nat), ac = { tmps := #[.agg #[.bool m, .string s], .agg #[.bool n, .string t], Value.int IntKind.u8 ↑d, .pointer (some ⟨w.heap.size, 0, none⟩), .pointer (some ⟨w.heap.size + 1, 0, none⟩), undef, .bool false, .int .i64 ↑k, .int .i64 c, .pointer (some ⟨p9, 0, none⟩), undef, undef, undef, undef, .pointer (some { block := w.heap.size, off := 1 }), .string s, .int .i64 ↑s.size, .bool (decide (200 < (s.size : Int))), .bool (decide (200 < (s.size : Int))), .pointer (some { block := w.heap.size + 1, off := 1 }), .string t, .int .i64 ↑t.size, .bool (decide (200 < (t.size : Int))), .bool (decide (200 < (s.size : Int)) || decide (200 < (t.size : Int))), undef, Value.int IntKind.u8 ↑d, Value.int IntKind.u8 ↑k, .int .i64 ↑k, .agg #[.bool m, .string s], .int .i64 c, .int .i64 c, .bool true, undef, .agg #[.bool m, .string s], undef, x35, x36, Value.int IntKind.u8 (48 + ↑k), undef, undef, undef, undef, undef, undef, undef, undef, undef, undef, undef, undef, undef, undef, undef, undef, undef, undef, undef, undef, undef, undef, undef, undef, undef, undef, undef, undef, undef, undef, undef, undef, undef, undef, undef, undef, undef, undef, undef, undef, undef, undef, undef, undef, undef, undef, undef, undef, undef, undef, undef, undef, undef, undef, undef, undef, undef, undef, undef, undef, undef, undef, undef, undef, undef, undef], defers := [] } ∧ Bk Wn p9 #[.bool false, .string { data := #[] }] ∧ (w.heap.size ≠ p9 ∧ (w.heap.size + 1) ≠ p9 ∧ w.heap.size ≤ p9)) ∨ (fu = 11 ∧ li = #[true, true, true, true, true, true, false, false, false, false, false, false, false, false, false, false, false] ∧ ∃ (x33 : Value) (x35 : Value) (x36 : Value) (x37 : Value) (g38 : Nat), ac = { tmps := #[.agg #[.bool m, .string s], .agg #[.bool n, .string t], Value.int IntKind.u8 ↑d, .pointer (some ⟨w.heap.size, 0, none⟩), .pointer (some ⟨w.heap.size + 1, 0, none⟩), undef, .bool false, .int .i64 ↑k, .int .i64 c, undef, undef, undef, undef, undef, .pointer (some { block := w.heap.size, off := 1 }), .string s, .int .i64 ↑s.size, .bool (decide (200 < (s.size : Int))), .bool (decide (200 < (s.size : Int))), .pointer (some { block := w.heap.size + 1, off := 1 }), .string t, .int .i64 ↑t.size, .bool (decide (200 < (t.size : Int))), .bool (decide (200 < (s.size : Int)) || decide (200 < (t.size : Int))), undef, Value.int IntKind.u8 ↑d, Value.int IntKind.u8 ↑k, .int .i64 ↑k, .agg #[.bool m, .string s], .int .i64 c, .int .i64 c, .bool true, undef, x33, .string o, x35, x36, x37, .slice (some ⟨g38, 0, none⟩) 1 1, undef, undef, undef, undef, undef, undef, undef, undef, undef, undef, undef, undef, undef, undef, undef, undef, undef, undef, undef, undef, undef, undef, undef, undef, undef, undef, undef, undef, undef, undef, undef, undef, undef, undef, undef, undef, undef, undef, undef, undef, undef, undef, undef, undef, undef, undef, undef, undef, undef, undef, undef, undef, undef, undef, undef, undef, undef, undef, undef, undef, undef, undef, undef, undef, undef], defers := [] } ∧ Rw Wn g38 5 [.int .u8 (48 + (k : Int))]) ∨ (fu = 11 ∧ li = #[true, true, true, true, true, false, false, false, false, false, false, false, false, true, false, false, false] ∧ ∃ (x33 : Value) (x35 : Value) (x36 : Value) (p9 : Nat), ac = { tmps := #[.agg #[.bool m, .string s], .agg #[.bool n, .string t], Value.int IntKind.u8 ↑d, .pointer (some ⟨w.heap.size, 0, none⟩), .pointer (some ⟨w.heap.size + 1, 0, none⟩), undef, .bool false, .int .i64 ↑k, .int .i64 c, .pointer (some ⟨p9, 0, none⟩), undef, undef, undef, undef, .pointer (some { block := w.heap.size, off := 1 }), .string s, .int .i64 ↑s.size, .bool (decide (200 < (s.size : Int))), .bool (decide (200 < (s.size : Int))), .pointer (some { block := w.heap.size + 1, off := 1 }), .string t, .int .i64 ↑t.size, .bool (decide (200 < (t.size : Int))), .bool (decide (200 < (s.size : Int)) || decide (200 < (t.size : Int))), undef, Value.int IntKind.u8 ↑d, Value.int IntKind.u8 ↑k, .int .i64 ↑k, .agg #[.bool m, .string s], .int .i64 c, .int .i64 c, .bool true, undef, x33, .string o, x35, x36, Value.int IntKind.u8 (48 + ↑k), undef, undef, undef, undef, undef, undef, undef, undef, undef, undef, undef, undef, undef, undef, undef, undef, undef, undef, undef, undef, undef, undef, undef, undef, undef, undef, undef, undef, undef, undef, undef, undef, undef, undef, undef, undef, undef, undef, undef, undef, undef, undef, undef, undef, undef, undef, undef, undef, undef, undef, undef, undef, undef, undef, undef, undef, undef, undef, undef, undef, undef, undef, undef, undef, undef, undef], defers := [] } ∧ Bk Wn p9 #[.bool false, .string { data := #[] }] ∧ (w.heap.size ≠ p9 ∧ (w.heap.size + 1) ≠ p9 ∧ w.heap.size ≤ p9)) ∨ (fu = 11 ∧ li = #[true, false, true, true, true, true, true, false, false, false, false, false, false, false, false, false, false] ∧ ∃ (x35 : Value) (x36 : Value) (x37 : Value) (x38 : Value), ac = { tmps := #[.agg #[.bool m, .string s], .agg #[.bool n, .string t], Value.int IntKind.u8 ↑d, .pointer (some ⟨w.heap.size, 0, none⟩), .pointer (some ⟨w.heap.size + 1, 0, none⟩), undef, .bool false, .int .i64 ↑k, .int .i64 c, undef, undef, undef, undef, undef, .pointer (some { block := w.heap.size, off := 1 }), .string s, .int .i64 ↑s.size, .bool (decide (200 < (s.size : Int))), .bool (decide (200 < (s.size : Int))), .pointer (some { block := w.heap.size + 1, off := 1 }), .string t, .int .i64 ↑t.size, .bool (decide (200 < (t.size : Int))), .bool (decide (200 < (s.size : Int)) || decide (200 < (t.size : Int))), undef, Value.int IntKind.u8 ↑d, Value.int IntKind.u8 ↑k, .int .i64 ↑k, .agg #[.bool m, .string s], .int .i64 c, .int .i64 c, .bool true, undef, .agg #[.bool m, .string s], undef, x35, x36, x37, x38, .string oc, undef, undef, undef, undef, undef, undef, undef, undef, undef, undef, undef, undef, undef, undef, undef, undef, undef, undef, undef, undef, undef, undef, undef, undef, undef, undef, undef, undef, undef, undef, undef, undef, undef, undef, undef, undef, undef, undef, undef, undef, undef, undef, undef, undef, undef, undef, undef, undef, undef, undef, undef, undef, undef, undef, undef, undef, undef, undef, undef, undef, undef, undef, undef, undef], defers := [] }) ∨ (fu = 11 ∧ li = #[true, false, true, true, true, true, false, false, false, false, false, false, false, true, false, false, false] ∧ ∃ (x35 : Value) (x36 : Value) (x37 : Value) (g38 : Nat) (p9 : Nat), ac = { tmps := #[.agg #[.bool m, .string s], .agg #[.bool n, .string t], Value.int IntKind.u8 ↑d, .pointer (some ⟨w.heap.size, 0, none⟩), .pointer (some ⟨w.heap.size + 1, 0, none⟩), undef, .bool false, .int .i64 ↑k, .int .i64 c, .pointer (some ⟨p9, 0, none⟩), undef, undef, undef, undef, .pointer (some { block := w.heap.size, off := 1 }), .string s, .int .i64 ↑s.size, .bool (decide (200 < (s.size : Int))), .bool (decide (200 < (s.size : Int))), .pointer (some { block := w.heap.size + 1, off := 1 }), .string t, .int .i64 ↑t.size, .bool (decide (200 < (t.size : Int))), .bool (decide (200 < (s.size : Int)) || decide (200 < (t.size : Int))), undef, Value.int IntKind.u8 ↑d, Value.int IntKind.u8 ↑k, .int .i64 ↑k, .agg #[.bool m, .string s], .int .i64 c, .int .i64 c, .bool true, undef, .agg #[.bool m, .string s], undef, x35, x36, x37, .slice (some ⟨g38, 0, none⟩) 1 1, undef, undef, undef, undef, undef, undef, undef, undef, undef, undef, undef, undef, undef, undef, undef, undef, undef, undef, undef, undef, undef, undef, undef, undef, undef, undef, undef, undef, undef, undef, undef, undef, undef, undef, undef, undef, undef, undef, undef, undef, undef, undef, undef, undef, undef, undef, undef, undef, undef, undef, undef, undef, undef, undef, undef, undef, undef, undef, undef, undef, undef, undef, undef, undef, undef], defers := [] } ∧ Rw Wn g38 5 [.int .u8 (48 + (k : Int))] ∧ Bk Wn p9 #[.bool false, .string { data := #[] }] ∧ (w.heap.size ≠ p9 ∧ (w.heap.size + 1) ≠ p9 ∧ w.heap.size ≤ p9)) ∨ (fu = 10 ∧ li = #[true, true, true, true, true, true, true, false, false, false, false, false, false, false, false, false, false] ∧ ∃ (x33 : Value) (x35 : Value) (x36 : Value) (x37 : Value) (x38 : Value), ac = { tmps := #[.agg #[.bool m, .string s], .agg #[.bool n, .string t], Value.int IntKind.u8 ↑d, .pointer (some ⟨w.heap.size, 0, none⟩), .pointer (some ⟨w.heap.size + 1, 0, none⟩), undef, .bool false, .int .i64 ↑k, .int .i64 c, undef, undef, undef, undef, undef, .pointer (some { block := w.heap.size, off := 1 }), .string s, .int .i64 ↑s.size, .bool (decide (200 < (s.size : Int))), .bool (decide (200 < (s.size : Int))), .pointer (some { block := w.heap.size + 1, off := 1 }), .string t, .int .i64 ↑t.size, .bool (decide (200 < (t.size : Int))), .bool (decide (200 < (s.size : Int)) || decide (200 < (t.size : Int))), undef, Value.int IntKind.u8 ↑d, Value.int IntKind.u8 ↑k, .int .i64 ↑k, .agg #[.bool m, .string s], .int .i64 c, .int .i64 c, .bool true, undef, x33, .string o, x35, x36, x37, x38, .string oc, undef, undef, undef, undef, undef, undef, undef, undef, undef, undef, undef, undef, undef, undef, undef, undef, undef, undef, undef, undef, undef, undef, undef, undef, undef, undef, undef, undef, undef, undef, undef, undef, undef, undef, undef, undef, undef, undef, undef, undef, undef, undef, undef, undef, undef, undef, undef, undef, undef, undef, undef, undef, undef, undef, undef, undef, undef, undef, undef, undef, undef, undef, undef, undef], defers := [] }) ∨ (fu = 10 ∧ li = #[true, true, true, true, true, true, false, false, false, false, false, false, false, true, false, false, false] ∧ ∃ (x33 : Value) (x35 : Value) (x36 : Value) (x37 : Value) (g38 : Nat) (p9 : Nat), ac = { tmps := #[.agg #[.bool m, .string s], .agg #[.bool n, .string t], Value.int IntKind.u8 ↑d, .pointer (some ⟨w.heap.size, 0, none⟩), .pointer (some ⟨w.heap.size + 1, 0, none⟩), undef, .bool false, .int .i64 ↑k, .int .i64 c, .pointer (some ⟨p9, 0, none⟩), undef, undef, undef, undef, .pointer (some { block := w.heap.size, off := 1 }), .string s, .int .i64 ↑s.size, .bool (decide (200 < (s.size : Int))), .bool (decide (200 < (s.size : Int))), .pointer (some { block := w.heap.size + 1, off := 1 }), .string t, .int .i64 ↑t.size, .bool (decide (200 < (t.size : Int))), .bool (decide (200 < (s.size : Int)) || decide (200 < (t.size : Int))), undef, Value.int IntKind.u8 ↑d, Value.int IntKind.u8 ↑k, .int .i64 ↑k, .agg #[.bool m, .string s], .int .i64 c, .int .i64 c, .bool true, undef, x33, .string o, x35, x36, x37, .slice (some ⟨g38, 0, none⟩) 1 1, undef, undef, undef, undef, undef, undef, undef, undef, undef, undef, undef, undef, undef, undef, undef, undef, undef, undef, undef, undef, undef, undef, undef, undef, undef, undef, undef, undef, undef, undef, undef, undef, undef, undef, undef, undef, undef, undef, undef, undef, undef, undef, undef, undef, undef, undef, undef, undef, undef, undef, undef, undef, undef, undef, undef, undef, undef, undef, undef, undef, undef, undef, undef, undef, undef], defers := [] } ∧ Rw Wn g38 5 [.int .u8 (48 + (k : Int))] ∧ Bk Wn p9 #[.bool false, .string { data := #[] }] ∧ (w.heap.size ≠ p9 ∧ (w.heap.size + 1) ≠ p9 ∧ w.heap.size ≤ p9)) ∨ (fu = 10 ∧ li = #[true, false, true, true, true, true, true, false, false, false, false, false, false, true, false, false, false] ∧ ∃ (x35 : Value) (x36 : Value) (x37 : Value) (x38 : Value) (p9 : Nat), ac = { tmps := #[.agg #[.bool m, .string s], .agg #[.bool n, .string t], Value.int IntKind.u8 ↑d, .pointer (some ⟨w.heap.size, 0, none⟩), .pointer (some ⟨w.heap.size + 1, 0, none⟩), undef, .bool false, .int .i64 ↑k, .int .i64 c, .pointer (some ⟨p9, 0, none⟩), undef, undef, undef, undef, .pointer (some { block := w.heap.size, off := 1 }), .string s, .int .i64 ↑s.size, .bool (decide (200 < (s.size : Int))), .bool (decide (200 < (s.size : Int))), .pointer (some { block := w.heap.size + 1, off := 1 }), .string t, .int .i64 ↑t.size, .bool (decide (200 < (t.size : Int))), .bool (decide (200 < (s.size : Int)) || decide (200 < (t.size : Int))), undef, Value.int IntKind.u8 ↑d, Value.int IntKind.u8 ↑k, .int .i64 ↑k, .agg #[.bool m, .string s], .int .i64 c, .int .i64 c, .bool true, undef, .agg #[.bool m, .string s], undef, x35, x36, x37, x38, .string oc, undef, undef, undef, undef, undef, undef, undef, undef, undef, undef, undef, undef, undef, undef, undef, undef, undef, undef, undef, undef, undef, undef, undef, undef, undef, undef, undef, undef, undef, undef, undef, undef, undef, undef, undef, undef, undef, undef, undef, undef, undef, undef, undef, undef, undef, undef, undef, undef, undef, undef, undef, undef, undef, undef, undef, undef, undef, undef, undef, undef, undef, undef, undef, undef], defers := [] } ∧ Bk Wn p9 #[.bool false, .string { data := #[] }] ∧ (w.heap.size ≠ p9 ∧ (w.heap.size + 1) ≠ p9 ∧ w.heap.size ≤ p9)) ∨ (fu = 9 ∧ li = #[true, true, true, true, true, true, true, false, false, false, false, false, false, true, false, false, false] ∧ ∃ (x33 : Value) (x35 : Value) (x36 : Value) (x37 : Value) (x38 : Value) (p9 : Nat), ac = { tmps := #[.agg #[.bool m, .string s], .agg #[.bool n, .string t], Value.int IntKind.u8 ↑d, .pointer (some ⟨w.heap.size, 0, none⟩), .pointer (some ⟨w.heap.size + 1, 0, none⟩), undef, .bool false, .int .i64 ↑k, .int .i64 c, .pointer (some ⟨p9, 0, none⟩), undef, undef, undef, undef, .pointer (some { block := w.heap.size, off := 1 }), .string s, .int .i64 ↑s.size, .bool (decide (200 < (s.size : Int))), .bool (decide (200 < (s.size : Int))), .pointer (some { block := w.heap.size + 1, off := 1 }), .string t, .int .i64 ↑t.size, .bool (decide (200 < (t.size : Int))), .bool (decide (200 < (s.size : Int)) || decide (200 < (t.size : Int))), undef, Value.int IntKind.u8 ↑d, Value.int IntKind.u8 ↑k, .int .i64 ↑k, .agg #[.bool m, .string s], .int .i64 c, .int .i64 c, .bool true, undef, x33, .string o, x35, x36, x37, x38, .string oc, undef, undef, undef, undef, undef, undef, undef, undef, undef, undef, undef, undef, undef, undef, undef, undef, undef, undef, undef, undef, undef, undef, undef, undef, undef, undef, undef, undef, undef, undef, undef, undef, undef, undef, undef, undef, undef, undef, undef, undef, undef, undef, undef, undef, undef, undef, undef, undef, undef, undef, undef, undef, undef, undef, undef, undef, undef, undef, undef, undef, undef, undef, undef, undef], defers := [] } ∧ Bk Wn p9 #[.bool false, .string { data := #[] }] ∧ (w.heap.size ≠ p9 ∧ (w.heap.size + 1) ≠ p9 ∧ w.heap.size ≤ p9)) ∨ (fu = 8 ∧ li = #[true, true, true, true, true, true, true, true, true, false, false, false, false, false, false, false, false] ∧ ∃ (x33 : Value) (x34 : Value) (x35 : Value) (x36 : Value) (x37 : Value) (x38 : Value) (x39 : Value) (x40 : Value), ac = { tmps := #[.agg #[.bool m, .string s], .agg #[.bool n, .string t], Value.int IntKind.u8 ↑d, .pointer (some ⟨w.heap.size, 0, none⟩), .pointer (some ⟨w.heap.size + 1, 0, none⟩), undef, .bool false, .int .i64 ↑k, .int .i64 c, undef, undef, undef, undef, undef, .pointer (some { block := w.heap.size, off := 1 }), .string s, .int .i64 ↑s.size, .bool (decide (200 < (s.size : Int))), .bool (decide (200 < (s.size : Int))), .pointer (some { block := w.heap.size + 1, off := 1 }), .string t, .int .i64 ↑t.size, .bool (decide (200 < (t.size : Int))), .bool (decide (200 < (s.size : Int)) || decide (200 < (t.size : Int))), undef, Value.int IntKind.u8 ↑d, Value.int IntKind.u8 ↑k, .int .i64 ↑k, .agg #[.bool m, .string s], .int .i64 c, .int .i64 c, .bool true, undef, x33, x34, x35, x36, x37, x38, x39, x40, .tuple #[.agg #[.bool zx, .string ox], .int .i64 0, .int .i64 0], undef, undef, undef, undef, undef, undef, undef, undef, undef, undef, undef, undef, undef, undef, undef, undef, undef, undef, undef, undef, undef, undef, undef, undef, undef, undef, undef, undef, undef, undef, undef, undef, undef, undef, undef, undef, undef, undef, undef, undef, undef, undef, undef, undef, undef, undef, undef, undef, undef, undef, undef, undef, undef, undef, undef, undef, undef, undef, undef, undef, undef, undef], defers := [] }) ∨ (fu = 8 ∧ li = #[true, true, true, true, true, true, true, true, false, false, false, false, false, true, false, false, false] ∧ ∃ (x33 : Value) (x34 : Value) (x35 : Value) (x36 : Value) (x37 : Value) (x38 : Value) (x39 : Value) (p9 : Nat), ac = { tmps := #[.agg #[.bool m, .string s], .agg #[.bool n, .string t], Value.int IntKind.u8 ↑d, .pointer (some ⟨w.heap.size, 0, none⟩), .pointer (some ⟨w.heap.size + 1, 0, none⟩), undef, .bool false, .int .i64 ↑k, .int .i64 c, .pointer (some ⟨p9, 0, none⟩), undef, undef, undef, undef, .pointer (some { block := w.heap.size, off := 1 }), .string s, .int .i64 ↑s.size, .bool (decide (200 < (s.size : Int))), .bool (decide (200 < (s.size : Int))), .pointer (some { block := w.heap.size + 1, off := 1 }), .string t, .int .i64 ↑t.size, .bool (decide (200 < (t.size : Int))), .bool (decide (200 < (s.size : Int)) || decide (200 < (t.size : Int))), undef, Value.int IntKind.u8 ↑d, Value.int IntKind.u8 ↑k, .int .i64 ↑k, .agg #[.bool m, .string s], .int .i64 c, .int .i64 c, .bool true, undef, x33, x34, x35, x36, x37, x38, x39, .string (o ++ oc), undef, undef, undef, undef, undef, undef, undef, undef, undef, undef, undef, undef, undef, undef, undef, undef, undef, undef, undef, undef, undef, undef, undef, undef, undef, undef, undef, undef, undef, undef, undef, undef, undef, undef, undef, undef, undef, undef, undef, undef, undef, undef, undef, undef, undef, undef, undef, undef, undef, undef, undef, undef, undef, undef, undef, undef, undef, undef, undef, undef, undef, undef, undef], defers := [] } ∧ Bk Wn p9 #[.bool false, .string { data := #[] }] ∧ (w.heap.size ≠ p9 ∧ (w.heap.size + 1) ≠ p9 ∧ w.heap.size ≤ p9)) ∨ (fu = 7 ∧ li = #[true, true, true, true, true, true, true, true, true, false, false, false, false, true, false, false, false] ∧ ∃ (x33 : Value) (x34 : Value) (x35 : Value) (x36 : Value) (x37 : Value) (x38 : Value) (x39 : Value) (x40 : Value) (p9 : Nat), ac = { tmps := #[.agg #[.bool m, .string s], .agg #[.bool n, .string t], Value.int IntKind.u8 ↑d, .pointer (some ⟨w.heap.size, 0, none⟩), .pointer (some ⟨w.heap.size + 1, 0, none⟩), undef, .bool false, .int .i64 ↑k, .int .i64 c, .pointer (some ⟨p9, 0, none⟩), undef, undef, undef, undef, .pointer (some { block := w.heap.size, off := 1 }), .string s, .int .i64 ↑s.size, .bool (decide (200 < (s.size : Int))), .bool (decide (200 < (s.size : Int))), .pointer (some { block := w.heap.size + 1, off := 1 }), .string t, .int .i64 ↑t.size, .bool (decide (200 < (t.size : Int))), .bool (decide (200 < (s.size : Int)) || decide (200 < (t.size : Int))), undef, Value.int IntKind.u8 ↑d, Value.int IntKind.u8 ↑k, .int .i64 ↑k, .agg #[.bool m, .string s], .int .i64 c, .int .i64 c, .bool true, undef, x33, x34, x35, x36, x37, x38, x39, x40, .tuple #[.agg #[.bool zx, .string ox], .int .i64 0, .int .i64 0], undef, undef, undef, undef, undef, undef, undef, undef, undef, undef, undef, undef, undef, undef, undef, undef, undef, undef, undef, undef, undef, undef, undef, undef, undef, undef, undef, undef, undef, undef, undef, undef, undef, undef, undef, undef, undef, undef, undef, undef, undef, undef, undef, undef, undef, undef, undef, undef, undef, undef, undef, undef, undef, undef, undef, undef, undef, undef, undef, undef, undef, undef], defers := [] } ∧ Bk Wn p9 #[.bool false, .string { data := #[] }] ∧ (w.heap.size ≠ p9 ∧ (w.heap.size + 1) ≠ p9 ∧ w.heap.size ≤ p9)) ∨ (fu = 3 ∧ li = #[true, true, true, true, true, true, true, true, true, true, true, true, true, true, false, false, false] ∧ ∃ (x33 : Value) (x34 : Value) (x35 : Value) (x36 : Value) (x37 : Value) (x38 : Value) (x39 : Value) (x40 : Value) (x41 : Value) (x32 : Value) (p9 : Nat), ac = { tmps := #[.agg #[.bool m, .string s], .agg #[.bool n, .string t], Value.int IntKind.u8 ↑d, .pointer (some ⟨w.heap.size, 0, none⟩), .pointer (some ⟨w.heap.size + 1, 0, none⟩), undef, .bool false, .int .i64 ↑k, .int .i64 c, .pointer (some ⟨p9, 0, none⟩), undef, undef, undef, undef, .pointer (some { block := w.heap.size, off := 1 }), .string s, .int .i64 ↑s.size, .bool (decide (200 < (s.size : Int))), .bool (decide (200 < (s.size : Int))), .pointer (some { block := w.heap.size + 1, off := 1 }), .string t, .int .i64 ↑t.size, .bool (decide (200 < (t.size : Int))), .bool (decide (200 < (s.size : Int)) || decide (200 < (t.size : Int))), undef, Value.int IntKind.u8 ↑d, Value.int IntKind.u8 ↑k, .int .i64 ↑k, .agg #[.bool m, .string s], .int .i64 c, .int .i64 c, .bool true, x32, x33, x34, x35, x36, x37, x38, x39, x40, x41, .agg #[.bool zx, .string ox], .int .i64 0, .int .i64 0, undef, undef, undef, undef, undef, undef, undef, undef, undef, undef, undef, undef, undef, undef, undef, undef, undef, undef, undef, undef, undef, undef, undef, undef, undef, undef, undef, undef, undef, undef, undef, undef, undef, undef, undef, undef, undef, undef, undef, undef, undef, undef, undef, undef, undef, undef, undef, undef, undef, undef, undef, undef, undef, undef, undef, undef, undef, undef, undef], defers := [] } ∧ Bk Wn p9 #[.bool false, .string { data := #[] }] ∧ (w.heap.size ≠ p9 ∧ (w.heap.size + 1) ≠ p9 ∧ w.heap.size ≤ p9)) ∨ (fu = 2 ∧ li = #[true, true, true, true, true, true, true, true, true, true, true, true, true, true, true, false, false] ∧ ∃ (x33 : Value) (x34 : Value) (x35 : Value) (x36 : Value) (x37 : Value) (x38 : Value) (x39 : Value) (x40 : Value) (x41 : Value) (x32 : Value) (x42 : Value) (p9 : Nat), ac = { tmps := #[.agg #[.bool m, .string s], .agg #[.bool n, .string t], Value.int IntKind.u8 ↑d, .pointer (some ⟨w.heap.size, 0, none⟩), .pointer (some ⟨w.heap.size + 1, 0, none⟩), undef, .bool false, .int .i64 ↑k, .int .i64 c, .pointer (some ⟨p9, 0, none⟩), undef, undef, undef, undef, .pointer (some { block := w.heap.size, off := 1 }), .string s, .int .i64 ↑s.size, .bool (decide (200 < (s.size : Int))), .bool (decide (200 < (s.size : Int))), .pointer (some { block := w.heap.size + 1, off := 1 }), .string t, .int .i64 ↑t.size, .bool (decide (200 < (t.size : Int))), .bool (decide (200 < (s.size : Int)) || decide (200 < (t.size : Int))), undef, Value.int IntKind.u8 ↑d, Value.int IntKind.u8 ↑k, .int .i64 ↑k, .agg #[.bool m, .string s], .int .i64 c, .int .i64 c, .bool true, x32, x33, x34, x35, x36, x37, x38, x39, x40, x41, x42, .int .i64 0, .int .i64 0, undef, undef, undef, undef, undef, undef, undef, undef, undef, undef, undef, undef, undef, undef, undef, undef, undef, undef, undef, undef, undef, undef, undef, undef, undef, undef, undef, undef, undef, undef, undef, undef, undef, undef, undef, undef, undef, undef, undef, undef, undef, undef, undef, undef, undef, undef, undef, undef, undef, undef, undef, undef, undef, undef, undef, undef, undef, undef, undef], defers := [] } ∧ Bk Wn p9 #[.bool zx, .string ox] ∧ (w.heap.size ≠ p9 ∧ (w.heap.size + 1) ≠ p9 ∧ w.heap.size ≤ p9)))) (by kernel_rfl) ?_ ?_
    · exact ⟨hin, Or.inl (⟨rfl, rfl, rfl⟩)⟩
    · clear hin
      rintro fu li ac Wn ⟨hS, hI⟩ IH
      rcases hI with ⟨rfl, rfl, rfl⟩ | hI
      · refine dag_take (i := 0) (d := some 33) (v := ?v0n1) rfl rfl (by kernel_rfl) (by kernel_rfl) (by kernel_rfl) (fun _ _ _ h => h) (Or.inl ⟨by rfl, ?y0n1⟩) hS ?_
        case y0n1 => intro w hSw; (try dsimp only at hSw); go_simp; first | done | with_reducible rfl
        try simp only [Act.put, List.setIfInBounds_toArray, List.set_cons_zero, List.set_cons_succ]
        refine dag_take (i := 2) (d := some 35) (v := ?v2n2) rfl rfl (by kernel_rfl) (by kernel_rfl) (by kernel_rfl) (fun _ _ _ h => h) (Or.inl ⟨by rfl, ?y2n2⟩) hS ?_
        case y2n2 => intro w hSw; (try dsimp only at hSw); go_simp; first | done | with_reducible rfl
        try simp only [Act.put, List.setIfInBounds_toArray, List.set_cons_zero, List.set_cons_succ]
        refine dag_take (i := 3) (d := some 36) (v := ?v3n3) rfl rfl (by kernel_rfl) (by kernel_rfl) (by kernel_rfl) (fun _ _ _ h => h) (Or.inl ⟨by rfl, ?y3n3⟩) hS ?_
        case y3n3 => intro w hSw; (try dsimp only at hSw); go_simp; first | done | with_reducible rfl
        try simp only [Act.put, List.setIfInBounds_toArray, List.set_cons_zero, List.set_cons_succ]
        refine dag_take (i := 4) (d := some 37) (v := ?v4n4) rfl rfl (by kernel_rfl) (by kernel_rfl) (by kernel_rfl) (fun _ _ _ h => h) (Or.inl ⟨by rfl, ?y4n4⟩) hS ?_
        case y4n4 => intro w hSw; (try dsimp only at hSw); go_simp; first | done | with_reducible rfl
        try simp only [Act.put, List.setIfInBounds_toArray, List.set_cons_zero, List.set_cons_succ]
        refine wpAnyH_ready (rs := [1, 5, 13]) (by kernel_rfl) (by simp) ?_
        refine AllReadyH.cons rfl (fun Kc hK => ?_) ?_
        · go_simp
          go_fit (print_any _ (tab_below htab hS.1) m s (by omega) o HO.out.1)
          rintro e V ⟨rfl, hq⟩
          refine hK.out _ _ (hb2 hq hS) (fun hS' => ?_)
          exact IH.out _ _ _ _ (by omega) ⟨hS', Or.inr (Or.inl (⟨rfl, by kernel_rfl, _, _, _, rfl⟩))⟩
        refine AllReadyH.cons rfl (fun Kc hK => ?_) ?_
        · go_simp
          refine hK.out _ _ (ab2 hS) (fun hS' => ?_)
          exact IH.out _ _ _ _ (by omega) ⟨hS', Or.inr (Or.inr (Or.inl (⟨rfl, by kernel_rfl, _, _, _, _, rfl, Rw.new _ _ _⟩)))⟩
        refine AllReadyH.cons rfl (fun Kc hK => ?_) AllReadyH.nil
        have hlt : w.heap.size < Wn.heap.size ∧ (w.heap.size + 1) < Wn.heap.size := ⟨block_lt_of_cell hS.2.1.1, block_lt_of_cell hS.2.2.1⟩
        have hle := hS.1.size
        go_simp
        refine hK.out _ _ (ab2 hS) (fun hS' => ?_)
        exact IH.out _ _ _ _ (by omega) ⟨hS', Or.inr (Or.inr (Or.inr (Or.inl (⟨rfl, by kernel_rfl, _, _, _, rfl, Bk.new _ _, (by omega)⟩))))⟩
      rcases hI with ⟨rfl, rfl, x33, x35, x36, rfl⟩ | hI
      · refine wpAnyH_ready (rs := [5, 13]) (by kernel_rfl) (by simp) ?_
        refine AllReadyH.cons rfl (fun Kc hK => ?_) ?_
        · go_simp
          refine hK.out _ _ (ab2 hS) (fun hS' => ?_)
          exact IH.out _ _ _ _ (by omega) ⟨hS', Or.inr (Or.inr (Or.inr (Or.inr (Or.inl (⟨rfl, by kernel_rfl, _, _, _, _, _, rfl, Rw.new _ _ _⟩)))))⟩
        refine AllReadyH.cons rfl (fun Kc hK => ?_) AllReadyH.nil
        have hlt : w.heap.size < Wn.heap.size ∧ (w.heap.size + 1) < Wn.heap.size := ⟨block_lt_of_cell hS.2.1.1, block_lt_of_cell hS.2.2.1⟩
        have hle := hS.1.size
        go_simp
        refine hK.out _ _ (ab2 hS) (fun hS' => ?_)
        exact IH.out _ _ _ _ (by omega) ⟨hS', Or.inr (Or.inr (Or.inr (Or.inr (Or.inr (Or.inl (⟨rfl, by kernel_rfl, _, _, _, _, rfl, Bk.new _ _, (by omega)⟩))))))⟩
      rcases hI with ⟨rfl, rfl, x35, x36, x37, g38, rfl, hG38⟩ | hI
      · refine wpAnyH_ready (rs := [1, 6, 13]) (by kernel_rfl) (by simp) ?_
        refine AllReadyH.cons rfl (fun Kc hK => ?_) ?_
        · go_simp
          go_fit (print_any _ (tab_below htab hS.1) m s (by omega) o HO.out.1)
          rintro e V ⟨rfl, hq⟩
          refine hK.out _ _ (hb2 hq hS) (fun hS' => ?_)
          exact IH.out _ _ _ _ (by omega) ⟨hS', Or.inr (Or.inr (Or.inr (Or.inr (Or.inl (⟨rfl, by kernel_rfl, _, _, _, _, _, rfl, hG38.below hq hG38.lt⟩)))))⟩
        refine AllReadyH.cons rfl (fun Kc hK => ?_) ?_
        · have hcv := one_byte_at hG38 (by omega) (by omega) HK.out
          go_simp
          refine hK.out _ _ (hS) (fun hS' => ?_)
          exact IH.out _ _ _ _ (by omega) ⟨hS', Or.inr (Or.inr (Or.inr (Or.inr (Or.inr (Or.inr (Or.inl (⟨rfl, by kernel_rfl, _, _, _, _, rfl⟩)))))))⟩
        refine AllReadyH.cons rfl (fun Kc hK => ?_) AllReadyH.nil
        have hlt : w.heap.size < Wn.heap.size ∧ (w.heap.size + 1) < Wn.heap.size := ⟨block_lt_of_cell hS.2.1.1, block_lt_of_cell hS.2.2.1⟩
        have hle := hS.1.size
        go_simp
        refine hK.out _ _ (ab2 hS) (fun hS' => ?_)
        exact IH.out _ _ _ _ (by omega) ⟨hS', Or.inr (Or.inr (Or.inr (Or.inr (Or.inr (Or.inr (Or.inr (Or.inl (⟨rfl, by kernel_rfl, _, _, _, _, _, rfl, hG38.alloc _, Bk.new _ _, (by omega)⟩))))))))⟩
      rcases hI with ⟨rfl, rfl, x35, x36, p9, rfl, hP9, hd⟩ | hI
      · refine wpAnyH_ready (rs := [1, 5]) (by kernel_rfl) (by simp) ?_
        refine AllReadyH.cons rfl (fun Kc hK => ?_) ?_
        · go_simp
          go_fit (print_any _ (tab_below htab hS.1) m s (by omega) o HO.out.1)
          rintro e V ⟨rfl, hq⟩
          refine hK.out _ _ (hb2 hq hS) (fun hS' => ?_)
          exact IH.out _ _ _ _ (by omega) ⟨hS', Or.inr (Or.inr (Or.inr (Or.inr (Or.inr (Or.inl (⟨rfl, by kernel_rfl, _, _, _, _, rfl, hP9.below hq, hd⟩))))))⟩
        refine AllReadyH.cons rfl (fun Kc hK => ?_) AllReadyH.nil
        go_simp
        refine hK.out _ _ (ab2 hS) (fun hS' => ?_)
        exact IH.out _ _ _ _ (by omega) ⟨hS', Or.inr (Or.inr (Or.inr (Or.inr (Or.inr (Or.inr (Or.inr (Or.inl (⟨rfl, by kernel_rfl, _, _, _, _, _, rfl, Rw.new _ _ _, hP9.alloc _, hd⟩))))))))⟩
      rcases hI with ⟨rfl, rfl, x33, x35, x36, x37, g38, rfl, hG38⟩ | hI
      · refine wpAnyH_ready (rs := [6, 13]) (by kernel_rfl) (by simp) ?_
        refine AllReadyH.cons rfl (fun Kc hK => ?_) ?_
        · have hcv := one_byte_at hG38 (by omega) (by omega) HK.out
          go_simp
          refine hK.out _ _ (hS) (fun hS' => ?_)
          exact IH.out _ _ _ _ (by omega) ⟨hS', Or.inr (Or.inr (Or.inr (Or.inr (Or.inr (Or.inr (Or.inr (Or.inr (Or.inl (⟨rfl, by kernel_rfl, _, _, _, _, _, rfl⟩)))))))))⟩
        refine AllReadyH.cons rfl (fun Kc hK => ?_) AllReadyH.nil
        have hlt : w.heap.size < Wn.heap.size ∧ (w.heap.size + 1) < Wn.heap.size := ⟨block_lt_of_cell hS.2.1.1, block_lt_of_cell hS.2.2.1⟩
        have hle := hS.1.size
        go_simp
        refine hK.out _ _ (ab2 hS) (fun hS' => ?_)
        exact IH.out _ _ _ _ (by omega) ⟨hS', Or.inr (Or.inr (Or.inr (Or.inr (Or.inr (Or.inr (Or.inr (Or.inr (Or.inr (Or.inl (⟨rfl, by kernel_rfl, _, _, _, _, _, _, rfl, hG38.alloc _, Bk.new _ _, (by omega)⟩))))))))))⟩
      rcases hI with ⟨rfl, rfl, x33, x35, x36, p9, rfl, hP9, hd⟩ | hI
      · refine wpAnyH_ready (rs := [5]) (by kernel_rfl) (by simp) ?_
        refine AllReadyH.cons rfl (fun Kc hK => ?_) AllReadyH.nil
        go_simp
        refine hK.out _ _ (ab2 hS) (fun hS' => ?_)
        exact IH.out _ _ _ _ (by omega) ⟨hS', Or.inr (Or.inr (Or.inr (Or.inr (Or.inr (Or.inr (Or.inr (Or.inr (Or.inr (Or.inl (⟨rfl, by kernel_rfl, _, _, _, _, _, _, rfl, Rw.new _ _ _, hP9.alloc _, hd⟩))))))))))⟩
      rcases hI with ⟨rfl, rfl, x35, x36, x37, x38, rfl⟩ | hI
      · refine wpAnyH_ready (rs := [1, 13]) (by kernel_rfl) (by simp) ?_
        refine AllReadyH.cons rfl (fun Kc hK => ?_) ?_
        · go_simp
          go_fit (print_any _ (tab_below htab hS.1) m s (by omega) o HO.out.1)
          rintro e V ⟨rfl, hq⟩
          refine hK.out _ _ (hb2 hq hS) (fun hS' => ?_)
          exact IH.out _ _ _ _ (by omega) ⟨hS', Or.inr (Or.inr (Or.inr (Or.inr (Or.inr (Or.inr (Or.inr (Or.inr (Or.inl (⟨rfl, by kernel_rfl, _, _, _, _, _, rfl⟩)))))))))⟩
        refine AllReadyH.cons rfl (fun Kc hK => ?_) AllReadyH.nil
        have hlt : w.heap.size < Wn.heap.size ∧ (w.heap.size + 1) < Wn.heap.size := ⟨block_lt_of_cell hS.2.1.1, block_lt_of_cell hS.2.2.1⟩
        have hle := hS.1.size
        go_simp
        refine hK.out _ _ (ab2 hS) (fun hS' => ?_)
        exact IH.out _ _ _ _ (by omega) ⟨hS', Or.inr (Or.inr (Or.inr (Or.inr (Or.inr (Or.inr (Or.inr (Or.inr (Or.inr (Or.inr (Or.inl (⟨rfl, by kernel_rfl, _, _, _, _, _, rfl, Bk.new _ _, (by omega)⟩)))))))))))⟩
      rcases hI with ⟨rfl, rfl, x35, x36, x37, g38, p9, rfl, hG38, hP9, hd⟩ | hI
      · refine wpAnyH_ready (rs := [1, 6]) (by kernel_rfl) (by simp) ?_
        refine AllReadyH.cons rfl (fun Kc hK => ?_) ?_
        · go_simp
          go_fit (print_any _ (tab_below htab hS.1) m s (by omega) o HO.out.1)
          rintro e V ⟨rfl, hq⟩
          refine hK.out _ _ (hb2 hq hS) (fun hS' => ?_)
          exact IH.out _ _ _ _ (by omega) ⟨hS', Or.inr (Or.inr (Or.inr (Or.inr (Or.inr (Or.inr (Or.inr (Or.inr (Or.inr (Or.inl (⟨rfl, by kernel_rfl, _, _, _, _, _, _, rfl, hG38.below hq hG38.lt, hP9.below hq, hd⟩))))))))))⟩
        refine AllReadyH.cons rfl (fun Kc hK => ?_) AllReadyH.nil
        have hcv := one_byte_at hG38 (by omega) (by omega) HK.out
        go_simp
        refine hK.out _ _ (hS) (fun hS' => ?_)
        exact IH.out _ _ _ _ (by omega) ⟨hS', Or.inr (Or.inr (Or.inr (Or.inr (Or.inr (Or.inr (Or.inr (Or.inr (Or.inr (Or.inr (Or.inl (⟨rfl, by kernel_rfl, _, _, _, _, _, rfl, hP9, hd⟩)))))))))))⟩
      rcases hI with ⟨rfl, rfl, x33, x35, x36, x37, x38, rfl⟩ | hI
      · refine dag_take (i := 7) (d := some 40) (v := ?v7n5) rfl rfl (by kernel_rfl) (by kernel_rfl) (by kernel_rfl) (fun _ _ _ h => h) (Or.inl ⟨by rfl, ?y7n5⟩) hS ?_
        case y7n5 => intro w hSw; (try dsimp only at hSw); go_simp; first | done | with_reducible rfl
        try simp only [Act.put, List.setIfInBounds_toArray, List.set_cons_zero, List.set_cons_succ]
        refine wpAnyH_ready (rs := [8, 13]) (by kernel_rfl) (by simp) ?_
        refine AllReadyH.cons rfl (fun Kc hK => ?_) ?_
        · go_simp
          go_fit (parse_good _ (o ++ oc) (by omega) HO.out.2.1 zx ox HO.out.2.2.1)
          rintro e V ⟨rfl, hq⟩
          refine hK.out _ _ (hb2 hq hS) (fun hS' => ?_)
          exact IH.out _ _ _ _ (by omega) ⟨hS', Or.inr (Or.inr (Or.inr (Or.inr (Or.inr (Or.inr (Or.inr (Or.inr (Or.inr (Or.inr (Or.inr (Or.inr (Or.inl (⟨rfl, by kernel_rfl, _, _, _, _, _, _, _, _, rfl⟩)))))))))))))⟩
        refine AllReadyH.cons rfl (fun Kc hK => ?_) AllReadyH.nil
        have hlt : w.heap.size < Wn.heap.size ∧ (w.heap.size + 1) < Wn.heap.size := ⟨block_lt_of_cell hS.2.1.1, block_lt_of_cell hS.2.2.1⟩
        have hle := hS.1.size
        go_simp
        refine hK.out _ _ (ab2 hS) (fun hS' => ?_)
        exact IH.out _ _ _ _ (by omega) ⟨hS', Or.inr (Or.inr (Or.inr (Or.inr (Or.inr (Or.inr (Or.inr (Or.inr (Or.inr (Or.inr (Or.inr (Or.inr (Or.inr (Or.inl (⟨rfl, by kernel_rfl, _, _, _, _, _, _, _, _, rfl, Bk.new _ _, (by omega)⟩))))))))))))))⟩
      rcases hI with ⟨rfl, rfl, x33, x35, x36, x37, g38, p9, rfl, hG38, hP9, hd⟩ | hI
      · refine wpAnyH_ready (rs := [6]) (by kernel_rfl) (by simp) ?_
        refine AllReadyH.cons rfl (fun Kc hK => ?_) AllReadyH.nil
        have hcv := one_byte_at hG38 (by omega) (by omega) HK.out
        go_simp
        refine hK.out _ _ (hS) (fun hS' => ?_)
        exact IH.out _ _ _ _ (by omega) ⟨hS', Or.inr (Or.inr (Or.inr (Or.inr (Or.inr (Or.inr (Or.inr (Or.inr (Or.inr (Or.inr (Or.inr (Or.inl (⟨rfl, by kernel_rfl, _, _, _, _, _, _, rfl, hP9, hd⟩))))))))))))⟩
      rcases hI with ⟨rfl, rfl, x35, x36, x37, x38, p9, rfl, hP9, hd⟩ | hI
      · refine wpAnyH_ready (rs := [1]) (by kernel_rfl) (by simp) ?_
        refine AllReadyH.cons rfl (fun Kc hK => ?_) AllReadyH.nil
        go_simp
        go_fit (print_any _ (tab_below htab hS.1) m s (by omega) o HO.out.1)
        rintro e V ⟨rfl, hq⟩
        refine hK.out _ _ (hb2 hq hS) (fun hS' => ?_)
        exact IH.out _ _ _ _ (by omega) ⟨hS', Or.inr (Or.inr (Or.inr (Or.inr (Or.inr (Or.inr (Or.inr (Or.inr (Or.inr (Or.inr (Or.inr (Or.inl (⟨rfl, by kernel_rfl, _, _, _, _, _, _, rfl, hP9.below hq, hd⟩))))))))))))⟩
      rcases hI with ⟨rfl, rfl, x33, x35, x36, x37, x38, p9, rfl, hP9, hd⟩ | hI
      · refine dag_take (i := 7) (d := some 40) (v := ?v7n6) rfl rfl (by kernel_rfl) (by kernel_rfl) (by kernel_rfl) (fun _ _ _ h => h) (Or.inl ⟨by rfl, ?y7n6⟩) hS ?_
        case y7n6 => intro w hSw; (try dsimp only at hSw); go_simp; first | done | with_reducible rfl
        try simp only [Act.put, List.setIfInBounds_toArray, List.set_cons_zero, List.set_cons_succ]
        refine wpAnyH_ready (rs := [8]) (by kernel_rfl) (by simp) ?_
        refine AllReadyH.cons rfl (fun Kc hK => ?_) AllReadyH.nil
        go_simp
        go_fit (parse_good _ (o ++ oc) (by omega) HO.out.2.1 zx ox HO.out.2.2.1)
        rintro e V ⟨rfl, hq⟩
        refine hK.out _ _ (hb2 hq hS) (fun hS' => ?_)
        exact IH.out _ _ _ _ (by omega) ⟨hS', Or.inr (Or.inr (Or.inr (Or.inr (Or.inr (Or.inr (Or.inr (Or.inr (Or.inr (Or.inr (Or.inr (Or.inr (Or.inr (Or.inr (Or.inl (⟨rfl, by kernel_rfl, _, _, _, _, _, _, _, _, _, rfl, hP9.below hq, hd⟩)))))))))))))))⟩
      rcases hI with ⟨rfl, rfl, x33, x34, x35, x36, x37, x38, x39, x40, rfl⟩ | hI
      · refine dag_take (i := 9) (d := some 32) (v := ?v9n7) rfl rfl (by kernel_rfl) (by kernel_rfl) (by kernel_rfl) (fun _ _ _ h => h) (Or.inl ⟨by rfl, ?y9n7⟩) hS ?_
        case y9n7 => intro w hSw; (try dsimp only at hSw); go_simp; first | done | with_reducible rfl
        try simp only [Act.put, List.setIfInBounds_toArray, List.set_cons_zero, List.set_cons_succ]
        refine dag_take (i := 10) (d := some 42) (v := ?v10n8) rfl rfl (by kernel_rfl) (by kernel_rfl) (by kernel_rfl) (fun _ _ _ h => h) (Or.inl ⟨by rfl, ?y10n8⟩) hS ?_
        case y10n8 => intro w hSw; (try dsimp only at hSw); go_simp; first | done | with_reducible rfl
        try simp only [Act.put, List.setIfInBounds_toArray, List.set_cons_zero, List.set_cons_succ]
        refine dag_take (i := 11) (d := some 43) (v := ?v11n9) rfl rfl (by kernel_rfl) (by kernel_rfl) (by kernel_rfl) (fun _ _ _ h => h) (Or.inl ⟨by rfl, ?y11n9⟩) hS ?_
        case y11n9 => intro w hSw; (try dsimp only at hSw); go_simp; first | done | with_reducible rfl
        try simp only [Act.put, List.setIfInBounds_toArray, List.set_cons_zero, List.set_cons_succ]
        refine dag_take (i := 12) (d := some 44) (v := ?v12n10) rfl rfl (by kernel_rfl) (by kernel_rfl) (by kernel_rfl) (fun _ _ _ h => h) (Or.inl ⟨by rfl, ?y12n10⟩) hS ?_
        case y12n10 => intro w hSw; (try dsimp only at hSw); go_simp; first | done | with_reducible rfl
        try simp only [Act.put, List.setIfInBounds_toArray, List.set_cons_zero, List.set_cons_succ]
        refine wpAnyH_ready (rs := [13]) (by kernel_rfl) (by simp) ?_
        refine AllReadyH.cons rfl (fun Kc hK => ?_) AllReadyH.nil
        have hlt : w.heap.size < Wn.heap.size ∧ (w.heap.size + 1) < Wn.heap.size := ⟨block_lt_of_cell hS.2.1.1, block_lt_of_cell hS.2.2.1⟩
        have hle := hS.1.size
        go_simp
        refine hK.out _ _ (ab2 hS) (fun hS' => ?_)
        exact IH.out _ _ _ _ (by omega) ⟨hS', Or.inr (Or.inr (Or.inr (Or.inr (Or.inr (Or.inr (Or.inr (Or.inr (Or.inr (Or.inr (Or.inr (Or.inr (Or.inr (Or.inr (Or.inr (Or.inl (⟨rfl, by kernel_rfl, _, _, _, _, _, _, _, _, _, _, _, rfl, Bk.new _ _, (by omega)⟩))))))))))))))))⟩
      rcases hI with ⟨rfl, rfl, x33, x34, x35, x36, x37, x38, x39, p9, rfl, hP9, hd⟩ | hI
      · refine wpAnyH_ready (rs := [8]) (by kernel_rfl) (by simp) ?_
        refine AllReadyH.cons rfl (fun Kc hK => ?_) AllReadyH.nil
        go_simp
        go_fit (parse_good _ (o ++ oc) (by omega) HO.out.2.1 zx ox HO.out.2.2.1)
        rintro e V ⟨rfl, hq⟩
        refine hK.out _ _ (hb2 hq hS) (fun hS' => ?_)
        exact IH.out _ _ _ _ (by omega) ⟨hS', Or.inr (Or.inr (Or.inr (Or.inr (Or.inr (Or.inr (Or.inr (Or.inr (Or.inr (Or.inr (Or.inr (Or.inr (Or.inr (Or.inr (Or.inl (⟨rfl, by kernel_rfl, _, _, _, _, _, _, _, _, _, rfl, hP9.below hq, hd⟩)))))))))))))))⟩
      rcases hI with ⟨rfl, rfl, x33, x34, x35, x36, x37, x38, x39, x40, p9, rfl, hP9, hd⟩ | hI
      · refine dag_take (i := 9) (d := some 32) (v := ?v9n11) rfl rfl (by kernel_rfl) (by kernel_rfl) (by kernel_rfl) (fun _ _ _ h => h) (Or.inl ⟨by rfl, ?y9n11⟩) hS ?_
        case y9n11 => intro w hSw; (try dsimp only at hSw); go_simp; first | done | with_reducible rfl
        try simp only [Act.put, List.setIfInBounds_toArray, List.set_cons_zero, List.set_cons_succ]
        refine dag_take (i := 10) (d := some 42) (v := ?v10n12) rfl rfl (by kernel_rfl) (by kernel_rfl) (by kernel_rfl) (fun _ _ _ h => h) (Or.inl ⟨by rfl, ?y10n12⟩) hS ?_
        case y10n12 => intro w hSw; (try dsimp only at hSw); go_simp; first | done | with_reducible rfl
        try simp only [Act.put, List.setIfInBounds_toArray, List.set_cons_zero, List.set_cons_succ]
        refine dag_take (i := 11) (d := some 43) (v := ?v11n13) rfl rfl (by kernel_rfl) (by kernel_rfl) (by kernel_rfl) (fun _ _ _ h => h) (Or.inl ⟨by rfl, ?y11n13⟩) hS ?_
        case y11n13 => intro w hSw; (try dsimp only at hSw); go_simp; first | done | with_reducible rfl
        try simp only [Act.put, List.setIfInBounds_toArray, List.set_cons_zero, List.set_cons_succ]
        refine dag_take (i := 12) (d := some 44) (v := ?v12n14) rfl rfl (by kernel_rfl) (by kernel_rfl) (by kernel_rfl) (fun _ _ _ h => h) (Or.inl ⟨by rfl, ?y12n14⟩) hS ?_
        case y12n14 => intro w hSw; (try dsimp only at hSw); go_simp; first | done | with_reducible rfl
        try simp only [Act.put, List.setIfInBounds_toArray, List.set_cons_zero, List.set_cons_succ]
        refine wpAnyH_ready (rs := [14]) (by kernel_rfl) (by simp) ?_
        refine AllReadyH.cons rfl (fun Kc hK => ?_) AllReadyH.nil
        obtain ⟨q0, q1, q2, q3⟩ := hP9.facts
        go_simp
        refine hK.out _ _ (sb2 hS (by omega) (by omega)) (fun hS' => ?_)
        exact IH.out _ _ _ _ (by omega) ⟨hS', Or.inr (Or.inr (Or.inr (Or.inr (Or.inr (Or.inr (Or.inr (Or.inr (Or.inr (Or.inr (Or.inr (Or.inr (Or.inr (Or.inr (Or.inr (Or.inr (⟨rfl, by kernel_rfl, _, _, _, _, _, _, _, _, _, _, _, _, rfl, hP9.set_ _ _, hd⟩))))))))))))))))⟩
      rcases hI with ⟨rfl, rfl, x33, x34, x35, x36, x37, x38, x39, x40, x41, x32, p9, rfl, hP9, hd⟩ | hI
      · refine wpAnyH_ready (rs := [14]) (by kernel_rfl) (by simp) ?_
        refine AllReadyH.cons rfl (fun Kc hK => ?_) AllReadyH.nil
        obtain ⟨q0, q1, q2, q3⟩ := hP9.facts
        go_simp
        refine hK.out _ _ (sb2 hS (by omega) (by omega)) (fun hS' => ?_)
        exact IH.out _ _ _ _ (by omega) ⟨hS', Or.inr (Or.inr (Or.inr (Or.inr (Or.inr (Or.inr (Or.inr (Or.inr (Or.inr (Or.inr (Or.inr (Or.inr (Or.inr (Or.inr (Or.inr (Or.inr (⟨rfl, by kernel_rfl, _, _, _, _, _, _, _, _, _, _, _, _, rfl, hP9.set_ _ _, hd⟩))))))))))))))))⟩
      obtain ⟨rfl, rfl, x33, x34, x35, x36, x37, x38, x39, x40, x41, x32, x42, p9, rfl, hP9, hd⟩ := hI
      refine dag_take (i := 15) (d := some 10) (v := ?v15n15) rfl rfl (by kernel_rfl) (by kernel_rfl) (by kernel_rfl) (fun _ _ _ h => h) (Or.inl ⟨by rfl, ?y15n15⟩) hS ?_
      case y15n15 => intro w hSw; (try dsimp only at hSw); go_simp; first | done | with_reducible rfl
      try simp only [Act.put, List.setIfInBounds_toArray, List.set_cons_zero, List.set_cons_succ]
      refine dag_take (i := 16) (d := some 11) (v := ?v16n16) rfl rfl (by kernel_rfl) (by kernel_rfl) (by kernel_rfl) (fun _ _ _ h => h) (Or.inl ⟨by rfl, ?y16n16⟩) hS ?_
      case y16n16 => intro w hSw; (try dsimp only at hSw); go_simp; first | done | with_reducible rfl
      try simp only [Act.put, List.setIfInBounds_toArray, List.set_cons_zero, List.set_cons_succ]
      refine wpAnyH_done (by kernel_rfl) ?_ _
      clear IH
      go_wp2_with fail
      have hin : (fun w' => (w'.cell? ⟨w.heap.size, 0, none⟩ = some (.bool m) ∧ w'.cell? ⟨w.heap.size, 1, none⟩ = some (.string s)) ∧ (w'.cell? ⟨w.heap.size + 1, 0, none⟩ = some (.bool n) ∧ w'.cell? ⟨w.heap.size + 1, 1, none⟩ = some (.string t)) ∧ (w'.cell? ⟨p9, 0, none⟩ = some (.bool zx) ∧ w'.cell? ⟨p9, 1, none⟩ = some (.string ox))) Wn.drew := ⟨hS.2.1, hS.2.2, hP9.drew.cells⟩
      have hb := hS.1.drew
      clear hS hP9 hd
      go_region_held3 (fun w' => (w'.cell? ⟨w.heap.size, 0, none⟩ = some (.bool m) ∧ w'.cell? ⟨w.heap.size, 1, none⟩ = some (.string s)) ∧ (w'.cell? ⟨w.heap.size + 1, 0, none⟩ = some (.bool n) ∧ w'.cell? ⟨w.heap.size + 1, 1, none⟩ = some (.string t)) ∧ (w'.cell? ⟨p9, 0, none⟩ = some (.bool zx) ∧ w'.cell? ⟨p9, 1, none⟩ = some (.string ox)))
        (first | assumption | exact held3 (by assumption) (by assumption) | exact held3_alloc (by assumption))
        (first
           | (go_at_call 26; go_fit (wof_any _ 10 (by omega) (by omega) false ⟨#[10]⟩ (by kernel_rfl)); rintro e V ⟨rfl, hq⟩; replace hb := below_next hb hq)
           | (go_at_call 26; go_fit (wof_any _ kc (by omega) (by omega) zk ok' H2.out.2.1); rintro e V ⟨rfl, hq⟩; replace hb := below_next hb hq)
           | (go_at_call 25; go_fit (vmul2 _ _ m false s ⟨#[10]⟩ (by omega) (by decide) ?_ zm om H2.out.1); (repeat (first | exact iat_new0 rfl | exact iat_new1 rfl | exact iat_new2 rfl | exact iat_new3 rfl | refine IAt.alloc _ ?_ | refine iat_below (by assumption) ?_)); rintro e V ⟨rfl, hq⟩; replace hb := below_next (hb.alloc hb.size _) hq)
           | (go_at_call 24; go_fit (vadd2 _ _ zm zk om ok' (by omega) (by omega) ?_ zx ox H2.out.2.2.1); (repeat (first | exact iat_new0 rfl | exact iat_new1 rfl | exact iat_new2 rfl | exact iat_new3 rfl | refine IAt.alloc _ ?_ | refine iat_below (by assumption) ?_)); rintro e V ⟨rfl, hq⟩; replace hb := below_next (hb.alloc hb.size _) hq)
           | (go_at_call 17; go_fit (dlen_any _ (tab_below htab hb) zx ox (by omega) ((L : Int) + 1) H2.out.2.2.2.1); rintro e V ⟨rfl, hq⟩; replace hb := below_next hb hq)
           | (go_at_call 17; go_fit (dlen_any _ (tab_below htab hb) m s (by omega) (L : Int) H2.out.2.2.2.2); rintro e V ⟨rfl, hq⟩; replace hb := below_next hb hq))
      rename_i hin2
      clear hin H2 HO HK w1 w2 w3 w4 hkc vx ex hk3 hcat hsz hoc1
      go_wp2_with fail
      obtain ⟨c2, hc2⟩ : ∃ c2, sg (wv n t) = c2 := ⟨_, rfl⟩
      refine (wsign_any _ n t (by omega) c2 hc2).mono ?_
      rintro e U ⟨rfl, hq2⟩
      replace hb := below_next hb hq2
      have hin := held2 ⟨hin2.1, hin2.2.1⟩ hq2
      clear hin2 hq2
      rcases sg_cases (wv n t) with ⟨hz2, hc3⟩ | hz2
      · have hc20 : c2 = 0 := by rw [← hc2, hc3]
        subst hc20
        go_wp2_with fail
        refine (dlen_any _ (tab_below htab hb) false ⟨#[]⟩ (by decide) 1 (by kernel_rfl)).mono ?_
        rintro e U2 ⟨rfl, hq⟩
        replace hb := below_next hb hq
        go_wp2_with fail
        refine (dawake_any _ (tab_below htab hb)).mono ?_
        rintro e W9 ⟨rfl, hq⟩
        replace hb := below_next hb hq
        go_wp2
        go_ret
        exact ⟨rfl, hb⟩
      · have hc2n : (c2 == 0) = false := by
          rcases hz2 with ⟨_, h⟩ | ⟨_, h⟩
          all_goals
            rw [← hc2, h]
            rfl
        obtain ⟨zp, op, ep, vp, sp⟩ := times_nmw m n s t (k := 200) (l := 200) (by omega) (by omega)
        have ht0 : 0 < num t := by have := wv_abs n t; omega
        obtain ⟨M, hM⟩ : ∃ M, nDigits (num t) = M := ⟨_, rfl⟩
        have hMs : M ≤ 601 := by have := nDigits_num t; omega
        have hL1 : 0 < L := by rw [← hL]; exact nDigits_pos _
        have hM1 : 0 < M := by rw [← hM]; exact nDigits_pos _
        have hnp : num op = num s * num t := by rw [← wv_abs zp op, vp, Int.natAbs_mul, wv_abs, wv_abs]
        obtain ⟨P, hP⟩ : ∃ P : Int, ((nDigits (num op) : Nat) : Int) = P := ⟨_, rfl⟩
        have hPc : P = (L : Int) + M ∨ (P = (L : Int) + M - 1 ∧ ((L : Int) + M - 1 == (L : Int) + M) = false) := by
          rcases nDigits_mul hs0 ht0 with h | h
          · refine .inl ?_
            rw [← hP, hnp, h, hL, hM]
            rfl
          · refine .inr ⟨?_, ?_⟩
            · rw [← hP, hnp, h, hL, hM]
              omega
            · rw [beq_eq_false_iff_ne]
              omega
        have w5 : IntKind.i64.wrap ((L : Int) + (M : Int)) = (L : Int) + (M : Int) := by rw [IntKind.wrap_i64]; omega
        have w6 : IntKind.i64.wrap ((L : Int) + (M : Int) - 1) = (L : Int) + (M : Int) - 1 := by rw [IntKind.wrap_i64]; omega
        have H3 := Lib.hid (And.intro ep (And.intro hP (And.intro (show ((nDigits (num s) : Nat) : Int) = (L : Int) by rw [hL]) (show ((nDigits (num t) : Nat) : Int) = (M : Int) by rw [hM]))))
        have HPc := Lib.hid hPc
        clear ep vp hnp hP hPc hL hM hs0 ht0
        go_wp2_with fail
        refine (cmul2 _ m n s t (by omega) (by omega) zp op H3.out.1).mono ?_
        rintro e U2 ⟨rfl, hq⟩
        replace hb := below_next (hb.alloc hb.size _) hq
        replace hin := held2 (held2_alloc (o := .cells #[.bool m, .string s, .bool n, .string t] 23) hin) hq
        clear hq
        go_wp2_with fail
        refine (dlen_any _ (tab_below htab hb) zp op (by omega) P H3.out.2.1).mono ?_
        rintro e U3 ⟨rfl, hq⟩
        replace hb := (below_next hb hq).drew
        have hin2 := held2 hin hq
        clear hq hin
        obtain ⟨⟨hA0, hA1⟩, hB0, hB1⟩ := hin2
        go_wp2_with fail
        have hin : (fun w' => (w'.cell? ⟨w.heap.size, 0, none⟩ = some (.bool m) ∧ w'.cell? ⟨w.heap.size, 1, none⟩ = some (.string s)) ∧ (w'.cell? ⟨w.heap.size + 1, 0, none⟩ = some (.bool n) ∧ w'.cell? ⟨w.heap.size + 1, 1, none⟩ = some (.string t))) U3.drew := ⟨⟨hA0, hA1⟩, hB0, hB1⟩
        clear hA0 hA1 hB0 hB1
        go_region_held3 (fun w' => (w'.cell? ⟨w.heap.size, 0, none⟩ = some (.bool m) ∧ w'.cell? ⟨w.heap.size, 1, none⟩ = some (.string s)) ∧ (w'.cell? ⟨w.heap.size + 1, 0, none⟩ = some (.bool n) ∧ w'.cell? ⟨w.heap.size + 1, 1, none⟩ = some (.string t)))
          (first | assumption | exact held2 (by assumption) (by assumption) | exact held2_alloc (by assumption))
          (first
             | (go_at_call 17; go_fit (dlen_any _ (tab_below htab hb) m s (by omega) (L : Int) H3.out.2.2.1); rintro e V ⟨rfl, hq⟩; replace hb := below_next hb hq)
             | (go_at_call 17; go_fit (dlen_any _ (tab_below htab hb) n t (by omega) (M : Int) H3.out.2.2.2); rintro e V ⟨rfl, hq⟩; replace hb := below_next hb hq))
        clear hin
        rcases HPc.out with rfl | ⟨rfl, hne⟩
        · go_wp2_with fail
          refine (dawake_any _ (tab_below htab hb)).mono ?_
          rintro e W9 ⟨rfl, hq⟩
          replace hb := below_next hb hq
          go_wp2
          go_ret
          exact ⟨rfl, hb⟩
        · go_wp2_with fail
          refine (dawake_any _ (tab_below htab hb)).mono ?_
          rintro e W9 ⟨rfl, hq⟩
          replace hb := below_next hb hq
          go_wp2
          go_ret
          exact ⟨rfl, hb⟩

theorem dstep_law (w : World) (htab : TabIs Tryz.prog w "internal/strconv.uint64pow10" .u64 pow10Tab) (m n : Bool) (s t : ByteArray) (d : Int) (hd : (Lit.int .u8 d).wf = true) :
    Calls Tryz.prog 6 #[wi m s, wi n t, .int .u8 d] w (Ret (.bool true) w) := by
  simp [Lit.wf, IntKind.min, IntKind.max, IntKind.signed, IntKind.bits] at hd
  obtain ⟨k, rfl⟩ : ∃ k : Nat, d = (k : Int) := ⟨d.toNat, by omega⟩
  exact dstep_any w htab m n s t k (by omega)
end Go.Proofs.YtfgolecbchhokaaGreatDoor
