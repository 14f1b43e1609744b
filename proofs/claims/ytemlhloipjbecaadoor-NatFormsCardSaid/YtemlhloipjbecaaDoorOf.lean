/- A digit's bytes, and its text, walked. -/
import Derived.Test.YtemlhloipjbecaaDoorByte
import Derived.Test.YtemlhloipjbecaaDoorRow1
import Derived.Laws.BytesArg
import Derived.Lib.ItoaNum
namespace Go.Proofs.YtemlhloipjbecaaDoor
open Go.RowKit Go.Shelf

/-- Bytes as values. -/
def by8 (b : UInt8) : Value := .int .u8 (b.toNat : Int)
/-- A string by its bytes. -/
def str (l : List UInt8) : Value := .string ⟨l.toArray⟩

theorem by8_ofNat (m : Nat) : by8 (UInt8.ofNat m) = .int .u8 ((m : Int) % 256) := by simp [by8]
theorem eight_vals (n : Nat) : ((eightL n).map by8).toArray = #[.int .u8 ((n : Int) / 72057594037927936 % 256), .int .u8 ((n : Int) / 281474976710656 % 256), .int .u8 ((n : Int) / 1099511627776 % 256), .int .u8 ((n : Int) / 4294967296 % 256),
    .int .u8 ((n : Int) / 16777216 % 256), .int .u8 ((n : Int) / 65536 % 256), .int .u8 ((n : Int) / 256 % 256), .int .u8 ((n : Int) % 256)] := by
  simp only [eightL, List.map_cons, List.map_nil, by8_ofNat, Int.natCast_ediv, Int.cast_ofNat_Int]

set_option maxRecDepth 100000 in
set_option maxHeartbeats 400000 in
theorem eight_any (w : World) (n : Nat) :
    Calls Tryd.prog 36 #[.int .u64 n] w fun e w' => e = .returned (.agg ((eightL n).map by8).toArray) ∧ ∃ cs, w' = w.alloc (.cells cs 46) := by
  rw [eight_vals]
  go_enter Tryd.func36, Tryd.ntmps36
  go_wp2
  refine bodyPost_ret (v := .agg #[.int .u8 ((n : Int) / 72057594037927936 % 256), .int .u8 ((n : Int) / 281474976710656 % 256), .int .u8 ((n : Int) / 1099511627776 % 256), .int .u8 ((n : Int) / 4294967296 % 256),
    .int .u8 ((n : Int) / 16777216 % 256), .int .u8 ((n : Int) / 65536 % 256), .int .u8 ((n : Int) / 256 % 256), .int .u8 ((n : Int) % 256)]) (by simp [results, Tryd.results36, go_sem]) rfl ⟨rfl, ?_⟩
  exact ⟨_, rfl⟩

/-- How many bytes 0 stand ahead of a digit, and the others. -/
theorem lz_bytes (n : Nat) (hn : n < B64) : ∃ z : Nat, z ≤ 64 ∧ (eightL n).drop (z / 8) = formL n ∧ (0 < n → z < 64) ∧ ∀ w : World,
    Calls Tryd.prog 37 #[.int .u64 n] w fun e w' => e = .returned (.int .i64 z) ∧ w = w' := by
  have hL : Lib.bitLen n = Lib.bitLenAux 64 n := rfl
  have hB : B64 = 2 ^ 64 := rfl
  have h1 : n = 0 → Lib.bitLen n = 0 := fun h => by rw [h]; rfl
  have h2 : 0 < n → 1 ≤ Lib.bitLen n ∧ 2 ^ (Lib.bitLen n - 1) ≤ n ∧ n < 2 ^ Lib.bitLen n := fun h => by
    have := Lib.bitLenAux_bounds 64 n hn (by omega)
    rwa [← hL] at this
  have h3 : Lib.bitLen n ≤ 64 := by
    rcases Nat.eq_zero_or_pos n with h | h
    · rw [h1 h]; omega
    · obtain ⟨_, a, _⟩ := h2 h
      rcases Nat.lt_or_ge 64 (Lib.bitLen n) with hh | hh
      · exfalso
        have : 2 ^ 64 ≤ 2 ^ (Lib.bitLen n - 1) := Nat.pow_le_pow_right (by omega) (by omega)
        omega
      · exact hh
  refine ⟨64 - Lib.bitLen n, by omega, eightL_drop hn h1 h2 h3, fun h => by have := (h2 h).1; omega, fun w => ?_⟩
  refine (Tryd.bits_LeadingZeros64 (n : Int) w (by omega) (by unfold B64 at hn; omega)).mono fun e w' ⟨he, hw⟩ => ⟨?_, hw.symm⟩
  rw [he, Int.toNat_natCast]
  congr 2
  omega

theorem eight_ex (n : Nat) : ∃ c0 c1 c2 c3 c4 c5 c6 c7 : UInt8, eightL n = [c0, c1, c2, c3, c4, c5, c6, c7] ∧ ∀ w : World,
    Calls Tryd.prog 36 #[.int .u64 n] w fun e w' => e = .returned (.agg #[.int .u8 c0.toNat, .int .u8 c1.toNat, .int .u8 c2.toNat, .int .u8 c3.toNat, .int .u8 c4.toNat, .int .u8 c5.toNat, .int .u8 c6.toNat, .int .u8 c7.toNat]) ∧ ∃ cs, w' = w.alloc (.cells cs 46) :=
  by
  refine ⟨UInt8.ofNat (n / 72057594037927936), UInt8.ofNat (n / 281474976710656), UInt8.ofNat (n / 1099511627776), UInt8.ofNat (n / 4294967296), UInt8.ofNat (n / 16777216), UInt8.ofNat (n / 65536), UInt8.ofNat (n / 256), UInt8.ofNat n, by simp only [eightL], fun w => ?_⟩
  exact (eight_any w n).mono fun e w' ⟨he, hb⟩ => ⟨he.trans (by simp only [eightL, by8, List.map_cons, List.map_nil]), hb⟩

theorem arr8_len : Tryd.prog.arrayLen 46 = 8 := by kernel_rfl
theorem arr8_elem : Tryd.prog.elem 46 = 5 := by kernel_rfl
theorem arr8_under : Tryd.prog.underlying 46 = some (.array (Tryd.prog.arrayLen 46) (Tryd.prog.elem 46)) := by kernel_rfl
/-- An array's bytes from k on, as a slice. -/
theorem slice8 (g k : Nat) (hk : k < 8) (w : World) : (Instr.sliceAt 46 (.pointer (some ⟨g, 0, none⟩)) (some (.int .i64 k)) none none).run Tryd.prog w = .ok (.slice (some ⟨g, k, none⟩) (8 - k) (8 - k)) w := by
  rw [run_sliceAt_array_l w 46 ⟨g, 0, none⟩ arr8_under .i64 (k : Int) (by omega) (by rw [arr8_len]; omega), arr8_len, arr8_elem]
  simp [slicedAt, Tryd.sizeOf5, Addr.add, show ¬ 8 = k by omega]
  intro h; exact h.symm
theorem slice8_end (g : Nat) (w : World) : (Instr.sliceAt 46 (.pointer (some ⟨g, 0, none⟩)) (some (.int .i64 8)) none none).run Tryd.prog w = .ok (.slice (some ⟨g, 0, none⟩) 0 0) w := by
  rw [run_sliceAt_array_l w 46 ⟨g, 0, none⟩ arr8_under .i64 8 (by omega) (by rw [arr8_len]; omega), arr8_len, arr8_elem]
  simp [slicedAt, Tryd.sizeOf5]

/-- Bytes that stand in a block, as a string. -/
theorem run_bytes_at {w : World} {g off len cap : Nat} {l : List UInt8} (hl : l.length = len) (hc : ∀ i (h : i < l.length), w.cell? ⟨g, off + i, none⟩ = some (by8 l[i])) :
    (convert 27 9 (.slice (some ⟨g, off, none⟩) len cap)).run Tryd.prog w = .ok (str l) w := by
  have h := run_convert_bytes_arg (P := Tryd.prog) w 27 5 Tryd.underlying27 Tryd.underlying5 g off len cap (l.map fun b => (b.toNat : Int)) (by simpa using hl) (fun i hi => by
    rw [hc i (by omega)]
    simp [by8, show i < l.length by omega]) 9 Tryd.underlying9
  have e : strOfNums (l.map fun b => (b.toNat : Int)) = ⟨l.toArray⟩ := by simp [strOfNums, Function.comp_def]
  rw [e] at h
  exact h

set_option maxRecDepth 100000 in
set_option maxHeartbeats 400000 in
theorem of_any (w : World) (n : Nat) (hn : n < B64) :
    Calls Tryd.prog 13 #[.int .u64 n] w fun e w' => e = .returned (str (formL n)) ∧ Below w.heap.size w w' := by
  obtain ⟨z, hz, hdrop, _, hlz⟩ := lz_bytes n hn
  obtain ⟨c0, c1, c2, c3, c4, c5, c6, c7, hc, h8⟩ := eight_ex n
  obtain ⟨k, hk⟩ : ∃ k, k = z / 8 := ⟨_, rfl⟩
  have hq : (z : Int) / 8 = (k : Int) := by omega
  rw [← hk, hc] at hdrop
  have hk8 : k ≤ 8 := by omega
  clear hk
  have HD := Lib.hid hdrop; clear hdrop hc
  have hcv : ∀ (w1 : World), k < 8 → (convert 27 9 (.slice (some ⟨w1.heap.size, k, none⟩) (8 - k) (8 - k))).run Tryd.prog (w1.alloc (.cells #[.int .u8 c0.toNat, .int .u8 c1.toNat, .int .u8 c2.toNat, .int .u8 c3.toNat, .int .u8 c4.toNat, .int .u8 c5.toNat, .int .u8 c6.toNat, .int .u8 c7.toNat] 46)) =
      .ok (str (formL n)) (w1.alloc (.cells #[.int .u8 c0.toNat, .int .u8 c1.toNat, .int .u8 c2.toNat, .int .u8 c3.toNat, .int .u8 c4.toNat, .int .u8 c5.toNat, .int .u8 c6.toNat, .int .u8 c7.toNat] 46)) := fun w1 h => by
    refine run_bytes_at (by rw [← HD.out]; simp) (fun i hi => ?_)
    have hR := (Rw.new w1 46 ([c0, c1, c2, c3, c4, c5, c6, c7].map by8)).cell (k + i)
    have hi' : k + i < 8 := by rw [← HD.out] at hi; simp at hi; omega
    refine hR.trans ?_
    rw [List.getElem?_map, List.getElem?_eq_getElem (by simpa using hi'), Option.map_some]
    congr 2
    have : (formL n)[i] = ([c0, c1, c2, c3, c4, c5, c6, c7].drop k)[i]'(by simp; omega) := by
      congr 1
      exact HD.out.symm
    rw [this, List.getElem_drop]
  go_enter Tryd.func13, Tryd.ntmps13
  go_wp2_with fail
  refine (h8 _).mono ?_
  rintro e w1 ⟨rfl, cs, hw1⟩
  have hb1 : Below w.heap.size w w1 := by rw [hw1]; exact (Below.refl _ _).alloc (Nat.le_refl _) _
  clear hw1
  have hcv1 := hcv w1
  clear hcv h8
  by_cases hk7 : k < 8
  · have hcv2 := hcv1 hk7
    have hsl := fun g w => slice8 g k hk7 w
    clear hcv1
    go_wp2_with (go_at_call 37; refine (hlz _).mono ?_; rintro e w' ⟨rfl, rfl⟩)
    go_ret
    exact ⟨rfl, hb1.alloc hb1.size _⟩
  · obtain rfl : k = 8 := by omega
    have hform : formL n = [] := by have := HD.out; simpa using this.symm
    have hsl := fun g w => slice8_end g w
    have hcv2 : ∀ (g : Nat) (w : World), (convert 27 9 (.slice (some ⟨g, 0, none⟩) 0 0)).run Tryd.prog w = .ok (str []) w := fun g w => run_bytes_at rfl (fun i hi => by simp at hi)
    have HF := Lib.hid hform; clear hform hcv1
    have hq' : (z : Int) / 8 = 8 := hq
    clear hq
    go_wp2_with (go_at_call 37; refine (hlz _).mono ?_; rintro e w' ⟨rfl, rfl⟩)
    go_ret
    rw [HF.out]
    exact ⟨rfl, hb1.alloc hb1.size _⟩

end Go.Proofs.YtemlhloipjbecaaDoor
