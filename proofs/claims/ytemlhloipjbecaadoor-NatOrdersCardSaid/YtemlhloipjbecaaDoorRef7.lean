/- The document's answers of one or two numbers, walked. -/
import Derived.Test.YtemlhloipjbecaaDoorRef6
namespace Go.Proofs.YtemlhloipjbecaaDoor
open Go.RowKit Go.Shelf

theorem below_trans {w W W' : World} (hb : Below w.heap.size w W) (hc : Below W.heap.size W W') : Below w.heap.size w W' := hb.trans (hc.mono hb.size)
def intN : Value → Nat | .int _ n => n.toNat | _ => 0

set_option maxRecDepth 100000 in
set_option maxHeartbeats 800000 in
theorem ref_of (w : World) (n : Nat) (hn : n < B64) : Calls Tryd.prog 14 #[.int .u64 n] w (Ret (.string (fb n)) w) := by
  have hO := OB.nil w
  go_enter Tryd.func14, Tryd.ntmps14
  go_wp2
  go_loopw [3, 0] (fun v i wr => ∃ (m : Nat) (es : List Nat), i = .int .u64 m ∧ OB w wr v es ∧ es.length ≤ 64 ∧ m < 2 ^ (64 - es.length) ∧ val2 es + 2 ^ es.length * m = n) (fun _ i _ => intN i)
  case atStart => exact ⟨n, [], rfl, hO, by simp, hn, by simp [val2]⟩
  case round =>
    clear hO
    obtain ⟨m, es, rfl, hO, hel, hml, hev⟩ := hrel
    have HE := Lib.hid (And.intro hml hev); clear hml hev
    by_cases hm0 : m = 0
    · subst hm0
      obtain ⟨ad, c, rfl, hbw⟩ := hO.bw
      go_wp2_with fail
      refine (textr_any _ ad c es.length es hbw rfl hO.2.2 (by omega)).mono ?_
      rintro e w' ⟨rfl, hb⟩
      go_wp2
      go_ret
      refine ⟨?_, below_trans hO.2.1 hb⟩
      have := HE.out.2
      rw [Nat.mul_zero, Nat.add_zero] at this
      rw [← this]; rfl
    · have hmp : decide ((0 : Int) < (m : Int)) = true := by simp; omega
      have hel2 : es.length < 64 := by
        rcases Nat.lt_or_ge es.length 64 with h | h
        · exact h
        · have := HE.out.1
          rw [show 64 - es.length = 0 by omega] at this
          omega
      have hm64 : m < 18446744073709551616 := Nat.lt_of_lt_of_le HE.out.1 (show 2 ^ (64 - es.length) ≤ 2 ^ 64 from Nat.pow_le_pow_right (by omega) (by omega))
      have wm : IntKind.u64.wrap ((m : Int) / 2) = (m : Int) / 2 := by rw [IntKind.wrap_u64]; omega
      clear hm64
      go_wp2_with (first
        | (at_builtin; refine wpList_append_bit rfl (.tmp 8) (.tmp 12) rfl _ es rfl hO _ (m % 2) (by unfold bv; simp) (Nat.mod_lt _ (by omega)) _ 1 rfl rfl (by omega) ?_))
      intro v' w' hO2
      clear hO
      go_wp2
      go_roundw
      case rel =>
        refine ⟨m / 2, es ++ [m % 2], by simp, hO2, by simp; omega, ?_, ?_⟩
        · have h1 := HE.out.1
          rw [List.length_append, List.length_singleton]
          rw [show 64 - es.length = (64 - (es.length + 1)) + 1 by omega, Nat.pow_succ] at h1
          omega
        · have h1 := HE.out.2
          rw [val2_snoc, List.length_append, List.length_singleton, Nat.pow_succ, Nat.mul_assoc, Nat.add_assoc, ← Nat.mul_add, Nat.mod_add_div]
          exact h1
      case measure => simp [intN]; omega

theorem ref_len (w : World) (s : ByteArray) (hs : s.size ≤ 1000000) : Calls Tryd.prog 19 #[.string s] w (Ret (.int .i64 (bl (num s))) w) := by
  go_enter Tryd.func19, Tryd.ntmps19
  go_wp2_with fail
  refine (bits_of_any _ s hs).mono ?_
  rintro e w' ⟨ad, c, es, rfl, hbw, hbit, htop, hv, hle, hb⟩
  have hl := htop.length hbit
  rw [hv] at hl
  have HL := Lib.hid hl; clear hl hv
  go_wp2
  go_ret
  exact ⟨by rw [← HL.out]; rfl, hb⟩

theorem ref_cmp (w : World) (s t : ByteArray) (hs : s.size ≤ 1000000) (ht : t.size ≤ 1000000) : Calls Tryd.prog 25 #[.string s, .string t] w (Ret (.int .i64 (cmpN (num s) (num t))) w) := by
  go_enter Tryd.func25, Tryd.ntmps25
  go_wp2_with fail
  refine (bits_of_any _ s hs).mono ?_
  rintro e w1 ⟨ad, c, es, rfl, hbw, hbit, _, hv, hle, hb⟩
  go_wp2_with fail
  refine (bits_of_any _ t ht).mono ?_
  rintro e w2 ⟨bd, d, fs, rfl, hbw2, hbit2, _, hv2, hle2, hb2⟩
  have hbw' := hbw.below hb2
  go_wp2_with fail
  refine (compare_any _ ad bd c d es.length fs.length es fs hbw' hbw2 rfl rfl hbit hbit2 (by omega) (by omega)).mono ?_
  rintro e w3 ⟨rfl, rfl⟩
  rw [hv, hv2]
  go_wp2
  go_ret
  exact ⟨rfl, below_trans hb hb2⟩

set_option maxHeartbeats 400000 in
theorem ref_sub (w : World) (s t : ByteArray) (hs : s.size ≤ 1000000) (ht : t.size ≤ 1000000) : Calls Tryd.prog 23 #[.string s, .string t] w (Ret (.tuple #[.string (fb (num s - num t)), .bool (decide (num t ≤ num s))]) w) := by
  go_enter Tryd.func23, Tryd.ntmps23
  go_wp2_with fail
  refine (ref_cmp _ s t hs ht).mono ?_
  rintro e w1 ⟨rfl, hb⟩
  by_cases h : num s < num t
  · have hc : decide (cmpN (num s) (num t) < 0) = true := by unfold cmpN; rw [if_pos h]; decide
    have hd : num s - num t = 0 := by omega
    have hl : decide (num t ≤ num s) = false := by simp; omega
    have HD := Lib.hid (And.intro hd hl); clear hd hl h
    go_wp2
    go_ret2
    exact ⟨by rw [HD.out.1, HD.out.2]; rfl, hb⟩
  · have hc : decide (cmpN (num s) (num t) < 0) = false := by unfold cmpN; rw [if_neg h]; split <;> simp
    have hl : decide (num t ≤ num s) = true := by simp; omega
    have hle : num t ≤ num s := by omega
    have HL := Lib.hid (And.intro hl hle); clear hl hle h
    go_wp2_with fail
    refine (bits_of_any _ s hs).mono ?_
    rintro e w2 ⟨ad, c, es, rfl, hbw, hbit, _, hv, hle, hb2⟩
    replace hb := below_trans hb hb2; clear hb2
    go_wp2_with fail
    refine (bits_of_any _ t ht).mono ?_
    rintro e w3 ⟨bd, d, fs, rfl, hbw2, hbit2, _, hv2, hle2, hb2⟩
    have hbw' := hbw.below hb2
    replace hb := below_trans hb hb2; clear hb2 hbw
    go_wp2_with fail
    refine (minusr_any _ ad bd c d es.length fs.length es fs hbw' hbw2 rfl rfl hbit hbit2 (by omega) (by rw [hv, hv2]; exact HL.out.2)).mono ?_
    rintro e w4 ⟨gs, rfl, hbw3, hgl, hbit3, hv3, hb2⟩
    rw [hv, hv2] at hv3
    replace hb := below_trans hb hb2; clear hb2
    go_wp2_with fail
    refine (textr_any _ _ _ _ gs hbw3 hgl hbit3 (by omega)).mono ?_
    rintro e w5 ⟨rfl, hb2⟩
    rw [hv3]
    go_wp2
    go_ret2
    exact ⟨by rw [HL.out.1]; rfl, below_trans hb hb2⟩
end Go.Proofs.YtemlhloipjbecaaDoor
