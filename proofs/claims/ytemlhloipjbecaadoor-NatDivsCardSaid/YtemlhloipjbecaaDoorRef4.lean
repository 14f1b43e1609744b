/- The document's answer's difference, walked. -/
import Derived.Test.YtemlhloipjbecaaDoorRef3
namespace Go.Proofs.YtemlhloipjbecaaDoor
open Go.RowKit Go.Shelf

/-- Between the rounds of Minus. -/
def MB (w wr : World) (L : Nat) (xs ys es : List Nat) (c : Nat) : Prop :=
  WB w wr w.heap.size L es ∧ c < 2 ∧ val2 es + val2 (ys.take es.length) = val2 (xs.take es.length) + 2 ^ es.length * c
theorem MB.step {w wr : World} {L : Nat} {xs ys es : List Nat} {c s : Nat} (h : MB w wr L xs ys es c) (hl : es.length < L) (hs : s + ys.getD es.length 0 + c = 2 + xs.getD es.length 0) (hs4 : s < 4) :
    MB w (wr.setCell ⟨w.heap.size, es.length, none⟩ (.int .u8 ((s % 2 : Nat) : Int))) L xs ys (es ++ [s % 2]) (1 - s / 2) := by
  obtain ⟨h1, h2, h3⟩ := h
  refine ⟨h1.step hl (Nat.le_refl _) (Nat.mod_lt _ (by omega)), by omega, ?_⟩
  have hlen : (es ++ [s % 2]).length = es.length + 1 := by simp
  rw [hlen, val2_snoc, val2_take_succ, val2_take_succ]
  have hd : s % 2 + ys.getD es.length 0 + c = xs.getD es.length 0 + 2 * (1 - s / 2) := by omega
  have hm := congrArg (fun x => 2 ^ es.length * x) hd
  simp only [Nat.mul_add] at hm
  rw [Nat.pow_succ, Nat.mul_assoc]
  omega

set_option maxRecDepth 100000 in
set_option maxHeartbeats 800000 in
theorem minusr_any (w : World) (xd yd : Option Addr) (xc yc xn yn : Nat) (xs ys : List Nat) (hx : Bw w xd xc xs) (hy : Bw w yd yc ys) (hxn : xs.length = xn) (hyn : ys.length = yn) (hbx : Bit xs) (hby : Bit ys) (hmx : xn ≤ 100000000) (hle : val2 ys ≤ val2 xs) :
    Calls Tryd.prog 47 #[.slice xd xn xc, .slice yd yn yc] w fun e w' =>
      ∃ es, e = .returned (.slice (some ⟨w.heap.size, 0, none⟩) xn xn) ∧ Bw w' (some ⟨w.heap.size, 0, none⟩) xn es ∧ es.length = xn ∧ Bit es ∧ val2 es = val2 xs - val2 ys ∧ Below w.heap.size w w' := by
  have hmk := make_bits xn (xn : Int) rfl (by omega)
  have hMB : MB w (w.alloc (.cells (zeroB xn) 5)) xn xs ys [] 0 := ⟨WB.start _ _, by omega, by simp [val2]⟩
  have HX := Lib.hid hxn
  have HY := Lib.hid hyn
  have HL := Lib.hid hle
  clear hxn hyn hle
  go_enter Tryd.func47, Tryd.ntmps47
  go_wp2
  go_loopw [6, 7] (fun c i wr => ∃ (cv : Nat) (es : List Nat), i = .int .i64 es.length ∧ c = .int .u8 cv ∧ MB w wr xn xs ys es cv) (fun _ i _ => xn - intC i)
  case atStart => exact ⟨0, [], rfl, rfl, hMB⟩
  case round =>
    clear hMB hmk
    obtain ⟨c, es, rfl, rfl, hMB⟩ := hrel
    have hle := hMB.1.2.2.2
    have hc2 := hMB.2.1
    by_cases hlt : es.length < xn
    · have hxw := hx.below hMB.1.2.1
      have hyw := hy.below hMB.1.2.1
      have hcell := hMB.1.cell hlt
      have hfro := hMB.1.frozen es.length
      obtain ⟨p, hp⟩ : ∃ p, p = xs.getD es.length 0 := ⟨_, rfl⟩
      obtain ⟨q, hq⟩ : ∃ q, q = ys.getD es.length 0 := ⟨_, rfl⟩
      have hp2 : p < 2 := by rw [hp]; exact hbx.getD _
      have hq2 : q < 2 := by rw [hq]; exact hby.getD _
      have HP := Lib.hid (And.intro hp hq); clear hp hq
      obtain ⟨t, ht⟩ : ∃ t, t + q + c = 2 + p := ⟨2 + p - q - c, by omega⟩
      have w1 : IntKind.u8.wrap (2 + (p : Int)) = 2 + (p : Int) := by rw [IntKind.wrap_u8']; omega
      have w2 : IntKind.u8.wrap (2 + (p : Int) - (q : Int)) = 2 + (p : Int) - (q : Int) := by rw [IntKind.wrap_u8']; omega
      have w3 : IntKind.u8.wrap (2 + (p : Int) - (q : Int) - (c : Int)) = (t : Int) := by rw [IntKind.wrap_u8']; omega
      have w4 := and_one_u8 t (by omega)
      have w5 : IntKind.u8.wrap (1 - (t : Int) / 2) = ((1 - t / 2 : Nat) : Int) := by rw [IntKind.wrap_u8']; omega
      have hMB2 := hMB.step (s := t) hlt (by rw [← HP.out.1, ← HP.out.2]; exact ht) (by omega)
      clear hMB ht
      go_wp2_with fail
      refine (bit_at hxw HX.out (k := es.length) rfl).mono ?_
      rintro e w' ⟨rfl, rfl⟩
      rw [← HP.out.1]
      unfold bv
      go_wp2_with fail
      refine (bit_at hyw HY.out (k := es.length) rfl).mono ?_
      rintro e w' ⟨rfl, rfl⟩
      rw [← HP.out.2]
      unfold bv
      clear hxw hyw
      go_wp2
      go_roundw
      case rel => exact ⟨1 - t / 2, es ++ [t % 2], by simp, rfl, by simpa using hMB2⟩
      case measure => simp [intC]; omega
    · have hlen : es.length = xn := by omega
      obtain ⟨h1, h2, h3⟩ := hMB
      have hbw := h1.bw hlen (by unfold maxLen; omega)
      have hv : val2 es = val2 xs - val2 ys := by
        have hX := val2_lt hbx
        have hE := val2_lt h1.2.2.1
        rw [hlen] at h3 hE
        rw [HX.out] at hX
        rw [List.take_of_length_le (l := xs) (by rw [HX.out]; omega)] at h3
        have hyp := val2_parts ys xn
        have hle2 := HL.out
        have hd0 : val2 (ys.drop xn) = 0 := by
          rcases Nat.eq_zero_or_pos (val2 (ys.drop xn)) with h | h
          · exact h
          · have : 2 ^ xn * 1 ≤ 2 ^ xn * val2 (ys.drop xn) := Nat.mul_le_mul_left _ h
            omega
        rw [hd0, Nat.mul_zero, Nat.add_zero] at hyp
        have hc0 : c = 0 := by
          rcases Nat.eq_zero_or_pos c with h | h
          · exact h
          · have : 2 ^ xn * 1 ≤ 2 ^ xn * c := Nat.mul_le_mul_left _ h
            omega
        rw [hc0, Nat.mul_zero, Nat.add_zero] at h3
        omega
      have HV := Lib.hid (And.intro hv hlen)
      have h12 := h1.2.1
      have h122 := h1.2.2.1
      clear h1 h2 h3 hv hlen
      go_wp2
      go_ret
      exact ⟨es, rfl, hbw, HV.out.2, h122, HV.out.1, h12⟩
end Go.Proofs.YtemlhloipjbecaaDoor
