/- The document's answer's sum and difference, walked. -/
import Derived.Test.YtemlhloipjbecaaDoorRef2
namespace Go.Proofs.YtemlhloipjbecaaDoor
open Go.RowKit Go.Shelf

/-- n noughts, as bits' cells. -/
def zeroB (n : Nat) : Array Value := ((List.replicate n 0).map bv).toArray
theorem make_bits (n : Nat) (c : Int) (hc : c = (n : Int)) (hmax : n ≤ 2000000000000) : ∀ w : World,
    (Instr.makeSlice 27 (.int .i64 c) (.int .i64 c)).run Tryd.prog w = .ok (.slice (some ⟨w.heap.size, 0, none⟩) n n) (w.alloc (.cells (zeroB n) 5)) := by
  intro w
  subst hc
  obtain ⟨i, hi, hz, hs, hb⟩ := info_parts info8
  have h := run_make (P := Tryd.prog) w 27 5 i _ Tryd.underlying27 hi hz .i64 .i64 (n : Int) (n : Int) (by omega) (by omega) (by rw [hb]; omega) (by omega)
  rw [h, hs]
  simp only [Int.toNat_natCast, Nat.mul_one]
  have e : madeCells (Value.cells (.int .u8 0)) n = zeroB n := by
    apply Array.toList_inj.1
    rw [show Value.cells (.int .u8 0) = #[.int .u8 0] from rfl, toList_madeCells_one]
    simp [bv, zeroB]
  rw [e]
/-- A row that is being written, bit by bit. -/
def WB (w wr : World) (g L : Nat) (es : List Nat) : Prop := Rw wr g 5 ((es ++ List.replicate (L - es.length) 0).map bv) ∧ Below w.heap.size w wr ∧ Bit es ∧ es.length ≤ L
section
variable {w wr : World} {g L : Nat} {es : List Nat}
theorem WB.start (w : World) (L : Nat) : WB w (w.alloc (.cells (zeroB L) 5)) w.heap.size L [] :=
  ⟨by
    have h := Rw.new w 5 ((List.replicate L 0).map bv)
    exact h, (Below.refl _ _).alloc (Nat.le_refl _) _, Bit.nil, Nat.zero_le _⟩
theorem WB.cell (h : WB w wr g L es) (hl : es.length < L) : wr.cell? ⟨g, es.length, none⟩ = some (.int .u8 0) := by
  rw [h.1.cell, List.getElem?_map, List.getElem?_append_right (Nat.le_refl _), Nat.sub_self, List.getElem?_replicate, if_pos (by omega)]
  rfl
theorem WB.frozen (h : WB w wr g L es) (i : Nat) : wr.frozen? ⟨g, i, none⟩ = false := h.1.frozen i
theorem WB.step (h : WB w wr g L es) (hl : es.length < L) (hg : w.heap.size ≤ g) {d : Nat} (hd : d < 2) : WB w (wr.setCell ⟨g, es.length, none⟩ (.int .u8 (d : Int))) g L (es ++ [d]) := by
  refine ⟨?_, h.2.1.setCell hg _, h.2.2.1.append (Bit.one hd), by simp; omega⟩
  have h1 := h.1.set_ es.length (bv d)
  have e : ((es ++ List.replicate (L - es.length) 0).map bv).set es.length (bv d) = ((es ++ [d]) ++ List.replicate (L - (es ++ [d]).length) 0).map bv := by
    rw [← List.map_set]
    congr 1
    rw [List.set_append_right _ _ (Nat.le_refl _), Nat.sub_self, List.append_assoc]
    congr 1
    rw [show L - es.length = (L - (es ++ [d]).length) + 1 by simp; omega, List.replicate_succ]
    rfl
  rw [e] at h1
  exact h1
theorem WB.bw (h : WB w wr g L es) (hl : es.length = L) (hm : L ≤ maxLen) : Bw wr (some ⟨g, 0, none⟩) L es := by
  refine ⟨by omega, hm, .inr ⟨g, 0, rfl, h.1.lt⟩, fun i hi => ⟨g, 0, rfl, h.1.lt, ?_⟩⟩
  rw [Nat.zero_add, h.1.cell, hl]
  simp [hi]
end
theorem and_one_u8 (s : Nat) (h : s < 256) : bits .and .u8 (s : Int) 1 = ((s % 2 : Nat) : Int) := by
  have := u8_and_nat s 1 h (by omega)
  rw [Nat.and_one_is_mod] at this
  exact this
/-- Between the rounds of Plus. -/
def PB (w wr : World) (L : Nat) (xs ys : List Nat) (u : Nat) (es : List Nat) (c : Nat) : Prop :=
  WB w wr w.heap.size L es ∧ c < 2 ∧ val2 es + 2 ^ es.length * c = val2 (xs.take es.length) + 2 ^ u * val2 (ys.take (es.length - u))
theorem PB.step {w wr : World} {L : Nat} {xs ys : List Nat} {u : Nat} {es : List Nat} {c s b : Nat} (h : PB w wr L xs ys u es c) (hl : es.length < L) (hb : b = if u ≤ es.length then ys.getD (es.length - u) 0 else 0) (hs : s = xs.getD es.length 0 + c + b) (hs4 : s < 4) :
    PB w (wr.setCell ⟨w.heap.size, es.length, none⟩ (.int .u8 ((s % 2 : Nat) : Int))) L xs ys u (es ++ [s % 2]) (s / 2) := by
  obtain ⟨h1, h2, h3⟩ := h
  refine ⟨h1.step hl (Nat.le_refl _) (Nat.mod_lt _ (by omega)), by omega, ?_⟩
  have hlen : (es ++ [s % 2]).length = es.length + 1 := by simp
  rw [hlen, val2_snoc, val2_take_succ]
  have hy : 2 ^ u * val2 (ys.take (es.length + 1 - u)) = 2 ^ u * val2 (ys.take (es.length - u)) + 2 ^ es.length * b := by
    by_cases hu : u ≤ es.length
    · rw [if_pos hu] at hb
      rw [show es.length + 1 - u = es.length - u + 1 by omega, val2_take_succ, Nat.mul_add, ← hb, ← Nat.mul_assoc, ← Nat.pow_add, show u + (es.length - u) = es.length by omega]
    · rw [if_neg hu] at hb
      rw [show es.length + 1 - u = 0 by omega, show es.length - u = 0 by omega, hb, Nat.mul_zero, Nat.add_zero]
  have hsd : 2 ^ es.length * (s % 2) + 2 ^ (es.length + 1) * (s / 2) = 2 ^ es.length * s := by
    rw [Nat.pow_succ, Nat.mul_assoc, ← Nat.mul_add, Nat.mod_add_div]
  have hsx : 2 ^ es.length * s = 2 ^ es.length * xs.getD es.length 0 + 2 ^ es.length * c + 2 ^ es.length * b := by rw [hs, Nat.mul_add, Nat.mul_add]
  omega

set_option maxRecDepth 100000 in
set_option maxHeartbeats 800000 in
theorem plusr_any (w : World) (xd yd : Option Addr) (xc yc xn yn u : Nat) (xs ys : List Nat) (hx : Bw w xd xc xs) (hy : Bw w yd yc ys) (hxn : xs.length = xn) (hyn : ys.length = yn) (hbx : Bit xs) (hby : Bit ys) (hmx : xn ≤ 100000000) (hmy : yn ≤ 100000000) (hu : u ≤ 100000000) :
    Calls Tryd.prog 52 #[.slice xd xn xc, .slice yd yn yc, .int .i64 u] w fun e w' =>
      ∃ L es, L = max xn (yn + u) + 1 ∧ e = .returned (.slice (some ⟨w.heap.size, 0, none⟩) L L) ∧ Bw w' (some ⟨w.heap.size, 0, none⟩) L es ∧ es.length = L ∧ Bit es ∧ val2 es = val2 xs + val2 ys * 2 ^ u ∧ Below w.heap.size w w' := by
  obtain ⟨m, hmm⟩ : ∃ m, m = max xn (yn + u) := ⟨_, rfl⟩
  have hm : max (xn : Int) ((yn : Int) + (u : Int)) = (m : Int) := by omega
  have hmle : m ≤ 200000000 := by omega
  have hmk := make_bits (m + 1) ((m : Int) + 1) (by omega) (by omega)
  have hPB : PB w (w.alloc (.cells (zeroB (m + 1)) 5)) (m + 1) xs ys u [] 0 := ⟨WB.start _ _, by omega, by simp [val2]⟩
  have HX := Lib.hid hxn
  have HY := Lib.hid hyn
  have HM := Lib.hid hmm
  rw [← hmm]
  clear hxn hyn hmm
  go_enter Tryd.func52, Tryd.ntmps52
  go_wp2
  go_loopw [8, 9] (fun c i wr => ∃ (cv : Nat) (es : List Nat), i = .int .i64 es.length ∧ c = .int .u8 cv ∧ PB w wr (m + 1) xs ys u es cv) (fun _ i _ => m + 1 - intC i)
  case atStart => exact ⟨0, [], rfl, rfl, hPB⟩
  case round =>
    clear hPB hm hmk
    obtain ⟨c, es, rfl, rfl, hPB⟩ := hrel
    have hle := hPB.1.2.2.2
    have hc2 := hPB.2.1
    by_cases hlt : es.length < m + 1
    · have hxw := hx.below hPB.1.2.1
      have hyw := hy.below hPB.1.2.1
      have hcell := hPB.1.cell hlt
      have hfro := hPB.1.frozen es.length
      obtain ⟨p, hp⟩ : ∃ p, p = xs.getD es.length 0 := ⟨_, rfl⟩
      have hp2 : p < 2 := by rw [hp]; exact hbx.getD _
      have HP := Lib.hid hp; clear hp
      have w1 : IntKind.u8.wrap ((p : Int) + (c : Int)) = (p : Int) + (c : Int) := by rw [IntKind.wrap_u8']; omega
      go_wp2_with fail
      refine (bit_at hxw HX.out (k := es.length) rfl).mono ?_
      rintro e w' ⟨rfl, rfl⟩
      rw [← HP.out]
      unfold bv
      by_cases hui : u ≤ es.length
      · obtain ⟨b, hbb⟩ : ∃ b, b = if u ≤ es.length then ys.getD (es.length - u) 0 else 0 := ⟨_, rfl⟩
        have hb1 : ys.getD (es.length - u) 0 = b := by rw [hbb, if_pos hui]
        have hb2 : b < 2 := by rw [← hb1]; exact hby.getD _
        obtain ⟨t, ht⟩ : ∃ t, t = p + c + b := ⟨_, rfl⟩
        have w2 : IntKind.u8.wrap ((p : Int) + (c : Int) + (b : Int)) = (t : Int) := by rw [IntKind.wrap_u8']; omega
        have w3 := and_one_u8 t (by omega)
        have hPB2 := hPB.step (s := t) hlt hbb (by rw [← HP.out]; exact ht) (by omega)
        have HB := Lib.hid (And.intro hbb hb1); clear hbb hb1 ht
        go_wp2_with fail
        refine (bit_at hyw HY.out (k := es.length - u) (by omega)).mono ?_
        rintro e w' ⟨rfl, rfl⟩
        rw [HB.out.2]
        unfold bv
        clear hPB hxw hyw
        go_wp2
        go_roundw
        case rel => exact ⟨t / 2, es ++ [t % 2], by simp, by simp, by simpa using hPB2⟩
        case measure => simp [intC]; omega
      · obtain ⟨t, ht⟩ : ∃ t, t = p + c := ⟨_, rfl⟩
        have w2 : IntKind.u8.wrap ((p : Int) + (c : Int)) = (t : Int) := by rw [IntKind.wrap_u8']; omega
        have w3 := and_one_u8 t (by omega)
        have hPB2 := hPB.step (s := t) (b := 0) hlt (by rw [if_neg hui]) (by rw [← HP.out]; exact ht) (by omega)
        have HB := Lib.hid ht; clear ht
        clear hPB hxw hyw
        clear w1
        go_wp2
        go_roundw
        case rel => exact ⟨t / 2, es ++ [t % 2], by simp, by simp, by simpa using hPB2⟩
        case measure => simp [intC]; omega
    · have hlen : es.length = m + 1 := by omega
      obtain ⟨h1, h2, h3⟩ := hPB
      have hbw := h1.bw hlen (by unfold maxLen; omega)
      have hv : val2 es = val2 xs + val2 ys * 2 ^ u := by
        have hX := val2_lt hbx
        have hY := val2_lt hby
        have hE := val2_lt h1.2.2.1
        rw [List.take_of_length_le (by rw [HX.out]; have := HM.out; omega), List.take_of_length_le (by rw [HY.out]; have := HM.out; omega)] at h3
        have e1 : 2 ^ xs.length ≤ 2 ^ m := Nat.pow_le_pow_right (by omega) (by rw [HX.out]; have := HM.out; omega)
        have e2 : 2 ^ u * 2 ^ ys.length ≤ 2 ^ m := by rw [← Nat.pow_add]; exact Nat.pow_le_pow_right (by omega) (by rw [HY.out]; have := HM.out; omega)
        have e3 : 2 ^ u * val2 ys < 2 ^ u * 2 ^ ys.length := Nat.mul_lt_mul_of_pos_left hY (Nat.two_pow_pos _)
        have e4 : 2 ^ es.length = 2 ^ m * 2 := by rw [hlen, Nat.pow_succ]
        have hc0 : c = 0 := by
          rcases Nat.eq_zero_or_pos c with h | h
          · exact h
          · have : 2 ^ es.length * 1 ≤ 2 ^ es.length * c := Nat.mul_le_mul_left _ h
            omega
        rw [hc0, Nat.mul_zero, Nat.add_zero, Nat.mul_comm (2 ^ u)] at h3
        exact h3
      have HV := Lib.hid (And.intro hv hlen)
      have h12 := h1.2.1
      have h122 := h1.2.2.1
      clear h1 h2 h3 hv hlen
      go_wp2
      go_ret
      exact ⟨m + 1, es, rfl, rfl, hbw, HV.out.2, h122, HV.out.1, h12⟩
end Go.Proofs.YtemlhloipjbecaaDoor
