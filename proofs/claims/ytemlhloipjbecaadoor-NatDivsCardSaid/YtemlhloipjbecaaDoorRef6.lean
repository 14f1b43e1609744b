/- The document's answer's text of bits, walked. -/
import Derived.Test.YtemlhloipjbecaaDoorRef5
namespace Go.Proofs.YtemlhloipjbecaaDoor
open Go.RowKit Go.Shelf

/-- Between the rounds of Text. -/
def TB (w wr : World) (m : Nat) (es : List Nat) (k : Nat) : Prop := Rw wr w.heap.size 5 ((wid m (val2 (es.take k))).map bv) ∧ Below w.heap.size w wr

theorem TB.drew {w wr : World} {m k : Nat} {es : List Nat} (h : TB w wr m es k) : TB w wr.drew m es k := ⟨h.1.drew, h.2.drew⟩

set_option maxRecDepth 100000 in
set_option maxHeartbeats 1600000 in
theorem textr_any (w : World) (ad : Option Addr) (c n : Nat) (bs : List Nat) (hw : Bw w ad c bs) (hn : bs.length = n) (hbit : Bit bs) (hmax : n ≤ 100000000) :
    Calls Tryd.prog 16 #[.slice ad n c] w fun e w' => e = .returned (.string (fb (val2 bs))) ∧ Below w.heap.size w w' := by
  go_enter Tryd.func16, Tryd.ntmps16
  go_wp2_with fail
  refine (cut_any _ ad c n bs hw hn hbit hmax).mono ?_
  rintro e w' ⟨N, hN, rfl, hcv, hct, rfl⟩
  obtain ⟨es, hes⟩ : ∃ es, es = bs.take N := ⟨_, rfl⟩
  have hel : es.length = N := by rw [hes, List.length_take]; omega
  have hwe := hw.take N
  have hbe := hbit.take N
  rw [← hes] at hcv hct hwe hbe
  have HCV := Lib.hid hcv
  have hlb := hct.length hbe
  rw [hel] at hlb
  clear hw hbit hn hes hcv hct
  obtain ⟨m, hm⟩ : ∃ m, m = (N + 7) / 8 := ⟨_, rfl⟩
  have hmi : ((N : Int) + 7) / 8 = (m : Int) := by omega
  have hmk := make_bits m (m : Int) rfl (by omega)
  have hTB : TB w (w.alloc (.cells (zeroB m) 5)) m es 0 := by
    refine ⟨?_, (Below.refl _ _).alloc (Nat.le_refl _) _⟩
    have h := Rw.new w 5 ((List.replicate m 0).map bv)
    rw [List.take_zero, show val2 [] = 0 from rfl, wid_zero]
    exact h
  have HN := Lib.hid (And.intro hel (And.intro hlb hm)); clear hel hlb
  clear hm
  go_wp2
  go_loopw [4] (fun i wr => ∃ k : Nat, k ≤ N ∧ i = .int .i64 k ∧ TB w wr m es k) (fun i _ => N - intK i)
  case atStart => exact ⟨0, Nat.zero_le _, rfl, hTB⟩
  case round =>
    clear hTB hmk
    obtain ⟨k, hk, rfl, hTB⟩ := hrel
    by_cases hlt : k < N
    · have hke : k < es.length := by rw [HN.out.1]; exact hlt
      obtain ⟨q, hq⟩ : ∃ q, q = k / 8 := ⟨_, rfl⟩
      obtain ⟨r, hr⟩ : ∃ r, r = k % 8 := ⟨_, rfl⟩
      have hqm : q < m := by rw [HN.out.2.2]; omega
      have hmb : m ≤ 100000000 := by rw [HN.out.2.2]; omega
      obtain ⟨P, hP⟩ : ∃ P, P = m - 1 - q := ⟨_, rfl⟩
      have hst := wid_step (m := m) (n := val2 (es.take k)) (i := k) (b := es[k]) (val2_take_lt hbe k) (hbe.get hke) (by rw [← hq]; exact hqm)
      have hpl : P < (wid m (val2 (es.take k))).length := by rw [length_wid]; omega
      have hcell := hTB.1.cell P
      rw [List.getElem?_map, List.getElem?_eq_getElem hpl, Option.map_some] at hcell
      have hfro := hTB.1.frozen P
      obtain ⟨o, ho⟩ : ∃ o, o = (wid m (val2 (es.take k)))[P] := ⟨_, rfl⟩
      obtain ⟨b, hb⟩ : ∃ b, b = es[k] := ⟨_, rfl⟩
      have hb2 : b < 2 := by rw [hb]; exact hbe.get hke
      obtain ⟨bb, off, rfl, hbl, hcx⟩ := (hwe.below hTB.2).cell k hke
      have hst2 : o + b * 2 ^ r < 256 ∧ (wid m (val2 (es.take k))).set P (o + b * 2 ^ r) = wid m (val2 (es.take k) + 2 ^ k * b) := by
        subst hP hq hr ho hb
        exact hst
      rw [← ho] at hcell
      rw [← hb] at hcx
      unfold bv at hcell hcx
      have hqi : (k : Int) / 8 = (q : Int) := by omega
      have hri : (k : Int) % 8 = (r : Int) := by omega
      have hPi : (m : Int) - 1 - (q : Int) = (P : Int) := by omega
      have hPm : P < m := by omega
      obtain ⟨y, hy⟩ : ∃ y, y = b * 2 ^ r := ⟨_, rfl⟩
      rw [← hy] at hst2
      have hoy := hst2.1
      have wy : IntKind.u8.wrap ((b : Int) * 2 ^ r) = (y : Int) := by
        rw [show (b : Int) * 2 ^ r = ((b * 2 ^ r : Nat) : Int) by simp, ← hy, IntKind.wrap_u8']; omega
      have woy : IntKind.u8.wrap ((o : Int) + (y : Int)) = (o : Int) + (y : Int) := by rw [IntKind.wrap_u8']; omega
      have hTB2 : TB w (wr.setCell ⟨w.heap.size, P, none⟩ (.int .u8 ((o : Int) + (y : Int)))) m es (k + 1) := by
        refine ⟨?_, hTB.2.setCell (Nat.le_refl _) _⟩
        have h1 := hTB.1.set_ P (bv (o + y))
        have hg : es.getD k 0 = b := by rw [hb]; simp [hke]
        rw [← List.map_set, hst2.2] at h1
        rw [val2_take_succ, hg]
        exact h1
      clear ho hb hst hst2 hTB hq hr hP hy hwe hpl
      go_wp2
      go_region
      go_wp2
      go_roundw
      case rel => exact ⟨k + 1, by omega, by simp, hTB2.drew⟩
      case measure => simp [intK]; omega
    · have hkN : k = N := by omega
      have hconv : (convert 27 9 (.slice (some ⟨w.heap.size, 0, none⟩) m m)).run Tryd.prog wr = .ok (str (formL (val2 es))) wr := by
        have hR := hTB.1
        rw [hkN, ← HN.out.1, List.take_length] at hR
        have hl : (wid m (val2 es)).map UInt8.ofNat = formL (val2 es) := by
          rw [HN.out.2.2, HN.out.2.1]; exact wid_form _
        rw [← hl]
        refine run_bytes_at (by rw [List.length_map, length_wid]) (fun i hi => ?_)
        rw [Nat.zero_add, hR.cell]
        rw [List.length_map, length_wid] at hi
        have hi2 : i < (wid m (val2 es)).length := by rw [length_wid]; exact hi
        rw [List.getElem?_map, List.getElem?_eq_getElem hi2, Option.map_some, List.getElem_map, by8_ofNat, wid_get]
        unfold bv
        congr 2
        omega
      have hb := hTB.2
      have HS : Hid (str (formL (val2 es)) = .string (fb (val2 bs))) := by rw [HCV.out]; exact rfl
      clear hTB
      go_wp2
      go_ret
      exact ⟨by rw [← HS.out]; rfl, hb⟩
end Go.Proofs.YtemlhloipjbecaaDoor
