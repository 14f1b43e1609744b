/- The document's answer's rows of bits: Cut, bit, Compare, walked. -/
import Derived.Test.YtemlhloipjbecaaDoorRefNum
import Derived.Test.YtemlhloipjbecaaDoorUse
namespace Go.Proofs.YtemlhloipjbecaaDoor
open Go.RowKit Go.Shelf

/-- A bit, as a cell. -/
def bv (b : Nat) : Value := .int .u8 (b : Int)
/-- A slice that may be nil holds those bits. -/
structure Bw (w : World) (ad : Option Addr) (c : Nat) (bs : List Nat) : Prop where
  le : bs.length ≤ c
  max : c ≤ maxLen
  addr : (ad = none ∧ c = 0) ∨ ∃ b off, ad = some ⟨b, off, none⟩ ∧ b < w.heap.size
  cell : ∀ i (h : i < bs.length), ∃ b off, ad = some ⟨b, off, none⟩ ∧ b < w.heap.size ∧ w.cell? ⟨b, off + i, none⟩ = some (bv bs[i])
theorem Bw.below {w w' : World} {ad : Option Addr} {c : Nat} {bs : List Nat} (h : Bw w ad c bs) (hb : Below w.heap.size w w') : Bw w' ad c bs := by
  have hsz := hb.size
  refine ⟨h.le, h.max, ?_, fun i hi => ?_⟩
  · rcases h.addr with h | ⟨b, off, e, hl⟩
    · exact .inl h
    · exact .inr ⟨b, off, e, by omega⟩
  · obtain ⟨b, off, e, hl, hc⟩ := h.cell i hi
    exact ⟨b, off, e, by omega, by rw [hb.cell hl]; exact hc⟩
theorem Bw.take {w : World} {ad : Option Addr} {c : Nat} {bs : List Nat} (h : Bw w ad c bs) (n : Nat) : Bw w ad c (bs.take n) := by
  refine ⟨by have := h.le; rw [List.length_take]; omega, h.max, h.addr, fun i hi => ?_⟩
  rw [List.length_take] at hi
  obtain ⟨b, off, e, hl, hc⟩ := h.cell i (by omega)
  exact ⟨b, off, e, hl, by rw [List.getElem_take]; exact hc⟩
theorem Bw.nil (w : World) : Bw w none 0 [] := ⟨Nat.le_refl _, by unfold maxLen; omega, .inl ⟨rfl, rfl⟩, fun _ h => by cases h⟩
def intC : Value → Nat | .int _ n => n.toNat | _ => 0
theorem val2_cut {bs : List Nat} {k : Nat} (hk : k < bs.length) (h0 : bs[k] = 0) : val2 (bs.take (k + 1)) = val2 (bs.take k) := by
  rw [val2_take_succ]
  simp [hk, h0]

set_option maxRecDepth 100000 in
set_option maxHeartbeats 400000 in
theorem cut_any (w : World) (ad : Option Addr) (c n : Nat) (bs : List Nat) (hw : Bw w ad c bs) (hn : bs.length = n) (hbit : Bit bs) (hmax : n ≤ 100000000) :
    Calls Tryd.prog 40 #[.slice ad n c] w fun e w' => ∃ k, k ≤ n ∧ e = .returned (.slice ad k c) ∧ val2 (bs.take k) = val2 bs ∧ TopB (bs.take k) ∧ w = w' := by
  have HN := Lib.hid hn; clear hn
  have hle : n ≤ c := by rw [← HN.out]; exact hw.le
  go_enter Tryd.func40, Tryd.ntmps40
  go_wp2
  go_loopw [3] (fun i wr => ∃ k : Nat, k ≤ n ∧ i = .int .i64 k ∧ val2 (bs.take k) = val2 bs ∧ w = wr) (fun i _ => intC i)
  case atStart => exact ⟨n, Nat.le_refl _, rfl, by rw [← HN.out, List.take_length], rfl⟩
  case round =>
    obtain ⟨k, hk, rfl, hv, rfl⟩ := hrel
    have HV := Lib.hid hv; clear hv
    by_cases hk0 : k = 0
    · subst hk0
      rcases hw.addr with ⟨rfl, rfl⟩ | ⟨b, off, rfl, hlt⟩
      · go_wp2
        go_ret
        exact ⟨0, Nat.zero_le _, rfl, HV.out, .inl rfl, rfl⟩
      · go_wp2
        go_ret
        exact ⟨0, Nat.zero_le _, rfl, HV.out, .inl rfl, rfl⟩
    · have hlt : k - 1 < bs.length := by rw [HN.out]; omega
      obtain ⟨b, off, rfl, hbl, hcd⟩ := hw.cell (k - 1) hlt
      obtain ⟨d, hdk⟩ : ∃ d, d = bs[k - 1] := ⟨_, rfl⟩
      have hd2 : d < 2 := by rw [hdk]; exact hbit.get hlt
      rw [← hdk] at hcd
      unfold bv at hcd
      have hk1 : ((k : Int) - 1).toNat = k - 1 := by omega
      have t0 : decide ((0 : Int) < (k : Int)) = true := by simp; omega
      by_cases hd0 : d = 0
      · have hv2 : val2 (bs.take (k - 1)) = val2 bs := by
          have := val2_cut hlt (by rw [← hdk, hd0])
          rw [show k - 1 + 1 = k by omega, HV.out] at this
          exact this.symm
        have HS := Lib.hid hv2; clear hv2
        subst hd0
        clear hdk
        go_wp2
        go_roundw
        case rel => exact ⟨k - 1, by omega, by congr 1; omega, HS.out, trivial⟩
        case measure => simp [intC]; omega
      · have hne : ((d : Int) == 0) = false := by simp; exact hd0
        have htop : TopB (bs.take k) := by
          right
          refine ⟨bs.take (k - 1), d, ?_, hd0⟩
          have := List.take_succ_eq_append_getElem hlt
          rw [show k - 1 + 1 = k by omega, ← hdk] at this
          exact this
        have HT := Lib.hid htop; clear htop hdk
        go_wp2
        go_ret
        exact ⟨k, hk, rfl, HV.out, HT.out, rfl⟩

set_option maxHeartbeats 400000 in
theorem bit_any (w : World) (ad : Option Addr) (c n i : Nat) (bs : List Nat) (hw : Bw w ad c bs) (hn : bs.length = n) :
    Calls Tryd.prog 73 #[.slice ad n c, .int .i64 i] w fun e w' => e = .returned (bv (bs.getD i 0)) ∧ w = w' := by
  have HN := Lib.hid hn; clear hn
  go_enter Tryd.func73, Tryd.ntmps73
  by_cases h : i < n
  · have hlt : i < bs.length := by rw [HN.out]; exact h
    obtain ⟨b, off, rfl, hbl, hcd⟩ := hw.cell i hlt
    have e : bs.getD i 0 = bs[i] := by simp [hlt]
    rw [e]
    unfold bv at hcd ⊢
    go_wp2
    go_ret
    exact ⟨rfl, rfl⟩
  · have hge : bs.length ≤ i := by rw [HN.out]; omega
    have e : bs.getD i 0 = 0 := by simp [hge]
    rw [e]
    unfold bv
    go_wp2
    go_ret
    exact ⟨rfl, rfl⟩
theorem bit_at {w : World} {ad : Option Addr} {c n : Nat} {i : Int} {k : Nat} {bs : List Nat} (hw : Bw w ad c bs) (hn : bs.length = n) (hi : i = (k : Int)) :
    Calls Tryd.prog 73 #[.slice ad n c, .int .i64 i] w fun e w' => e = .returned (bv (bs.getD k 0)) ∧ w = w' := by
  subst hi; exact bit_any w ad c n k bs hw hn
end Go.Proofs.YtemlhloipjbecaaDoor
