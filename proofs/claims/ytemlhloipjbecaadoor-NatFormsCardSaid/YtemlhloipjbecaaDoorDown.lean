/- What down does to a block of digits, walked. -/
import Derived.Test.YtemlhloipjbecaaDoorRow1
import Derived.RegionTactic
import Derived.BigRegion
namespace Go.Proofs.YtemlhloipjbecaaDoor
open Go.RowKit Go.Shelf

/-- k digits are the new ones, the others the old ones. -/
def DX (w wr : World) (db : Nat) (T : TypeId) (pre post : List Value) (es ds : List Nat) (k : Nat) : Prop :=
  Rw wr db T (pre ++ (es.take k ++ ds.drop k).map dg ++ post) ∧ w.grownBy wr (some db)
section
variable {w wr : World} {db : Nat} {T : TypeId} {pre post : List Value} {es ds : List Nat} {k : Nat}
theorem DX.cell (h : DX w wr db T pre post es ds k) (hl : es.length = ds.length) {j : Nat} (hj : k ≤ j) (hk : j < ds.length) : wr.cell? ⟨db, pre.length + j, none⟩ = some (dg ds[j]) := by
  have := h.1.ds rfl j (by simp; omega)
  rw [this]
  congr 2
  rw [List.getElem_append_right (by simp; omega)]
  simp only [List.length_take, List.getElem_drop]
  congr 1
  omega
theorem DX.step (h : DX w wr db T pre post es ds k) (hl : es.length = ds.length) (hk : k < ds.length) (u : Value) :
    DX w ((wr.setCell ⟨db, pre.length + k, none⟩ u).setCell ⟨db, pre.length + k, none⟩ (dg (es[k]'(by omega)))).drew db T pre post es ds (k + 1) := by
  refine ⟨?_, grown_drew (grown_setCell (grown_setCell h.2 rfl _) rfl _)⟩
  have := ((h.1.set_ (pre.length + k) u).set_ (pre.length + k) (dg (es[k]'(by omega)))).drew
  rw [List.set_set, setOf_ (by simp; omega) hk] at this
  rw [List.take_succ_eq_append_getElem (by omega)]
  exact this
theorem DX.step1 (h : DX w wr db T pre post es ds k) (hl : es.length = ds.length) (hk : k < ds.length) :
    DX w (wr.setCell ⟨db, pre.length + k, none⟩ (dg (es[k]'(by omega)))) db T pre post es ds (k + 1) := by
  refine ⟨?_, grown_setCell h.2 rfl _⟩
  have := h.1.set_ (pre.length + k) (dg (es[k]'(by omega)))
  rw [setOf_ (by simp; omega) hk] at this
  rw [List.take_succ_eq_append_getElem (by omega)]
  exact this
end
/-- The walk's own spelling of a digit that is put together. -/
theorem or_down' (d e n : Nat) (hd : d < B64) (h : n < 64) :
    bits .or .u64 ((d : Int) / 2 ^ n) (IntKind.u64.wrap ((e : Int) * 2 ^ (64 - n))) = ((d / 2 ^ n + e * 2 ^ (64 - n) % B64 : Nat) : Int) := by
  have e1 : ((d : Int) / 2 ^ n) = ((d / 2 ^ n : Nat) : Int) := by simp
  have e2 : IntKind.u64.wrap ((e : Int) * 2 ^ (64 - n)) = ((e * 2 ^ (64 - n) % B64 : Nat) : Int) := by
    rw [IntKind.wrap_u64, B64_eq]; simp
  have h1 : d / 2 ^ n < B64 := Nat.lt_of_le_of_lt (Nat.div_le_self _ _) hd
  have h2 : e * 2 ^ (64 - n) % B64 < B64 := Nat.mod_lt _ B64_pos
  rw [e1, e2, u64_or_nat _ _ h1 h2, or_down hd h]

set_option maxHeartbeats 400000 in
theorem down_any (w : World) (db doff dc : Nat) (T : TypeId) (pre post : List Value) (ds : List Nat) (n : Nat)
    (hd : Rw w db T (pre ++ ds.map dg ++ post)) (hpre : pre.length = doff) (hdd : Dig ds) (hn : n < 64) (hmax : ds.length ≤ 1000000000000) :
    Calls Tryd.prog 56 #[.slice (some ⟨db, doff, none⟩) ds.length dc, .int .u64 n] w
      fun e w' => e = .returned (.tuple #[]) ∧ Rw w' db T (pre ++ (downs n ds).map dg ++ post) ∧ w.grownBy w' (some db) := by
  subst hpre
  have hl := length_downs n ds
  have h0 : DX w w db T pre post (downs n ds) ds 0 := ⟨by simpa using hd, World.grownBy.refl w _⟩
  have HL := Lib.hid hl; clear hl
  go_enter Tryd.func56, Tryd.ntmps56
  go_wp2
  go_loopw [7] (fun i wr => ∃ k : Nat, k ≤ ds.length ∧ i = .int .i64 k ∧ DX w wr db T pre post (downs n ds) ds k)
    (fun i _ => ds.length - (intOf i).toNat)
  case atStart => exact ⟨0, Nat.zero_le _, rfl, h0⟩
  case round =>
    clear h0
    obtain ⟨k, hk, rfl, hDX⟩ := hrel
    by_cases hlt : k < ds.length
    · have hcd := hDX.cell HL.out (Nat.le_refl k) hlt
      have hfr : wr.frozen? ⟨db, pre.length + k, none⟩ = false := hDX.1.frozen _
      have hdB := hdd.get hlt
      have hget := downs_get n ds k hlt
      obtain ⟨d, hdk⟩ : ∃ d, d = ds[k] := ⟨_, rfl⟩
      rw [← hdk] at hcd hdB hget
      have Hd := Lib.hid hdk; clear hdk
      unfold dg at hcd
      by_cases hlt2 : k + 1 < ds.length
      · have hcd2 := hDX.cell HL.out (show k ≤ k + 1 by omega) hlt2
        obtain ⟨e, hde⟩ : ∃ e, e = ds[k + 1] := ⟨_, rfl⟩
        have hge : ds.getD (k + 1) 0 = e := by rw [hde]; simp [hlt2]
        rw [hge] at hget
        rw [← hde] at hcd2
        have Hg := Lib.hid hget; clear hget
        clear hde hge
        unfold dg at hcd2
        go_wp2
        go_region
        go_wp2
        go_roundw
        case rel =>
          refine ⟨k + 1, by omega, by go_num, ?_⟩
          rw [or_down' d e n hdB hn, ← Hg.out]
          exact hDX.step HL.out hlt _
        case measure => simp [intOf]; omega
      · have hge : ds.getD (k + 1) 0 = 0 := by simp [hlt2]
        rw [hge, Nat.zero_mul, Nat.zero_mod, Nat.add_zero] at hget
        have Hg := Lib.hid hget; clear hget
        clear hge
        go_wp2
        go_roundw
        case rel =>
          refine ⟨k + 1, by omega, by go_num, ?_⟩
          have := hDX.step1 HL.out hlt
          rw [Hg.out] at this
          simpa [dg] using this
        case measure => simp [intOf]; omega
    · go_wp2
      go_end0
      obtain ⟨h1, h2⟩ := hDX
      have hke : k = ds.length := by omega
      subst hke
      rw [List.drop_length, List.append_nil, List.take_of_length_le (by rw [HL.out]; exact Nat.le_refl _)] at h1
      exact ⟨rfl, h1, h2⟩

end Go.Proofs.YtemlhloipjbecaaDoor
