/- What up makes of a row of digits, walked. -/
import Derived.Test.YtemlhloipjbecaaDoorDown
import Derived.Laws.CopyOwn
import Derived.Laws.MakeOwn
import Derived.Laws.OwnMore
namespace Go.Proofs.YtemlhloipjbecaaDoor
open Go.RowKit Go.Shelf

theorem info64 : (Tryd.prog.info? 22).map (fun i => (i.zero, i.size, i.bytes)) = some (some (.int .u64 0), 1, 8) := by kernel_rfl
theorem size64 : (Tryd.prog.info? 22).map (·.size) = some 1 := by kernel_rfl

/-- n noughts, as cells. -/
def zeros (n : Nat) : Array Value := ((List.replicate n 0).map dg).toArray
/-- make(row, n), n a sum that fits: a new block of noughts. -/
theorem make_row (n : Nat) (c : Int) (hc : c = (n : Int)) (hmax : n ≤ 2000000000000) : ∀ w : World,
    (Instr.makeSlice 54 (.int .i64 c) (.int .i64 c)).run Tryd.prog w = .ok (.slice (some ⟨w.heap.size, 0, none⟩) n n) (w.alloc (.cells (zeros n) 22)) := by
  intro w
  subst hc
  obtain ⟨i, hi, hz, hs, hb⟩ := info_parts info64
  have h := run_make (P := Tryd.prog) w 54 22 i _ Tryd.underlying54 hi hz .i64 .i64 (n : Int) (n : Int) (by omega) (by omega) (by rw [hb]; omega) (by omega)
  rw [h, hs]
  simp only [Int.toNat_natCast, Nat.mul_one]
  have e : madeCells (Value.cells (.int .u64 0)) n = zeros n := by
    apply Array.toList_inj.1
    rw [show Value.cells (.int .u64 0) = #[.int .u64 0] from rfl, toList_madeCells_one]
    simp [dg, zeros]
  rw [e]

/-- Above k the digits are the new ones, the others the old ones. -/
def UX (w wr : World) (g : Nat) (es old : List Nat) (k : Nat) : Prop :=
  Rw wr g 22 ((old.take k ++ es.drop k).map dg) ∧ Below w.heap.size w wr
section
variable {w wr : World} {g : Nat} {es old : List Nat} {k : Nat}
theorem UX.cell (h : UX w wr g es old k) {j : Nat} (hj : j < k) (hk : j < old.length) : wr.cell? ⟨g, j, none⟩ = some (dg old[j]) := by
  rw [h.1.cell]
  simp only [List.map_append, List.map_take]
  rw [List.getElem?_append_left (by simp; omega), List.getElem?_take_of_lt hj]
  simp [hk]
theorem UX.step (h : UX w wr g es old (k + 1)) (hl : es.length = old.length) (hk : k < old.length) (hg : w.heap.size ≤ g) :
    UX w (wr.setCell ⟨g, k, none⟩ (dg (es[k]'(by omega)))) g es old k := by
  refine ⟨?_, h.2.setCell hg _⟩
  have := h.1.set_ k (dg (es[k]'(by omega)))
  rw [List.map_append, List.set_append_left _ _ (by simp; omega), List.take_succ_eq_append_getElem hk, List.map_append,
    List.set_append_right _ _ (by simp; omega)] at this
  have e : k - (List.map dg (List.take k old)).length = 0 := by simp; omega
  rw [e] at this
  have e2 : es.drop k = es[k]'(by omega) :: es.drop (k + 1) := List.drop_eq_getElem_cons (by omega)
  rw [e2]
  simpa only [List.map_append, List.map_cons, List.map_nil, List.set_cons_zero, List.append_assoc, List.cons_append, List.nil_append] using this
end
theorem UX.drew {w wr : World} {g : Nat} {es old : List Nat} {k : Nat} (h : UX w wr g es old k) : UX w wr.drew g es old k := ⟨h.1.drew, h.2.drew⟩
theorem old_get {ds old : List Nat} (h : old = ds ++ [0]) {j : Nat} (hj : j < old.length) : old[j] = ds.getD j 0 := by
  subst h
  rcases Nat.lt_or_ge j ds.length with hlt | hge
  · simp [List.getElem_append_left hlt, hlt]
  · have : j = ds.length := by simp at hj; omega
    subst this
    simp
theorem ups_at {n : Nat} {ds old es : List Nat} (he : es = ups n 0 ds) (ho : old = ds ++ [0]) {k : Nat} (h : k < es.length) :
    es[k] = old.getD k 0 * 2 ^ n % B64 + (if k = 0 then 0 else old.getD (k - 1) 0 / 2 ^ (64 - n)) := by
  subst he
  have hk : k ≤ ds.length := by rw [length_ups] at h; omega
  have hg : ∀ j, j ≤ ds.length → old.getD j 0 = ds.getD j 0 := fun j hj => by
    have hj' : j < old.length := by rw [ho]; simp; omega
    rw [← old_get ho hj']; simp [hj']
  rw [ups_get, hg k hk, hg (k - 1) (by omega)]
theorem or_up' (d e n : Nat) (he : e < B64) (h : n < 64) :
    bits .or .u64 (IntKind.u64.wrap ((d : Int) * 2 ^ n)) ((e : Int) / 2 ^ (64 - n)) = ((d * 2 ^ n % B64 + e / 2 ^ (64 - n) : Nat) : Int) := by
  have e1 : ((e : Int) / 2 ^ (64 - n)) = ((e / 2 ^ (64 - n) : Nat) : Int) := by simp
  have e2 : IntKind.u64.wrap ((d : Int) * 2 ^ n) = ((d * 2 ^ n % B64 : Nat) : Int) := by
    rw [IntKind.wrap_u64, B64_eq]; simp
  have h1 : e / 2 ^ (64 - n) < B64 := Nat.lt_of_le_of_lt (Nat.div_le_self _ _) he
  have h2 : d * 2 ^ n % B64 < B64 := Nat.mod_lt _ B64_pos
  rw [e1, e2, u64_or_nat _ _ h2 h1, or_up he h]

set_option maxRecDepth 100000 in
set_option maxHeartbeats 400000 in
theorem up_any (w : World) (b off dc : Nat) (ds : List Nat) (n : Nat)
    (hd : Ds w b off ds) (hdd : Dig ds) (hn : n < 64) (hmax : ds.length ≤ 1000000000000) :
    Calls Tryd.prog 55 #[.slice (some ⟨b, off, none⟩) ds.length dc, .int .u64 n] w
      fun e w' => e = .returned (.slice (some ⟨w.heap.size, 0, none⟩) (ds.length + 1) (ds.length + 1)) ∧ Rw w' w.heap.size 22 ((ups n 0 ds).map dg) ∧ Below w.heap.size w w' := by
  have hmk := make_row (ds.length + 1) ((ds.length : Int) + 1) (by omega) (by omega)
  obtain ⟨old, hold⟩ : ∃ old, old = ds ++ [0] := ⟨_, rfl⟩
  obtain ⟨es, hes⟩ : ∃ es, es = ups n 0 ds := ⟨_, rfl⟩
  have HL : Hid (es.length = ds.length + 1) := by rw [hes]; exact length_ups n ds 0
  have HO : Hid (old.length = ds.length + 1) := by rw [hold]; simp [Hid]
  have Hes := Lib.hid hes; clear hes
  have Hold := Lib.hid hold; clear hold
  rw [← Hes.out]
  have HD := Lib.hid hd; clear hd
  go_enter Tryd.func55, Tryd.ntmps55
  go_wp2_with ((with_reducible show wpList _ _ _ _ _ _); refine wpList_copy_splice rfl (.tmp 11) (.tmp 12) _ _ rfl 22 Tryd.underlying54 size64 (some ⟨w.heap.size, 0, none⟩) (some ⟨b, off, none⟩) (ds.length + 1) (ds.length + 1) ds.length dc rfl rfl w.heap.size 0 ((List.replicate (ds.length + 1) 0).map dg) 22 (Rw.new _ _ _) (ds.map dg) ?c1 ?c2 ?c3 ?c4 w.heap.size w ?c5 (Nat.le_refl _) ?_)
  case c1 => simp
  case c2 =>
    intro hpos j a hj
    have hjl : j < ds.length := (List.getElem?_eq_some_iff.1 hj).1
    have h1 := HD.out j hjl
    have hlt := World.block_lt_of_cell? w _ h1
    rw [World.cell?_alloc_lt w _ ⟨b, off + j, none⟩ hlt, h1]
    rw [List.getElem?_eq_getElem hjl] at hj
    injection hj with hj
    rw [hj]
  case c3 => simp
  case c4 => intro v hv; obtain ⟨x, _, rfl⟩ := List.mem_map.1 hv; rfl
  case c5 => exact (Below.refl _ _).alloc (Nat.le_refl _) _
  intro w2 hg2 hb2
  have hsp : splice (List.replicate (ds.length + 1) (dg 0)) 0 (ds.map dg) = old.map dg := by
    rw [Hold.out]; simp [splice, List.replicate_succ']
  rw [hsp] at hg2
  have h0 : UX w w2 w.heap.size es old (ds.length + 1) := ⟨by
    rw [List.take_of_length_le (by rw [HO.out]; exact Nat.le_refl _), List.drop_of_length_le (by rw [HL.out]; exact Nat.le_refl _), List.append_nil]
    exact hg2.out, hb2⟩
  clear hsp hg2 hb2 hmk
  go_wp2
  go_loopw [6] (fun i wr => ∃ k : Nat, k ≤ ds.length ∧ i = .int .i64 k ∧ UX w wr w.heap.size es old (k + 1))
    (fun i _ => (intOf i).toNat)
  case atStart => exact ⟨ds.length, Nat.le_refl _, rfl, h0⟩
  case round =>
    clear h0
    obtain ⟨k, hk, rfl, hUX⟩ := hrel
    have hcd := hUX.cell (j := k) (by omega) (by rw [HO.out]; omega)
    have hfr : wr.frozen? ⟨w.heap.size, k, none⟩ = false := hUX.1.frozen _
    obtain ⟨d, hdk⟩ : ∃ d, d = old[k]'(by rw [HO.out]; omega) := ⟨_, rfl⟩
    rw [← hdk] at hcd
    have Hd := Lib.hid hdk; clear hdk
    unfold dg at hcd
    by_cases hlt : 0 < k
    · have hcd2 := hUX.cell (j := k - 1) (by omega) (by rw [HO.out]; omega)
      obtain ⟨e, hde⟩ : ∃ e, e = old[k - 1]'(by rw [HO.out]; omega) := ⟨_, rfl⟩
      rw [← hde] at hcd2
      have He := Lib.hid hde; clear hde
      unfold dg at hcd2
      go_wp2
      go_region
      go_wp2
      go_roundw
      case rel =>
        refine ⟨k - 1, by omega, by go_num, ?_⟩
        have hes : es[k]'(by rw [HL.out]; omega) = d * 2 ^ n % B64 + e / 2 ^ (64 - n) := by
          have h1 := ups_at Hes.out Hold.out (k := k) (by rw [HL.out]; omega)
          rw [if_neg (by omega)] at h1
          rw [h1, Hd.out, He.out]
          simp [HO.out, show k < ds.length + 1 by omega, show k - 1 < ds.length + 1 by omega]
        have heB : e < B64 := by
          rw [He.out, old_get Hold.out]
          have : k - 1 < ds.length := by omega
          simp only [List.getD_eq_getElem?_getD, List.getElem?_eq_getElem this, Option.getD_some]
          exact hdd.get this
        rw [or_up' d e n heB hn, ← hes, show k - 1 + 1 = k by omega]
        exact (hUX.step (by rw [HL.out, HO.out]) (by rw [HO.out]; omega) (Nat.le_refl _)).drew
      case measure => simp [intOf]; omega
    · obtain rfl : k = 0 := by omega
      go_wp2
      go_ret
      have hes : es[0]'(by rw [HL.out]; omega) = d * 2 ^ n % B64 := by
        have h1 := ups_at Hes.out Hold.out (k := 0) (by rw [HL.out]; omega)
        rw [h1, Hd.out]
        simp [HO.out]
      have hfin := hUX.step (by rw [HL.out, HO.out]) (by rw [HO.out]; omega) (Nat.le_refl _)
      refine ⟨rfl, ?_⟩
      have e2 : IntKind.u64.wrap ((d : Int) * 2 ^ n) = ((d * 2 ^ n % B64 : Nat) : Int) := by
        rw [IntKind.wrap_u64, B64_eq]; simp
      rw [e2, ← hes]
      refine ⟨?_, hfin.2⟩
      have h1 := hfin.1
      rw [List.take_zero, List.nil_append, List.drop_zero] at h1
      exact h1

end Go.Proofs.YtemlhloipjbecaaDoor
