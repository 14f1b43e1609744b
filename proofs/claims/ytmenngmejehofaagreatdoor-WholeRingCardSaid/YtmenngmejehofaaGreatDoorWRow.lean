/- Rows of Ints in memory, and the statements' own 'long', walked. -/
import Derived.Test.YtmenngmejehofaaGreatDoorWNum
namespace Go.Proofs.YtmenngmejehofaaGreatDoor
open Go.RowKit Go.Shelf

/-- A sign and a text, one behind the other. -/
abbrev IV := Bool × ByteArray
/-- A slice holds those Ints. -/
def IAt (w : World) (ad : Option Addr) (l : List IV) : Prop := ∀ i (h : i < l.length), ∃ lb lo, ad = some ⟨lb, lo, none⟩ ∧ lb < w.heap.size ∧
  w.cell? ⟨lb, lo + i * 2, none⟩ = some (.bool l[i].1) ∧ w.cell? ⟨lb, lo + i * 2 + 1, none⟩ = some (.string l[i].2)
theorem IAt.below {w w' : World} {ad : Option Addr} {l : List IV} (h : IAt w ad l) (hb : Below w.heap.size w w') : IAt w' ad l := by
  intro i hi
  obtain ⟨lb, lo, e, hl, h1, h2⟩ := h i hi
  have hsz := hb.size
  exact ⟨lb, lo, e, by omega, by rw [hb.cell hl]; exact h1, by rw [hb.cell hl]; exact h2⟩
/-- The cells of a row of Ints. -/
def icells : List IV → List Value
  | [] => []
  | x :: l => .bool x.1 :: .string x.2 :: icells l
theorem icells_get : ∀ (l : List IV) (i : Nat) (h : i < l.length), (icells l)[i * 2]? = some (.bool l[i].1) ∧ (icells l)[i * 2 + 1]? = some (.string l[i].2)
  | [], i, h => by simp at h
  | x :: l, 0, h => ⟨rfl, rfl⟩
  | x :: l, i + 1, h => by
    have := icells_get l i (by simpa using h)
    rw [show (i + 1) * 2 = i * 2 + 1 + 1 by omega]
    exact this
theorem IAt.new (w : World) (t : TypeId) (l : List IV) (L : Array Value) (hL : L = (icells l).toArray) : IAt (w.alloc (.cells L t)) (some ⟨w.heap.size, 0, none⟩) l := by
  subst hL
  intro i hi
  have hR := Rw.new w t (icells l)
  have h := icells_get l i hi
  refine ⟨w.heap.size, 0, rfl, by rw [World.size_alloc]; omega, ?_, ?_⟩
  · rw [Nat.zero_add, hR.cell]; exact h.1
  · rw [Nat.zero_add, hR.cell]; exact h.2
theorem IAt.nil (w : World) (ad : Option Addr) : IAt w ad [] := fun i h => by simp at h
/-- Has one of them more bytes? -/
def longer (most : Nat) (l : List IV) : Bool := l.any fun x => decide (most < x.2.size)
def intL : Value → Nat | .int _ n => n.toNat | _ => 0

set_option maxRecDepth 100000 in
set_option maxHeartbeats 400000 in
theorem long_any (w : World) (most : Nat) (ad : Option Addr) (l : List IV) (n c : Nat) (hn : l.length = n) (hmax : n ≤ 1000000000) (hl : IAt w ad l) :
    Calls Tryz.prog 15 #[.int .i64 most, .slice ad n c] w fun e w' => e = .returned (.bool (longer most l)) ∧ w = w' := by
  have HN := Lib.hid hn; clear hn
  go_enter Tryz.func15, Tryz.ntmps15
  go_wp2
  go_loopw [5] (fun i wr => ∃ k : Nat, k ≤ n ∧ i = .int .i64 k ∧ longer most (l.take k) = false ∧ w = wr) (fun i _ => n - intL i)
  case atStart => exact ⟨0, Nat.zero_le _, rfl, rfl, rfl⟩
  case round =>
    obtain ⟨k, hk, rfl, hv, rfl⟩ := hrel
    have HV := Lib.hid hv; clear hv
    by_cases hlt : k < n
    · have hkl : k < l.length := by rw [HN.out]; exact hlt
      obtain ⟨lb, lo, rfl, hlb, hc1, hc2⟩ := hl k hkl
      obtain ⟨x, hx⟩ : ∃ x, x = l[k] := ⟨_, rfl⟩
      rw [← hx] at hc1 hc2
      have hs : longer most (l.take (k + 1)) = (longer most (l.take k) || decide (most < x.2.size)) := by
        unfold longer
        rw [List.take_succ_eq_append_getElem hkl, List.any_append, ← hx]
        simp
      by_cases hgt : most < x.2.size
      · have ht : longer most l = true := by
          unfold longer
          rw [List.any_eq_true]
          exact ⟨x, by rw [hx]; exact List.getElem_mem hkl, by simpa using hgt⟩
        have HT := Lib.hid ht; clear hx hs ht
        go_wp2
        go_ret
        exact ⟨by rw [HT.out]; rfl, rfl⟩
      · have hs2 : longer most (l.take (k + 1)) = false := by rw [hs, HV.out]; simpa using hgt
        have HS := Lib.hid hs2; clear hs hs2 hx
        go_wp2
        go_roundw
        case rel => exact ⟨k + 1, by omega, by simp, HS.out, trivial⟩
        case measure => simp [intL]; omega
    · have hkn : k = n := by omega
      have hf : longer most l = false := by
        have := HV.out
        rwa [List.take_of_length_le (by rw [HN.out]; omega)] at this
      have HT := Lib.hid hf; clear hf
      go_wp2
      go_ret
      exact ⟨by rw [HT.out]; rfl, rfl⟩
end Go.Proofs.YtmenngmejehofaaGreatDoor
