/- The library's iterator that goes through a row from its end, walked. -/
import Derived.Test.YtemlhloipjbecaaDoorRow1
import Derived.RangeFuncBox
import Derived.RangeFuncBound
import Derived.RangeFuncCalls
import Derived.RangeFuncLeaves
import Derived.RangeFuncNested
import Derived.Shelf.Abstract
import Derived.Shelf.RegionOpen
import Derived.WalkKit
import Derived.OwnWalkIn
import Derived.TacticsInMore
import Derived.LoopNIn
import Derived.LoopIn
namespace Go.Proofs.YtemlhloipjbecaaDoor
open Go.RowKit Go.Shelf

attribute [local go_sem] Oper.semAt_some

/-- What has come when k rounds are over: the place and the digit there, from the last one down. -/
def backs (ds : List Nat) (k : Nat) : List (Nat × Nat) := (List.range k).map fun j => (ds.length - 1 - j, ds.getD (ds.length - 1 - j) 0)
theorem backs_succ (ds : List Nat) (k : Nat) : backs ds (k + 1) = backs ds k ++ [(ds.length - 1 - k, ds.getD (ds.length - 1 - k) 0)] := by simp [backs, List.range_succ]
theorem backs_length (ds : List Nat) (k : Nat) : (backs ds k).length = k := by simp [backs]

/-- What a round keeps: what lies below n₀, and the box of the row that is gone through. -/
def KB (n₀ Bs : Nat) (sv : Value) (W W' : World) : Prop := Below n₀ W W' ∧ (Rw W Bs 54 [sv] → Rw W' Bs 54 [sv])
theorem KB.refl {n₀ Bs : Nat} {sv : Value} (W : World) : KB n₀ Bs sv W W := ⟨Below.refl _ _, id⟩
theorem KB.trans {n₀ Bs : Nat} {sv : Value} {A B C : World} (h : KB n₀ Bs sv A B) (k : KB n₀ Bs sv B C) : KB n₀ Bs sv A C := ⟨h.1.trans k.1, fun x => k.2 (h.2 x)⟩
theorem KB.put {n₀ Bs : Nat} {sv : Value} {w : World} (hn : n₀ ≤ w.heap.size) (hB : Bs < w.heap.size) (W : World) (l : Nat) (o o' : Obj) (hl : w.heap.size ≤ l) (h : W.heap[l]? = some o) (h1 : o.isCells = false) (h2 : o.isWalk = false) : KB n₀ Bs sv W (W.putObj l o') :=
  ⟨belowK_b hn W l o o' hl h h1 h2, fun x => ((grownBy_putObj' W l o').block Bs x.lt (by simp; omega)).trans x⟩

set_option maxRecDepth 100000 in
set_option maxHeartbeats 2000000 in
theorem backward1_in (F : Fence) (n : Nat) (hf : F.fn 86) (hro : F.round = none) (hn : 1 ≤ n) (l Bs n₀ b off len cap : Nat) (ds : List Nat) (hl : ds.length = len) (hmax : len ≤ 1000000000000) (hb : b < n₀) (J Jx : List (Nat × Nat) → World → Prop)
    (hY : ∀ pre x W, J pre W → pre.length < len → YieldAt F (n - 1) Tryd.prog l #[.int .i64 (x.1 : Int), .int .u64 (x.2 : Int)] W fun e W' =>
      (e = .returned (.bool true) ∧ J (pre ++ [x]) W' ∧ KB n₀ Bs (.slice (some ⟨b, off, none⟩) len cap) W W') ∨ (e = .returned (.bool false) ∧ Jx (pre ++ [x]) W'))
    (W : World) (hBs : Rw W Bs 54 [.slice (some ⟨b, off, none⟩) len cap]) (hc : Ds W b off ds) (h0 : J [] W) :
    CallsIn F n Tryd.prog 86 #[.func (.yield l) #[] #[], .pointer (some ⟨Bs, 0, none⟩)] W fun e W' => (∃ v, e = .returned v) ∧
      ((∃ ys, ys = backs ds len ∧ J ys W') ∨ (∃ pre, (∃ k, k ≤ len ∧ pre = backs ds k) ∧ Jx pre W')) := by
  refine callsIn_of_wp Tryd.func86 rfl hf ?_ hro
  simp only [Tryd.ntmps86, List.size_toArray, List.length_cons, List.length_nil, Nat.reduceAdd, Nat.reduceSub, Array.replicate_succ, Array.replicate_zero, List.push_toArray, List.append_toArray, List.nil_append, List.cons_append]
  have hbs := hBs.cell 0
  simp only [List.getElem?_cons_zero] at hbs
  gi_wp2
  gi_loopw [3] (fun i wr => ∃ (k : Nat) (c : Int), k ≤ len ∧ i = .int .i64 c ∧ c = (len : Int) - 1 - (k : Int) ∧ J (backs ds k) wr ∧ KB n₀ Bs (.slice (some ⟨b, off, none⟩) len cap) W wr)
    (fun i _ => (intOf i + 1).toNat)
  case atStart => exact ⟨0, _, Nat.zero_le _, rfl, by omega, h0, KB.refl _⟩
  case round =>
    obtain ⟨k, c, hk, rfl, hcc, hJs, hnx⟩ := hrel
    have hbx := (hnx.2 hBs).cell 0
    simp only [List.getElem?_cons_zero] at hbx
    by_cases hlt : k < len
    · obtain ⟨i, hi⟩ : ∃ i, i = len - 1 - k := ⟨_, rfl⟩
      have hil : i < ds.length := by omega
      obtain rfl : c = (i : Int) := by omega
      have hcx : wr.cell? ⟨b, off + i, none⟩ = some (.int .u64 (ds.getD i 0 : Nat)) := by
        have h1 := (hnx.1.cell (p := ⟨b, off + i, none⟩) hb).trans (hc i hil)
        rw [h1]; simp [dg, hil]
      have hil' : i < len := by omega
      have hsucc : backs ds (k + 1) = backs ds k ++ [(i, ds.getD i 0)] := by rw [backs_succ, hl, ← hi]
      obtain ⟨d, hd⟩ : ∃ d, d = ds.getD i 0 := ⟨_, rfl⟩
      rw [← hd] at hcx hsucc
      have HS := Lib.hid hsucc; clear hsucc
      have HI := Lib.hid hi; clear hi hd hcc
      have HL := Lib.hid hl; clear hl
      obtain ⟨fn, tmps, assign, body, hy, hR⟩ := hY _ (i, d) wr hJs (by rw [backs_length]; exact hlt)
      dsimp only at hy
      gi_wp2
      refine hR.mono ?_
      rintro e W3 (⟨rfl, hJ3, hk3⟩ | ⟨rfl, hJx3⟩)
      · gi_wp2
        go_roundw
        case rel => exact ⟨k + 1, (i : Int) - 1, by omega, rfl, by have := HI.out; omega, by rw [HS.out]; exact hJ3, hnx.trans hk3⟩
        case measure => simp [intOf]
      · gi_wp2
        refine bodyPost_ret (results_none rfl _ _ _) rfl ?_
        exact ⟨⟨_, rfl⟩, .inr ⟨_, ⟨k + 1, by omega, HS.out.symm⟩, hJx3⟩⟩
    · obtain rfl : k = len := by omega
      obtain rfl : c = -1 := by omega
      clear hcc
      gi_wp2
      go_end0
      exact ⟨⟨_, rfl⟩, .inl ⟨_, rfl, hJs⟩⟩

set_option maxHeartbeats 1000000 in
theorem backward_in (F : Fence) (n : Nat) (hf : F.fn 70) (hro : F.round = none) (a : Option Addr) (len cap : Nat) (w : World) :
    CallsIn F n Tryd.prog 70 #[.slice a len cap] w fun e w' => e = .returned (.func (.func 86) #[] #[.pointer (some ⟨w.heap.size, 0, none⟩)]) ∧ w' = w.alloc (.cells #[.slice a len cap] 54) := by
  refine callsIn_of_wp Tryd.func70 rfl hf ?_ hro
  simp only [Tryd.ntmps70, List.size_toArray, List.length_cons, List.length_nil, Nat.reduceAdd, Nat.reduceSub, Array.replicate_succ, Array.replicate_zero, List.push_toArray, List.append_toArray, List.nil_append, List.cons_append]
  gi_wp2
  go_ret
  exact ⟨rfl, rfl⟩

/-- The iterator's contract: all digits from the last one down, or the first k of them. -/
theorem backward_stops (F : Fence) (n : Nat) (hf : F.fn 86) (hro : F.round = none) (hn : 1 ≤ n) (Bs n₀ b off len cap : Nat) (ds : List Nat) (hl : ds.length = len) (hmax : len ≤ 1000000000000) (hb : b < n₀) (w : World) (hn₀ : n₀ ≤ w.heap.size)
    (hBs : Rw w Bs 54 [.slice (some ⟨b, off, none⟩) len cap]) (hc : Ds w b off ds) :
    SeqStopsK F n Tryd.prog 86 #[.pointer (some ⟨Bs, 0, none⟩)] (fun x : Nat × Nat => #[Value.int .i64 (x.1 : Int), Value.int .u64 (x.2 : Int)]) (KB n₀ Bs (.slice (some ⟨b, off, none⟩) len cap)) (fun ys => ys = backs ds len)
      (fun pre => ∃ k, k ≤ len ∧ pre = backs ds k) len w := fun l J Jx W hW _ _ hY h0 => by
  have hW' := hW.mono hn₀
  exact backward1_in F n hf hro hn l Bs n₀ b off len cap ds hl hmax hb J Jx hY W (hBs.below hW hBs.lt) (hc.below hW' hb) h0
end Go.Proofs.YtemlhloipjbecaaDoor
