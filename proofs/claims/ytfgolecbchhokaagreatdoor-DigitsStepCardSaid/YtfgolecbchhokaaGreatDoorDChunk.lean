/- The library's iterator that cuts a row of Ints into pairs, walked. -/
import Derived.Test.YtfgolecbchhokaaGreatDoorDRev
import Derived.RangeFuncBox
import Derived.RangeFuncBound
import Derived.RangeFuncCalls
import Derived.RangeFuncLeaves
import Derived.RangeFuncNested
import Derived.Shelf.Abstract
import Derived.Shelf.RegionOpen
import Derived.WalkKit
import Derived.OwnWalkIn
import Derived.TacticsInMore
import Derived.LoopNIn
import Derived.LoopIn
namespace Go.Proofs.YtfgolecbchhokaaGreatDoor
open Go.RowKit Go.Shelf

attribute [local go_sem] Oper.semAt_some

/-- What a round keeps: what lies below n₀, and the boxes of the row and of the number. -/
def KC (n₀ Bs Bn : Nat) (sv : Value) (W W' : World) : Prop := Below n₀ W W' ∧ (Rw W Bs 66 [sv] → Rw W' Bs 66 [sv]) ∧ (Rw W Bn 3 [.int .i64 2] → Rw W' Bn 3 [.int .i64 2])
theorem KC.refl {n₀ Bs Bn : Nat} {sv : Value} (W : World) : KC n₀ Bs Bn sv W W := ⟨Below.refl _ _, id, id⟩
theorem KC.trans {n₀ Bs Bn : Nat} {sv : Value} {A B C : World} (h : KC n₀ Bs Bn sv A B) (k : KC n₀ Bs Bn sv B C) : KC n₀ Bs Bn sv A C := ⟨h.1.trans k.1, fun x => k.2.1 (h.2.1 x), fun x => k.2.2 (h.2.2 x)⟩
theorem KC.put {n₀ Bs Bn : Nat} {sv : Value} {w : World} (hn : n₀ ≤ w.heap.size) (hB : Bs < w.heap.size) (hN : Bn < w.heap.size) (W : World) (l : Nat) (o o' : Obj) (hl : w.heap.size ≤ l) (h : W.heap[l]? = some o) (h1 : o.isCells = false) (h2 : o.isWalk = false) : KC n₀ Bs Bn sv W (W.putObj l o') :=
  ⟨belowK_b hn W l o o' hl h h1 h2, fun x => ((grownBy_putObj' W l o').block Bs x.lt (by simp; omega)).trans x, fun x => ((grownBy_putObj' W l o').block Bn x.lt (by simp; omega)).trans x⟩
/-- The pair that a round hands out. -/
def pairOf (b off len k : Nat) : Value := .slice (some ⟨b, off + 2 * k * 2, none⟩) (min 2 (len - 2 * k)) (min 2 (len - 2 * k))

set_option maxHeartbeats 1000000 in
theorem chunk_in (F : Fence) (n : Nat) (hf : F.fn 153) (hro : F.round = none) (a : Option Addr) (len cap : Nat) (w : World) :
    CallsIn F n Tryz.prog 153 #[.slice a len cap, .int .i64 2] w fun e w' => e = .returned (.func (.func 182) #[] #[.pointer (some ⟨w.heap.size, 0, none⟩), .pointer (some ⟨w.heap.size + 1, 0, none⟩)]) ∧ w' = (w.alloc (.cells #[.slice a len cap] 66)).alloc (.cells #[.int .i64 2] 3) := by
  refine callsIn_of_wp Tryz.func153 rfl hf ?_ hro
  simp only [Tryz.ntmps153, List.size_toArray, List.length_cons, List.length_nil, Nat.reduceAdd, Nat.reduceSub, Array.replicate_succ, Array.replicate_zero, List.push_toArray, List.append_toArray, List.nil_append, List.cons_append]
  gi_wp2
  go_ret
  exact ⟨rfl, rfl⟩

set_option maxRecDepth 100000 in
set_option maxHeartbeats 2000000 in
theorem chunk1_in (F : Fence) (n : Nat) (hf : F.fn 182) (hro : F.round = none) (hn : 1 ≤ n) (l Bs Bn n₀ b off len cap : Nat) (hlc : len ≤ cap) (hmax : len ≤ 100000) (J Jx : List Nat → World → Prop) (B0 : Nat) (hA : AbidesFrom B0 J)
    (hY : ∀ pre x W, J pre W → 2 * pre.length < len → x = pre.length → YieldAt F (n - 1) Tryz.prog l #[pairOf b off len x] W fun e W' =>
      (e = .returned (.bool true) ∧ J (pre ++ [x]) W' ∧ KC n₀ Bs Bn (.slice (some ⟨b, off, none⟩) len cap) W W') ∨ (e = .returned (.bool false) ∧ Jx (pre ++ [x]) W'))
    (W : World) (hBs : Rw W Bs 66 [.slice (some ⟨b, off, none⟩) len cap]) (hBn : Rw W Bn 3 [.int .i64 2]) (h0 : J [] W) :
    CallsIn F n Tryz.prog 182 #[.func (.yield l) #[] #[], .pointer (some ⟨Bs, 0, none⟩), .pointer (some ⟨Bn, 0, none⟩)] W fun e W' => (∃ v, e = .returned v) ∧
      ((∃ ys, ys = List.range ((len + 1) / 2) ∧ J ys W') ∨ (∃ pre, (∃ k, k ≤ (len + 1) / 2 ∧ pre = List.range k) ∧ Jx pre W')) := by
  refine callsIn_of_wp Tryz.func182 rfl hf ?_ hro
  simp only [Tryz.ntmps182, List.size_toArray, List.length_cons, List.length_nil, Nat.reduceAdd, Nat.reduceSub, Array.replicate_succ, Array.replicate_zero, List.push_toArray, List.append_toArray, List.nil_append, List.cons_append]
  have hbs := hBs.cell 0
  have hbn := hBn.cell 0
  simp only [List.getElem?_cons_zero] at hbs hbn
  gi_wp2
  gi_loopw [4] (fun i wr => ∃ (k : Nat), 2 * k ≤ len + 1 ∧ i = .int .i64 (2 * (k : Int)) ∧ J (List.range k) wr ∧ KC n₀ Bs Bn (.slice (some ⟨b, off, none⟩) len cap) W wr)
    (fun i _ => len + 2 - (intOf i).toNat)
  case atStart => exact ⟨0, Nat.zero_le _, rfl, h0, KC.refl _⟩
  case round =>
    obtain ⟨k, hk, rfl, hJs, hnx⟩ := hrel
    have hbx := (hnx.2.1 hBs).cell 0
    have hbn2 := (hnx.2.2 hBn).cell 0
    simp only [List.getElem?_cons_zero] at hbx hbn2
    by_cases hlt : 2 * k < len
    · have hlt2 : 2 * (k : Int) < (len : Int) := by omega
      have hle2 : 2 * (k : Int) ≤ (len : Int) := by omega
      have hle3 : 2 * (k : Int) ≤ (cap : Int) := by omega
      have h02 : (0 : Int) ≤ 2 * (k : Int) := by omega
      obtain ⟨m, hm⟩ : ∃ m : Nat, min 2 (len - 2 * k) = m := ⟨_, rfl⟩
      have hmi : min (2 : Int) ((len - 2 * k : Nat) : Int) = (m : Int) := by omega
      have hm1 : 1 ≤ m := by omega
      have hm2 : 2 * k + m ≤ len := by omega
      have hml : (2 * (k : Int) + (m : Int)).toNat - 2 * k = m := by omega
      have hp : pairOf b off len k = .slice (some ⟨b, off + 2 * k * 2, none⟩) m m := by unfold pairOf; rw [hm]
      have hJd : J (List.range k) wr.drew := hA _ _ _ none hJs ⟨rfl, rfl, rfl, Nat.le_refl _, fun _ _ _ => rfl⟩ (fun r e => by cases e)
      have hkd : KC n₀ Bs Bn (.slice (some ⟨b, off, none⟩) len cap) W wr.drew := ⟨hnx.1.drew, fun x => hnx.2.1 x, fun x => hnx.2.2 x⟩
      have hlenk : (List.range k).length = k := List.length_range
      obtain ⟨fn, tmps, assign, body, hy, hR⟩ := hY (List.range k) k wr.drew hJd (by rw [hlenk]; exact hlt) hlenk.symm
      rw [hp] at hy
      have hsuc : List.range (k + 1) = List.range k ++ [k] := List.range_succ
      have HK := Lib.hid (And.intro hkd (And.intro hsuc hJs))
      clear hJs hnx hJd hkd hsuc hlenk hp hm hA
      have hsl : (2 * (k : Int)).toNat = 2 * k := by omega
      gi_wp2
      gi_region
      all_goals
        gi_wp2
        refine hR.mono ?_
        rintro e W3 (⟨rfl, hJ3, hk3⟩ | ⟨rfl, hJx3⟩)
        · have hbn3 := (hk3.2.2 (HK.out.1.2.2 hBn)).cell 0
          simp only [List.getElem?_cons_zero] at hbn3
          gi_wp2
          go_roundw
          case rel => exact ⟨k + 1, by omega, by congr 1, by rw [HK.out.2.1]; exact hJ3, HK.out.1.trans hk3⟩
          case measure => simp [intOf]; omega
        · gi_wp2
          refine bodyPost_ret (results_none rfl _ _ _) rfl ?_
          exact ⟨⟨_, rfl⟩, .inr ⟨_, ⟨k + 1, by omega, HK.out.2.1.symm⟩, hJx3⟩⟩
    · have hnl : ¬ (2 * (k : Int) < (len : Int)) := by omega
      have hkk : k = (len + 1) / 2 := by omega
      gi_wp2
      go_end0
      have hJe : J (List.range ((len + 1) / 2)) wr := hkk ▸ hJs
      first | exact ⟨⟨_, rfl⟩, .inl ⟨_, rfl, hJe⟩⟩ | exact ⟨⟨_, rfl⟩, .inl hJe⟩ | exact .inl hJe
/-- The iterator's contract: all pairs, or the first k of them. -/
theorem chunk_stops (F : Fence) (n : Nat) (hf : F.fn 182) (hro : F.round = none) (hn : 1 ≤ n) (Bs Bn n₀ b off len cap : Nat) (hlc : len ≤ cap) (hmax : len ≤ 100000) (w : World)
    (hBs : Rw w Bs 66 [.slice (some ⟨b, off, none⟩) len cap]) (hBn : Rw w Bn 3 [.int .i64 2]) :
    SeqStopsK F n Tryz.prog 182 #[.pointer (some ⟨Bs, 0, none⟩), .pointer (some ⟨Bn, 0, none⟩)] (fun k : Nat => #[pairOf b off len k]) (KC n₀ Bs Bn (.slice (some ⟨b, off, none⟩) len cap)) (fun ys => ys = List.range ((len + 1) / 2))
      (fun pre => ∃ k, k ≤ (len + 1) / 2 ∧ pre = List.range k) ((len + 1) / 2) w := fun l J Jx W hW hA _ hY h0 =>
  chunk1_in F n hf hro hn l Bs Bn n₀ b off len cap hlc hmax J Jx W.heap.size hA (fun pre x W1 hJ hl _ => hY pre x W1 hJ (by omega)) W (hBs.below hW hBs.lt) (hBn.below hW hBn.lt) h0
/-- The same, told so that no round is handed a pair that isn't there. -/
theorem chunk_stops' (F : Fence) (n : Nat) (hf : F.fn 182) (hro : F.round = none) (hn : 1 ≤ n) (Bs Bn n₀ b off len cap : Nat) (hlc : len ≤ cap) (hmax : len ≤ 100000) (w : World)
    (hBs : Rw w Bs 66 [.slice (some ⟨b, off, none⟩) len cap]) (hBn : Rw w Bn 3 [.int .i64 2]) :
    SeqStopsK F n Tryz.prog 182 #[.pointer (some ⟨Bs, 0, none⟩), .pointer (some ⟨Bn, 0, none⟩)] (fun k : Nat => #[pairOf b off len (min k ((len + 1) / 2 - 1))]) (KC n₀ Bs Bn (.slice (some ⟨b, off, none⟩) len cap)) (fun ys => ys = List.range ((len + 1) / 2))
      (fun pre => ∃ k, k ≤ (len + 1) / 2 ∧ pre = List.range k) ((len + 1) / 2) w := fun l J Jx W hW hA _ hY h0 =>
  chunk1_in F n hf hro hn l Bs Bn n₀ b off len cap hlc hmax J Jx W.heap.size hA (fun pre x W1 hJ hl hx => by
    have h1 := hY pre x W1 hJ (by omega)
    have e : min x ((len + 1) / 2 - 1) = x := by omega
    simp only [e] at h1
    exact h1) W (hBs.below hW hBs.lt) (hBn.below hW hBn.lt) h0
end Go.Proofs.YtfgolecbchhokaaGreatDoor
