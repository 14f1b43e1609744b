/- The law of products of rows, and of powers: it answers true for all. -/
import Derived.Test.YtmenngmejehofaaGreatDoorWRef9
import Derived.Test.YtmenngmejehofaaGreatDoorWHeld
import Derived.Test.YtmenngmejehofaaGreatDoorWLaw0
import Derived.Test.YtmenngmejehofaaGreatDoorWPow
import Derived.Deep.DeepFit
import Derived.Deep.RegionHeld3
namespace Go.Proofs.YtmenngmejehofaaGreatDoor
open Go.RowKit Go.Shelf

/-- Mul, of however many. -/
theorem wmul_all (w : World) (ad : Option Addr) (l : List IV) (n c : Nat) (hn : l.length = n) (hc : n ≤ c) (hmax : n ≤ 900) (hs : ∀ x ∈ l, x.2.size ≤ 100000) (hl : IAt w ad l)
    (z : Bool) (o : ByteArray) (hz : wf (prodI l n) = wi z o) :
    Calls Tryz.prog 33 #[.slice ad n c] w (Ret (.agg #[.bool z, .string o]) w) := by
  rcases Nat.lt_or_ge n 1 with h | h
  · obtain rfl : n = 0 := by omega
    exact wmul_none w ad c z o hz
  · obtain ⟨b, off, rfl, hlt, h1, h2⟩ := hl 0 (by omega)
    rcases Nat.lt_or_ge n 2 with h2' | h2'
    · obtain rfl : n = 1 := by omega
      obtain ⟨x, rfl⟩ : ∃ x, l = [x] := List.length_eq_one_iff.1 hn
      refine wmul_one w b off c x.1 x.2 (hs x (by simp)) ?_ ?_ z o ?_
      · simpa using h1
      · simpa using h2
      · rw [← hz]
        show _ = wf (1 * wv x.1 x.2)
        rw [Int.one_mul]
    · exact wmul_any w b off l n c hn hc h2' hmax hs hl z o hz
theorem heldo {W W' : World} {b p q : Nat} {x y : Value} (hq : Below W.heap.size W W') (h : W.cell? ⟨b, p, none⟩ = some x ∧ W.cell? ⟨b, q, none⟩ = some y) : W'.cell? ⟨b, p, none⟩ = some x ∧ W'.cell? ⟨b, q, none⟩ = some y := by
  have hlt : b < W.heap.size := World.block_lt_of_cell? W _ h.1
  exact ⟨(hq.cell hlt).trans h.1, (hq.cell hlt).trans h.2⟩
def intMu : Value → Nat | .int _ n => n.toNat | _ => 0
theorem sI_pow' (n : Bool) (A k : Nat) : sI n A ^ k = sI (n && decide (k % 2 = 1)) (A ^ k) := by
  induction k with
  | zero => simp [sI]
  | succ k ih =>
    rw [Int.pow_succ, ih, sI_mul, Nat.pow_succ]
    congr 1
    rcases Nat.mod_two_eq_zero_or_one k with h | h
    · have h2 : (k + 1) % 2 = 1 := by omega
      rw [h, h2]; cases n <;> rfl
    · have h2 : (k + 1) % 2 = 0 := by omega
      rw [h, h2]; cases n <;> rfl
theorem wpow_int (w : World) (n : Bool) (s : ByteArray) (k : Int) (hs : s.size ≤ 10000) (hk : k ≤ 64) (z : Bool) (o : ByteArray) (hz : wf (wv n s ^ k.toNat) = wi z o) :
    Calls Tryz.prog 35 #[wi n s, .int .i64 k] w (Ret (.agg #[.bool z, .string o]) w) := by
  by_cases h : k < 1
  · refine wpow_none w n s k h z o ?_
    rw [← hz, show k.toNat = 0 by omega, Int.pow_zero]
  · obtain ⟨j, rfl⟩ : ∃ j : Nat, k = (j : Int) := ⟨k.toNat, by omega⟩
    refine wpow_some w n s j hs (by omega) (by omega) z o ?_
    rw [← sI_pow', ← wv_sI]
    exact hz

set_option maxRecDepth 100000 in
set_option maxHeartbeats 1600000 in
theorem wmuls_any (w : World) (ad : Option Addr) (l : List IV) (n c : Nat) (hn : l.length = n) (hc : n ≤ c) (hl : IAt w ad l) (k : Int) :
    Calls Tryz.prog 5 #[.slice ad n c, .int .i64 k] w (Ret (.bool true) w) := by
  have hb := Below.refl w.heap.size w
  go_enter Tryz.func5, Tryz.ntmps5
  by_cases h5 : 5 < n
  · go_wp2_with fail
    refine (wawake_any _).mono ?_
    rintro e W ⟨rfl, hq⟩
    replace hb := below_next hb hq
    go_wp2
    go_ret
    exact ⟨rfl, hb⟩
  · go_wp2_with fail
    refine (long_any _ 30 ad l n c hn (by omega) hl).mono ?_
    rintro e W ⟨rfl, rfl⟩
    by_cases hlong : longer 30 l = true
    · rw [hlong]
      go_wp2_with fail
      refine (wawake_any _).mono ?_
      rintro e W ⟨rfl, hq⟩
      replace hb := below_next hb hq
      go_wp2
      go_ret
      exact ⟨rfl, hb⟩
    · have hlf : longer 30 l = false := by simpa using hlong
      have hs30 : ∀ x ∈ l, x.2.size ≤ 30 := by
        intro x hx
        have h0 : ¬ 30 < x.2.size := by
          intro h
          apply hlong
          unfold longer
          exact List.any_eq_true.2 ⟨x, hx, by simpa using h⟩
        omega
      rw [hlf]
      obtain ⟨z, o, hz⟩ := nmw_some (prodI l n)
      have HS := Lib.hid (And.intro hs30 hz)
      clear hs30 hz hlong hlf
      go_wp2_with fail
      refine (wmul_all _ ad l n c hn hc (by omega) (fun x h => Nat.le_trans (HS.out.1 x h) (by omega)) hl z o HS.out.2).mono ?_
      rintro e W ⟨rfl, hq⟩
      replace hb := below_next hb hq
      have hl2 := hl.below hq
      clear hq hl
      go_wp2_with fail
      refine (rmul_any _ ad l n c hn (by omega) (fun x h => Nat.le_trans (HS.out.1 x h) (by omega)) hl2 z o HS.out.2).mono ?_
      rintro e W2 ⟨rfl, hq⟩
      replace hb := below_next hb hq
      have hl := hl2.below hq
      clear hq hl2
      go_wp2
      go_loopw [5] (fun i wr => ∃ j : Int, (j = 0 ∨ j = 1) ∧ i = .int .i64 j ∧ Below w.heap.size w wr ∧ IAt wr ad l) (fun i _ => 1 - intMu i)
      case atStart => exact ⟨0, .inl rfl, rfl, hb, hl⟩
      case round =>
        clear hb hl
        obtain ⟨j, hj, rfl, hb, hl⟩ := hrel
        by_cases hgo : j = 0 ∧ 0 < n ∧ k ≤ 12
        · obtain ⟨rfl, hn0, hk12⟩ := hgo
          clear hj
          obtain ⟨lb, lo, rfl, hlb, hc1, hc2⟩ := hl 0 (by omega)
          obtain ⟨m1, s1, hx⟩ : ∃ m s, l[0] = (m, s) := ⟨_, _, rfl⟩
          have hss : s1.size ≤ 30 := by have := HS.out.1 l[0] (List.getElem_mem (by omega)); rw [hx] at this; exact this
          rw [hx] at hc1 hc2
          rw [Nat.zero_mul, Nat.add_zero] at hc1 hc2
          obtain ⟨p, u, hp⟩ := nmw_some (wv m1 s1 ^ k.toNat)
          have HP := Lib.hid hp
          clear hx hp
          have hin : wr.drew.cell? ⟨lb, lo, none⟩ = some (.bool m1) ∧ wr.drew.cell? ⟨lb, lo + 1, none⟩ = some (.string s1) := ⟨hc1, hc2⟩
          go_wp2_with fail
          replace hb := hb.drew
          replace hl : IAt wr.drew (some ⟨lb, lo, none⟩) l := hl
          clear hc1 hc2
          go_region_held3 (fun w' => w'.cell? ⟨lb, lo, none⟩ = some (.bool m1) ∧ w'.cell? ⟨lb, lo + 1, none⟩ = some (.string s1))
            (first | assumption | exact heldo hq (by assumption))
            (first
             | (go_at_call 35; go_fit (wpow_int _ m1 s1 k (by omega) (by omega) p u HP.out); rintro e V ⟨rfl, hq⟩; replace hb := below_next hb hq; replace hl := hl.below hq)
             | (go_at_call 36; go_fit (rpow_any _ m1 s1 k (by omega) (by omega) p u HP.out); rintro e V ⟨rfl, hq⟩; replace hb := below_next hb hq; replace hl := hl.below hq))
          go_wp2
          go_roundw
          case rel => exact ⟨1, .inr rfl, rfl, hb, hl⟩
          case measure => simp [intMu]
        · rcases hj with rfl | rfl
          · by_cases hn0 : 0 < n
            · have hk12 : ¬ k ≤ 12 := fun h => hgo ⟨rfl, hn0, h⟩
              clear hgo
              go_wp2_with fail
              refine (wawake_any _).mono ?_
              rintro e V ⟨rfl, hq⟩
              replace hb := below_next hb hq
              go_wp2
              go_ret
              exact ⟨rfl, hb⟩
            · clear hgo
              go_wp2_with fail
              refine (wawake_any _).mono ?_
              rintro e V ⟨rfl, hq⟩
              replace hb := below_next hb hq
              go_wp2
              go_ret
              exact ⟨rfl, hb⟩
          · clear hgo
            by_cases hn1 : 1 < n
            · go_wp2_with fail
              refine (wawake_any _).mono ?_
              rintro e V ⟨rfl, hq⟩
              replace hb := below_next hb hq
              go_wp2
              go_ret
              exact ⟨rfl, hb⟩
            · go_wp2_with fail
              refine (wawake_any _).mono ?_
              rintro e V ⟨rfl, hq⟩
              replace hb := below_next hb hq
              go_wp2
              go_ret
              exact ⟨rfl, hb⟩

theorem wmuls_law (w : World) (ad : Option Addr) (l : List IV) (n c : Nat) (hn : l.length = n) (hc : n ≤ c ∧ (ad = none → c = 0)) (hl : IAt w ad l) (k : Int) (_hk : (Lit.int .i64 k).wf = true) :
    Calls Tryz.prog 5 #[.slice ad n c, .int .i64 k] w (Ret (.bool true) w) := wmuls_any w ad l n c hn hc.1 hl k
end Go.Proofs.YtmenngmejehofaaGreatDoor
