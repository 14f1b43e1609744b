/- The document's answer for whole numbers: Shift, walked. -/
import Derived.Test.YtpahmnifkinpiaaGreatDoorHR
import Derived.Test.YtpahmnifkinpiaaGreatDoorHW
namespace Go.Proofs.YtpahmnifkinpiaaGreatDoor
open Go.RowKit Go.Shelf

set_option maxRecDepth 100000 in
set_option maxHeartbeats 6400000 in
theorem rshift_down (w : World) (n : Bool) (s : ByteArray) (k : Int) (hs : s.size ≤ 10000) (hk0 : k < 0) (hk : -9223372036854775808 ≤ k) (z : Bool) (o : ByteArray) (hz : wf (shiftI (wv n s) k) = wi z o) :
    Calls Tryz.prog 108 #[wi n s, .int .i64 k] w (Ret (.agg #[.bool z, .string o]) w) := by
  have HZ := Lib.hid hz; clear hz
  unfold wi
  go_enter Tryz.func108, Tryz.ntmps108
  go_wp2_with fail
  obtain ⟨hA, hC, hb⟩ := blocks2 w #[Value.bool n, Value.string s] #[Value.bool false, Value.string { data := #[] }]
  generalize ((w.alloc (Obj.cells #[Value.bool n, Value.string s] 23)).alloc (Obj.cells #[Value.bool false, Value.string { data := #[] }] 23)) = W0 at *
  refine (bits_of_any _ s (by omega)).mono ?_
  rintro e W ⟨ad, c, es, rfl, hbw, hbit, hlen, hv, hle, hq⟩
  replace hb := below_next hb hq
  replace hA := hA.below hq
  replace hC := hC.below hq
  clear hq hbw hlen
  obtain ⟨N, hN⟩ : ∃ N, es.length = N := ⟨_, rfl⟩
  have hnum : num s < 2 ^ N := by rw [← hv, ← hN]; exact val2_lt hbit
  have hNs : N ≤ 80000 := by omega
  have hab : (wv n s).natAbs < 2 ^ N := by rw [wv_abs]; exact hnum
  obtain ⟨e, K, he, he0, hK, hsh, hk2⟩ : ∃ (e : Nat) (K : Int), e ≤ N + 1 ∧ 1 ≤ e ∧ K = (e : Int) ∧ wv n s / ((2 ^ e : Nat) : Int) = shiftI (wv n s) k ∧ ((k < -((N : Int) + 1) ∧ K = (N : Int) + 1) ∨ (¬ k < -((N : Int) + 1) ∧ -k = K)) := by
    unfold shiftI
    rw [if_neg (by omega)]
    by_cases c1 : k < -((N : Int) + 1)
    · refine ⟨N + 1, (N : Int) + 1, Nat.le_refl _, by omega, by omega, ?_, .inl ⟨c1, rfl⟩⟩
      rw [ediv_small (Nat.lt_of_lt_of_le hab (Nat.pow_le_pow_right (by omega) (by omega))), ediv_small (Nat.lt_of_lt_of_le hab (Nat.pow_le_pow_right (by omega) (by omega)))]
    · exact ⟨(-k).toNat, -k, by omega, by omega, by omega, rfl, .inr ⟨c1, rfl⟩⟩
  obtain ⟨P, hP⟩ : ∃ P, fb (shlN (num ⟨#[1]⟩) K) = P := ⟨_, rfl⟩
  have hPn : num P = 2 ^ e := by rw [← hP, num_fb, hK, shl_nat, show num ⟨#[1]⟩ = 1 from by kernel_rfl, Nat.one_mul]
  have hPs : P.size ≤ 80002 := by
    rw [← hP, hK, shl_nat, show num ⟨#[1]⟩ = 1 from by kernel_rfl, Nat.one_mul]
    refine Nat.le_trans (fb_size_le (k := e + 1) ?_) (by omega)
    exact Nat.lt_of_lt_of_le (Nat.pow_lt_pow_right (by omega) (by omega : e < e + 1)) (Nat.pow_le_pow_left (by omega) _)
  have hP0 : wv false P ≠ 0 := by
    rw [wv_false, hPn]
    have := Nat.two_pow_pos e
    omega
  have hz1 : wf (wv n s / wv false P) = wi z o := by rw [wv_false, hPn, hsh]; exact HZ.out
  obtain ⟨z2, o2, hz2⟩ : ∃ z2 o2, wf (wv n s % wv false P) = wi z2 o2 := ⟨_, _, rfl⟩
  have HP := Lib.hid (And.intro hP (And.intro hP0 (And.intro hz1 hz2)))
  have hKb : K ≤ 80001 := by omega
  have hK0 : 1 ≤ K := by omega
  clear hP hPn hP0 hz1 hz2 hsh hab hnum hv hbit hK he he0
  rw [hN]
  clear hN
  obtain ⟨hA0, hA1⟩ := hA.cells
  have w1 : IntKind.i64.wrap ((N : Int) + 1) = (N : Int) + 1 := by rw [IntKind.wrap_i64]; omega
  have w2 : IntKind.i64.wrap (-((N : Int) + 1)) = -((N : Int) + 1) := by rw [IntKind.wrap_i64]; omega
  have hin : Below w.heap.size w W.drew ∧ (W.drew.cell? ⟨w.heap.size, 0, none⟩ = some (.bool n) ∧ W.drew.cell? ⟨w.heap.size, 1, none⟩ = some (.string s)) := ⟨hb.drew, hA.drew.cells⟩
  rcases hk2 with ⟨c1, he2⟩ | ⟨c1, he2⟩
  · subst he2
    go_wp2_with fail
    refine region_dag (fun w' => Below w.heap.size w w' ∧ (w'.cell? ⟨w.heap.size, 0, none⟩ = some (.bool n) ∧ w'.cell? ⟨w.heap.size, 1, none⟩ = some (.string s))) (fun f L a W => (f = 15 ∧ L = #[false, false, false, false, false, false, false, false, false, false, false, false, false, false, false] ∧ a = { tmps := #[Value.agg #[Value.bool n, Value.string s], Value.int IntKind.i64 (-(↑N + 1)), Value.pointer (some { block := w.heap.size, off := 0 }), undef, Value.pointer (some { block := w.heap.size + 1, off := 0 }), Value.slice ad N c, Value.int IntKind.i64 (↑N + 1), undef, undef, undef, Value.int IntKind.i64 k, Value.bool (decide (0 ≤ k)), undef, undef, undef, undef, undef, undef, undef, undef, Value.pointer (some { block := w.heap.size, off := 1 }), Value.string s, Value.slice ad N c, Value.slice ad N c, Value.int IntKind.i64 ↑N, Value.int IntKind.i64 (↑N + 1), Value.int IntKind.i64 k, Value.int IntKind.i64 (↑N + 1), Value.int IntKind.i64 (-(↑N + 1)), Value.bool true, Value.int IntKind.i64 (↑N + 1), Value.int IntKind.i64 (-(↑N + 1)), undef, undef, undef, undef, undef, undef, undef, undef, undef, undef, undef], defers := [] } ∧ (fun w' => Below w.heap.size w w' ∧ (w'.cell? ⟨w.heap.size, 0, none⟩ = some (.bool n) ∧ w'.cell? ⟨w.heap.size, 1, none⟩ = some (.string s))) W ∧ Bk W (w.heap.size + 1) #[Value.bool false, Value.string { data := #[] }]) ∨ (f = 11 ∧ L = #[true, true, true, true, false, false, false, false, false, false, false, false, false, false, false] ∧ ∃ (x34 : Value) (x35 : Value), a = { tmps := #[Value.agg #[Value.bool n, Value.string s], Value.int IntKind.i64 (-(↑N + 1)), Value.pointer (some { block := w.heap.size, off := 0 }), undef, Value.pointer (some { block := w.heap.size + 1, off := 0 }), Value.slice ad N c, Value.int IntKind.i64 (↑N + 1), undef, undef, undef, Value.int IntKind.i64 k, Value.bool (decide (0 ≤ k)), undef, undef, undef, undef, undef, undef, undef, undef, Value.pointer (some { block := w.heap.size, off := 1 }), Value.string s, Value.slice ad N c, Value.slice ad N c, Value.int IntKind.i64 ↑N, Value.int IntKind.i64 (↑N + 1), Value.int IntKind.i64 k, Value.int IntKind.i64 (↑N + 1), Value.int IntKind.i64 (-(↑N + 1)), Value.bool true, Value.int IntKind.i64 (↑N + 1), Value.int IntKind.i64 (-(↑N + 1)), undef, Value.agg #[Value.bool n, Value.string s], x34, x35, Value.string P, undef, undef, undef, undef, undef, undef], defers := [] } ∧ (fun w' => Below w.heap.size w w' ∧ (w'.cell? ⟨w.heap.size, 0, none⟩ = some (.bool n) ∧ w'.cell? ⟨w.heap.size, 1, none⟩ = some (.string s))) W ∧ Bk W (w.heap.size + 1) #[Value.bool false, Value.string { data := #[] }]) ∨ (f = 11 ∧ L = #[true, true, true, false, false, false, false, false, false, false, true, false, false, false, false] ∧ ∃ (x34 : Value) (p7 : Nat), a = { tmps := #[Value.agg #[Value.bool n, Value.string s], Value.int IntKind.i64 (-(↑N + 1)), Value.pointer (some { block := w.heap.size, off := 0 }), undef, Value.pointer (some { block := w.heap.size + 1, off := 0 }), Value.slice ad N c, Value.int IntKind.i64 (↑N + 1), Value.pointer (some { block := p7, off := 0 }), undef, undef, Value.int IntKind.i64 k, Value.bool (decide (0 ≤ k)), undef, undef, undef, undef, undef, undef, undef, undef, Value.pointer (some { block := w.heap.size, off := 1 }), Value.string s, Value.slice ad N c, Value.slice ad N c, Value.int IntKind.i64 ↑N, Value.int IntKind.i64 (↑N + 1), Value.int IntKind.i64 k, Value.int IntKind.i64 (↑N + 1), Value.int IntKind.i64 (-(↑N + 1)), Value.bool true, Value.int IntKind.i64 (↑N + 1), Value.int IntKind.i64 (-(↑N + 1)), undef, Value.agg #[Value.bool n, Value.string s], x34, Value.int IntKind.i64 (↑N + 1), undef, undef, undef, undef, undef, undef, undef], defers := [] } ∧ (fun w' => Below w.heap.size w w' ∧ (w'.cell? ⟨w.heap.size, 0, none⟩ = some (.bool n) ∧ w'.cell? ⟨w.heap.size, 1, none⟩ = some (.string s))) W ∧ Bk W p7 #[Value.bool false, Value.string { data := #[] }] ∧ Bk W (w.heap.size + 1) #[Value.bool false, Value.string { data := #[] }] ∧ (w.heap.size ≠ p7 ∧ (w.heap.size + 1) ≠ p7 ∧ w.heap.size ≤ p7)) ∨ (f = 11 ∧ L = #[true, true, true, false, false, false, false, false, false, false, false, true, false, false, false] ∧ ∃ (x34 : Value) (p8 : Nat), a = { tmps := #[Value.agg #[Value.bool n, Value.string s], Value.int IntKind.i64 (-(↑N + 1)), Value.pointer (some { block := w.heap.size, off := 0 }), undef, Value.pointer (some { block := w.heap.size + 1, off := 0 }), Value.slice ad N c, Value.int IntKind.i64 (↑N + 1), undef, Value.pointer (some { block := p8, off := 0 }), undef, Value.int IntKind.i64 k, Value.bool (decide (0 ≤ k)), undef, undef, undef, undef, undef, undef, undef, undef, Value.pointer (some { block := w.heap.size, off := 1 }), Value.string s, Value.slice ad N c, Value.slice ad N c, Value.int IntKind.i64 ↑N, Value.int IntKind.i64 (↑N + 1), Value.int IntKind.i64 k, Value.int IntKind.i64 (↑N + 1), Value.int IntKind.i64 (-(↑N + 1)), Value.bool true, Value.int IntKind.i64 (↑N + 1), Value.int IntKind.i64 (-(↑N + 1)), undef, Value.agg #[Value.bool n, Value.string s], x34, Value.int IntKind.i64 (↑N + 1), undef, undef, undef, undef, undef, undef, undef], defers := [] } ∧ (fun w' => Below w.heap.size w w' ∧ (w'.cell? ⟨w.heap.size, 0, none⟩ = some (.bool n) ∧ w'.cell? ⟨w.heap.size, 1, none⟩ = some (.string s))) W ∧ Bk W p8 #[Value.bool false, Value.string { data := #[] }] ∧ Bk W (w.heap.size + 1) #[Value.bool false, Value.string { data := #[] }] ∧ (w.heap.size ≠ p8 ∧ (w.heap.size + 1) ≠ p8 ∧ w.heap.size ≤ p8)) ∨ (f = 10 ∧ L = #[true, true, true, true, false, false, false, false, false, false, true, false, false, false, false] ∧ ∃ (x34 : Value) (x35 : Value) (p7 : Nat), a = { tmps := #[Value.agg #[Value.bool n, Value.string s], Value.int IntKind.i64 (-(↑N + 1)), Value.pointer (some { block := w.heap.size, off := 0 }), undef, Value.pointer (some { block := w.heap.size + 1, off := 0 }), Value.slice ad N c, Value.int IntKind.i64 (↑N + 1), Value.pointer (some { block := p7, off := 0 }), undef, undef, Value.int IntKind.i64 k, Value.bool (decide (0 ≤ k)), undef, undef, undef, undef, undef, undef, undef, undef, Value.pointer (some { block := w.heap.size, off := 1 }), Value.string s, Value.slice ad N c, Value.slice ad N c, Value.int IntKind.i64 ↑N, Value.int IntKind.i64 (↑N + 1), Value.int IntKind.i64 k, Value.int IntKind.i64 (↑N + 1), Value.int IntKind.i64 (-(↑N + 1)), Value.bool true, Value.int IntKind.i64 (↑N + 1), Value.int IntKind.i64 (-(↑N + 1)), undef, Value.agg #[Value.bool n, Value.string s], x34, x35, Value.string P, undef, undef, undef, undef, undef, undef], defers := [] } ∧ (fun w' => Below w.heap.size w w' ∧ (w'.cell? ⟨w.heap.size, 0, none⟩ = some (.bool n) ∧ w'.cell? ⟨w.heap.size, 1, none⟩ = some (.string s))) W ∧ Bk W p7 #[Value.bool false, Value.string { data := #[] }] ∧ Bk W (w.heap.size + 1) #[Value.bool false, Value.string { data := #[] }] ∧ (w.heap.size ≠ p7 ∧ (w.heap.size + 1) ≠ p7 ∧ w.heap.size ≤ p7)) ∨ (f = 10 ∧ L = #[true, true, true, true, false, false, false, false, false, false, false, true, false, false, false] ∧ ∃ (x34 : Value) (x35 : Value) (p8 : Nat), a = { tmps := #[Value.agg #[Value.bool n, Value.string s], Value.int IntKind.i64 (-(↑N + 1)), Value.pointer (some { block := w.heap.size, off := 0 }), undef, Value.pointer (some { block := w.heap.size + 1, off := 0 }), Value.slice ad N c, Value.int IntKind.i64 (↑N + 1), undef, Value.pointer (some { block := p8, off := 0 }), undef, Value.int IntKind.i64 k, Value.bool (decide (0 ≤ k)), undef, undef, undef, undef, undef, undef, undef, undef, Value.pointer (some { block := w.heap.size, off := 1 }), Value.string s, Value.slice ad N c, Value.slice ad N c, Value.int IntKind.i64 ↑N, Value.int IntKind.i64 (↑N + 1), Value.int IntKind.i64 k, Value.int IntKind.i64 (↑N + 1), Value.int IntKind.i64 (-(↑N + 1)), Value.bool true, Value.int IntKind.i64 (↑N + 1), Value.int IntKind.i64 (-(↑N + 1)), undef, Value.agg #[Value.bool n, Value.string s], x34, x35, Value.string P, undef, undef, undef, undef, undef, undef], defers := [] } ∧ (fun w' => Below w.heap.size w w' ∧ (w'.cell? ⟨w.heap.size, 0, none⟩ = some (.bool n) ∧ w'.cell? ⟨w.heap.size, 1, none⟩ = some (.string s))) W ∧ Bk W p8 #[Value.bool false, Value.string { data := #[] }] ∧ Bk W (w.heap.size + 1) #[Value.bool false, Value.string { data := #[] }] ∧ (w.heap.size ≠ p8 ∧ (w.heap.size + 1) ≠ p8 ∧ w.heap.size ≤ p8)) ∨ (f = 10 ∧ L = #[true, true, true, false, false, false, false, false, false, false, true, true, false, false, false] ∧ ∃ (x34 : Value) (p7 : Nat) (p8 : Nat), a = { tmps := #[Value.agg #[Value.bool n, Value.string s], Value.int IntKind.i64 (-(↑N + 1)), Value.pointer (some { block := w.heap.size, off := 0 }), undef, Value.pointer (some { block := w.heap.size + 1, off := 0 }), Value.slice ad N c, Value.int IntKind.i64 (↑N + 1), Value.pointer (some { block := p7, off := 0 }), Value.pointer (some { block := p8, off := 0 }), undef, Value.int IntKind.i64 k, Value.bool (decide (0 ≤ k)), undef, undef, undef, undef, undef, undef, undef, undef, Value.pointer (some { block := w.heap.size, off := 1 }), Value.string s, Value.slice ad N c, Value.slice ad N c, Value.int IntKind.i64 ↑N, Value.int IntKind.i64 (↑N + 1), Value.int IntKind.i64 k, Value.int IntKind.i64 (↑N + 1), Value.int IntKind.i64 (-(↑N + 1)), Value.bool true, Value.int IntKind.i64 (↑N + 1), Value.int IntKind.i64 (-(↑N + 1)), undef, Value.agg #[Value.bool n, Value.string s], x34, Value.int IntKind.i64 (↑N + 1), undef, undef, undef, undef, undef, undef, undef], defers := [] } ∧ (fun w' => Below w.heap.size w w' ∧ (w'.cell? ⟨w.heap.size, 0, none⟩ = some (.bool n) ∧ w'.cell? ⟨w.heap.size, 1, none⟩ = some (.string s))) W ∧ Bk W p7 #[Value.bool false, Value.string { data := #[] }] ∧ Bk W p8 #[Value.bool false, Value.string { data := #[] }] ∧ Bk W (w.heap.size + 1) #[Value.bool false, Value.string { data := #[] }] ∧ (w.heap.size ≠ p7 ∧ (w.heap.size + 1) ≠ p7 ∧ w.heap.size ≤ p7 ∧ w.heap.size ≠ p8 ∧ (w.heap.size + 1) ≠ p8 ∧ w.heap.size ≤ p8 ∧ p7 ≠ p8)) ∨ (f = 9 ∧ L = #[true, true, true, true, true, true, false, false, false, false, false, false, false, false, false] ∧ ∃ (x33 : Value) (x34 : Value) (x35 : Value) (x36 : Value) (x37 : Value), a = { tmps := #[Value.agg #[Value.bool n, Value.string s], Value.int IntKind.i64 (-(↑N + 1)), Value.pointer (some { block := w.heap.size, off := 0 }), undef, Value.pointer (some { block := w.heap.size + 1, off := 0 }), Value.slice ad N c, Value.int IntKind.i64 (↑N + 1), undef, undef, undef, Value.int IntKind.i64 k, Value.bool (decide (0 ≤ k)), undef, undef, undef, undef, undef, undef, undef, undef, Value.pointer (some { block := w.heap.size, off := 1 }), Value.string s, Value.slice ad N c, Value.slice ad N c, Value.int IntKind.i64 ↑N, Value.int IntKind.i64 (↑N + 1), Value.int IntKind.i64 k, Value.int IntKind.i64 (↑N + 1), Value.int IntKind.i64 (-(↑N + 1)), Value.bool true, Value.int IntKind.i64 (↑N + 1), Value.int IntKind.i64 (-(↑N + 1)), undef, x33, x34, x35, x36, x37, Value.tuple #[Value.agg #[Value.bool z, Value.string o], Value.agg #[Value.bool z2, Value.string o2], Value.bool true], undef, undef, undef, undef], defers := [] } ∧ (fun w' => Below w.heap.size w w' ∧ (w'.cell? ⟨w.heap.size, 0, none⟩ = some (.bool n) ∧ w'.cell? ⟨w.heap.size, 1, none⟩ = some (.string s))) W ∧ Bk W (w.heap.size + 1) #[Value.bool false, Value.string { data := #[] }]) ∨ (f = 9 ∧ L = #[true, true, true, true, true, false, false, false, false, false, true, false, false, false, false] ∧ ∃ (x34 : Value) (x35 : Value) (x36 : Value) (p7 : Nat), a = { tmps := #[Value.agg #[Value.bool n, Value.string s], Value.int IntKind.i64 (-(↑N + 1)), Value.pointer (some { block := w.heap.size, off := 0 }), undef, Value.pointer (some { block := w.heap.size + 1, off := 0 }), Value.slice ad N c, Value.int IntKind.i64 (↑N + 1), Value.pointer (some { block := p7, off := 0 }), undef, undef, Value.int IntKind.i64 k, Value.bool (decide (0 ≤ k)), undef, undef, undef, undef, undef, undef, undef, undef, Value.pointer (some { block := w.heap.size, off := 1 }), Value.string s, Value.slice ad N c, Value.slice ad N c, Value.int IntKind.i64 ↑N, Value.int IntKind.i64 (↑N + 1), Value.int IntKind.i64 k, Value.int IntKind.i64 (↑N + 1), Value.int IntKind.i64 (-(↑N + 1)), Value.bool true, Value.int IntKind.i64 (↑N + 1), Value.int IntKind.i64 (-(↑N + 1)), undef, Value.agg #[Value.bool n, Value.string s], x34, x35, x36, Value.agg #[Value.bool false, Value.string P], undef, undef, undef, undef, undef], defers := [] } ∧ (fun w' => Below w.heap.size w w' ∧ (w'.cell? ⟨w.heap.size, 0, none⟩ = some (.bool n) ∧ w'.cell? ⟨w.heap.size, 1, none⟩ = some (.string s))) W ∧ Bk W p7 #[Value.bool false, Value.string { data := #[] }] ∧ Bk W (w.heap.size + 1) #[Value.bool false, Value.string { data := #[] }] ∧ (w.heap.size ≠ p7 ∧ (w.heap.size + 1) ≠ p7 ∧ w.heap.size ≤ p7)) ∨ (f = 9 ∧ L = #[true, true, true, true, true, false, false, false, false, false, false, true, false, false, false] ∧ ∃ (x34 : Value) (x35 : Value) (x36 : Value) (p8 : Nat), a = { tmps := #[Value.agg #[Value.bool n, Value.string s], Value.int IntKind.i64 (-(↑N + 1)), Value.pointer (some { block := w.heap.size, off := 0 }), undef, Value.pointer (some { block := w.heap.size + 1, off := 0 }), Value.slice ad N c, Value.int IntKind.i64 (↑N + 1), undef, Value.pointer (some { block := p8, off := 0 }), undef, Value.int IntKind.i64 k, Value.bool (decide (0 ≤ k)), undef, undef, undef, undef, undef, undef, undef, undef, Value.pointer (some { block := w.heap.size, off := 1 }), Value.string s, Value.slice ad N c, Value.slice ad N c, Value.int IntKind.i64 ↑N, Value.int IntKind.i64 (↑N + 1), Value.int IntKind.i64 k, Value.int IntKind.i64 (↑N + 1), Value.int IntKind.i64 (-(↑N + 1)), Value.bool true, Value.int IntKind.i64 (↑N + 1), Value.int IntKind.i64 (-(↑N + 1)), undef, Value.agg #[Value.bool n, Value.string s], x34, x35, x36, Value.agg #[Value.bool false, Value.string P], undef, undef, undef, undef, undef], defers := [] } ∧ (fun w' => Below w.heap.size w w' ∧ (w'.cell? ⟨w.heap.size, 0, none⟩ = some (.bool n) ∧ w'.cell? ⟨w.heap.size, 1, none⟩ = some (.string s))) W ∧ Bk W p8 #[Value.bool false, Value.string { data := #[] }] ∧ Bk W (w.heap.size + 1) #[Value.bool false, Value.string { data := #[] }] ∧ (w.heap.size ≠ p8 ∧ (w.heap.size + 1) ≠ p8 ∧ w.heap.size ≤ p8)) ∨ (f = 9 ∧ L = #[true, true, true, true, false, false, false, false, false, false, true, true, false, false, false] ∧ ∃ (x34 : Value) (x35 : Value) (p7 : Nat) (p8 : Nat), a = { tmps := #[Value.agg #[Value.bool n, Value.string s], Value.int IntKind.i64 (-(↑N + 1)), Value.pointer (some { block := w.heap.size, off := 0 }), undef, Value.pointer (some { block := w.heap.size + 1, off := 0 }), Value.slice ad N c, Value.int IntKind.i64 (↑N + 1), Value.pointer (some { block := p7, off := 0 }), Value.pointer (some { block := p8, off := 0 }), undef, Value.int IntKind.i64 k, Value.bool (decide (0 ≤ k)), undef, undef, undef, undef, undef, undef, undef, undef, Value.pointer (some { block := w.heap.size, off := 1 }), Value.string s, Value.slice ad N c, Value.slice ad N c, Value.int IntKind.i64 ↑N, Value.int IntKind.i64 (↑N + 1), Value.int IntKind.i64 k, Value.int IntKind.i64 (↑N + 1), Value.int IntKind.i64 (-(↑N + 1)), Value.bool true, Value.int IntKind.i64 (↑N + 1), Value.int IntKind.i64 (-(↑N + 1)), undef, Value.agg #[Value.bool n, Value.string s], x34, x35, Value.string P, undef, undef, undef, undef, undef, undef], defers := [] } ∧ (fun w' => Below w.heap.size w w' ∧ (w'.cell? ⟨w.heap.size, 0, none⟩ = some (.bool n) ∧ w'.cell? ⟨w.heap.size, 1, none⟩ = some (.string s))) W ∧ Bk W p7 #[Value.bool false, Value.string { data := #[] }] ∧ Bk W p8 #[Value.bool false, Value.string { data := #[] }] ∧ Bk W (w.heap.size + 1) #[Value.bool false, Value.string { data := #[] }] ∧ (w.heap.size ≠ p7 ∧ (w.heap.size + 1) ≠ p7 ∧ w.heap.size ≤ p7 ∧ w.heap.size ≠ p8 ∧ (w.heap.size + 1) ≠ p8 ∧ w.heap.size ≤ p8 ∧ p7 ≠ p8)) ∨ (f = 8 ∧ L = #[true, true, true, true, true, true, false, false, false, false, true, false, false, false, false] ∧ ∃ (x33 : Value) (x34 : Value) (x35 : Value) (x36 : Value) (x37 : Value) (p7 : Nat), a = { tmps := #[Value.agg #[Value.bool n, Value.string s], Value.int IntKind.i64 (-(↑N + 1)), Value.pointer (some { block := w.heap.size, off := 0 }), undef, Value.pointer (some { block := w.heap.size + 1, off := 0 }), Value.slice ad N c, Value.int IntKind.i64 (↑N + 1), Value.pointer (some { block := p7, off := 0 }), undef, undef, Value.int IntKind.i64 k, Value.bool (decide (0 ≤ k)), undef, undef, undef, undef, undef, undef, undef, undef, Value.pointer (some { block := w.heap.size, off := 1 }), Value.string s, Value.slice ad N c, Value.slice ad N c, Value.int IntKind.i64 ↑N, Value.int IntKind.i64 (↑N + 1), Value.int IntKind.i64 k, Value.int IntKind.i64 (↑N + 1), Value.int IntKind.i64 (-(↑N + 1)), Value.bool true, Value.int IntKind.i64 (↑N + 1), Value.int IntKind.i64 (-(↑N + 1)), undef, x33, x34, x35, x36, x37, Value.tuple #[Value.agg #[Value.bool z, Value.string o], Value.agg #[Value.bool z2, Value.string o2], Value.bool true], undef, undef, undef, undef], defers := [] } ∧ (fun w' => Below w.heap.size w w' ∧ (w'.cell? ⟨w.heap.size, 0, none⟩ = some (.bool n) ∧ w'.cell? ⟨w.heap.size, 1, none⟩ = some (.string s))) W ∧ Bk W p7 #[Value.bool false, Value.string { data := #[] }] ∧ Bk W (w.heap.size + 1) #[Value.bool false, Value.string { data := #[] }] ∧ (w.heap.size ≠ p7 ∧ (w.heap.size + 1) ≠ p7 ∧ w.heap.size ≤ p7)) ∨ (f = 8 ∧ L = #[true, true, true, true, true, true, false, false, false, false, false, true, false, false, false] ∧ ∃ (x33 : Value) (x34 : Value) (x35 : Value) (x36 : Value) (x37 : Value) (p8 : Nat), a = { tmps := #[Value.agg #[Value.bool n, Value.string s], Value.int IntKind.i64 (-(↑N + 1)), Value.pointer (some { block := w.heap.size, off := 0 }), undef, Value.pointer (some { block := w.heap.size + 1, off := 0 }), Value.slice ad N c, Value.int IntKind.i64 (↑N + 1), undef, Value.pointer (some { block := p8, off := 0 }), undef, Value.int IntKind.i64 k, Value.bool (decide (0 ≤ k)), undef, undef, undef, undef, undef, undef, undef, undef, Value.pointer (some { block := w.heap.size, off := 1 }), Value.string s, Value.slice ad N c, Value.slice ad N c, Value.int IntKind.i64 ↑N, Value.int IntKind.i64 (↑N + 1), Value.int IntKind.i64 k, Value.int IntKind.i64 (↑N + 1), Value.int IntKind.i64 (-(↑N + 1)), Value.bool true, Value.int IntKind.i64 (↑N + 1), Value.int IntKind.i64 (-(↑N + 1)), undef, x33, x34, x35, x36, x37, Value.tuple #[Value.agg #[Value.bool z, Value.string o], Value.agg #[Value.bool z2, Value.string o2], Value.bool true], undef, undef, undef, undef], defers := [] } ∧ (fun w' => Below w.heap.size w w' ∧ (w'.cell? ⟨w.heap.size, 0, none⟩ = some (.bool n) ∧ w'.cell? ⟨w.heap.size, 1, none⟩ = some (.string s))) W ∧ Bk W p8 #[Value.bool false, Value.string { data := #[] }] ∧ Bk W (w.heap.size + 1) #[Value.bool false, Value.string { data := #[] }] ∧ (w.heap.size ≠ p8 ∧ (w.heap.size + 1) ≠ p8 ∧ w.heap.size ≤ p8)) ∨ (f = 8 ∧ L = #[true, true, true, true, true, false, false, false, false, false, true, true, false, false, false] ∧ ∃ (x34 : Value) (x35 : Value) (x36 : Value) (p7 : Nat) (p8 : Nat), a = { tmps := #[Value.agg #[Value.bool n, Value.string s], Value.int IntKind.i64 (-(↑N + 1)), Value.pointer (some { block := w.heap.size, off := 0 }), undef, Value.pointer (some { block := w.heap.size + 1, off := 0 }), Value.slice ad N c, Value.int IntKind.i64 (↑N + 1), Value.pointer (some { block := p7, off := 0 }), Value.pointer (some { block := p8, off := 0 }), undef, Value.int IntKind.i64 k, Value.bool (decide (0 ≤ k)), undef, undef, undef, undef, undef, undef, undef, undef, Value.pointer (some { block := w.heap.size, off := 1 }), Value.string s, Value.slice ad N c, Value.slice ad N c, Value.int IntKind.i64 ↑N, Value.int IntKind.i64 (↑N + 1), Value.int IntKind.i64 k, Value.int IntKind.i64 (↑N + 1), Value.int IntKind.i64 (-(↑N + 1)), Value.bool true, Value.int IntKind.i64 (↑N + 1), Value.int IntKind.i64 (-(↑N + 1)), undef, Value.agg #[Value.bool n, Value.string s], x34, x35, x36, Value.agg #[Value.bool false, Value.string P], undef, undef, undef, undef, undef], defers := [] } ∧ (fun w' => Below w.heap.size w w' ∧ (w'.cell? ⟨w.heap.size, 0, none⟩ = some (.bool n) ∧ w'.cell? ⟨w.heap.size, 1, none⟩ = some (.string s))) W ∧ Bk W p7 #[Value.bool false, Value.string { data := #[] }] ∧ Bk W p8 #[Value.bool false, Value.string { data := #[] }] ∧ Bk W (w.heap.size + 1) #[Value.bool false, Value.string { data := #[] }] ∧ (w.heap.size ≠ p7 ∧ (w.heap.size + 1) ≠ p7 ∧ w.heap.size ≤ p7 ∧ w.heap.size ≠ p8 ∧ (w.heap.size + 1) ≠ p8 ∧ w.heap.size ≤ p8 ∧ p7 ≠ p8)) ∨ (f = 7 ∧ L = #[true, true, true, true, true, true, false, false, false, false, true, true, false, false, false] ∧ ∃ (x33 : Value) (x34 : Value) (x35 : Value) (x36 : Value) (x37 : Value) (p7 : Nat) (p8 : Nat), a = { tmps := #[Value.agg #[Value.bool n, Value.string s], Value.int IntKind.i64 (-(↑N + 1)), Value.pointer (some { block := w.heap.size, off := 0 }), undef, Value.pointer (some { block := w.heap.size + 1, off := 0 }), Value.slice ad N c, Value.int IntKind.i64 (↑N + 1), Value.pointer (some { block := p7, off := 0 }), Value.pointer (some { block := p8, off := 0 }), undef, Value.int IntKind.i64 k, Value.bool (decide (0 ≤ k)), undef, undef, undef, undef, undef, undef, undef, undef, Value.pointer (some { block := w.heap.size, off := 1 }), Value.string s, Value.slice ad N c, Value.slice ad N c, Value.int IntKind.i64 ↑N, Value.int IntKind.i64 (↑N + 1), Value.int IntKind.i64 k, Value.int IntKind.i64 (↑N + 1), Value.int IntKind.i64 (-(↑N + 1)), Value.bool true, Value.int IntKind.i64 (↑N + 1), Value.int IntKind.i64 (-(↑N + 1)), undef, x33, x34, x35, x36, x37, Value.tuple #[Value.agg #[Value.bool z, Value.string o], Value.agg #[Value.bool z2, Value.string o2], Value.bool true], undef, undef, undef, undef], defers := [] } ∧ (fun w' => Below w.heap.size w w' ∧ (w'.cell? ⟨w.heap.size, 0, none⟩ = some (.bool n) ∧ w'.cell? ⟨w.heap.size, 1, none⟩ = some (.string s))) W ∧ Bk W p7 #[Value.bool false, Value.string { data := #[] }] ∧ Bk W p8 #[Value.bool false, Value.string { data := #[] }] ∧ Bk W (w.heap.size + 1) #[Value.bool false, Value.string { data := #[] }] ∧ (w.heap.size ≠ p7 ∧ (w.heap.size + 1) ≠ p7 ∧ w.heap.size ≤ p7 ∧ w.heap.size ≠ p8 ∧ (w.heap.size + 1) ≠ p8 ∧ w.heap.size ≤ p8 ∧ p7 ≠ p8)) ∨ (f = 4 ∧ L = #[true, true, true, true, true, true, true, true, true, true, true, false, false, false, false] ∧ ∃ (x33 : Value) (x34 : Value) (x35 : Value) (x36 : Value) (x37 : Value) (x38 : Value) (x32 : Value) (p7 : Nat), a = { tmps := #[Value.agg #[Value.bool n, Value.string s], Value.int IntKind.i64 (-(↑N + 1)), Value.pointer (some { block := w.heap.size, off := 0 }), undef, Value.pointer (some { block := w.heap.size + 1, off := 0 }), Value.slice ad N c, Value.int IntKind.i64 (↑N + 1), Value.pointer (some { block := p7, off := 0 }), undef, undef, Value.int IntKind.i64 k, Value.bool (decide (0 ≤ k)), undef, undef, undef, undef, undef, undef, undef, undef, Value.pointer (some { block := w.heap.size, off := 1 }), Value.string s, Value.slice ad N c, Value.slice ad N c, Value.int IntKind.i64 ↑N, Value.int IntKind.i64 (↑N + 1), Value.int IntKind.i64 k, Value.int IntKind.i64 (↑N + 1), Value.int IntKind.i64 (-(↑N + 1)), Value.bool true, Value.int IntKind.i64 (↑N + 1), Value.int IntKind.i64 (-(↑N + 1)), x32, x33, x34, x35, x36, x37, x38, Value.agg #[Value.bool z, Value.string o], Value.agg #[Value.bool z2, Value.string o2], Value.bool true, undef], defers := [] } ∧ (fun w' => Below w.heap.size w w' ∧ (w'.cell? ⟨w.heap.size, 0, none⟩ = some (.bool n) ∧ w'.cell? ⟨w.heap.size, 1, none⟩ = some (.string s))) W ∧ Bk W p7 #[Value.bool false, Value.string { data := #[] }] ∧ Bk W (w.heap.size + 1) #[Value.bool false, Value.string { data := #[] }] ∧ (w.heap.size ≠ p7 ∧ (w.heap.size + 1) ≠ p7 ∧ w.heap.size ≤ p7)) ∨ (f = 4 ∧ L = #[true, true, true, true, true, true, true, true, true, true, false, true, false, false, false] ∧ ∃ (x33 : Value) (x34 : Value) (x35 : Value) (x36 : Value) (x37 : Value) (x38 : Value) (x32 : Value) (p8 : Nat), a = { tmps := #[Value.agg #[Value.bool n, Value.string s], Value.int IntKind.i64 (-(↑N + 1)), Value.pointer (some { block := w.heap.size, off := 0 }), undef, Value.pointer (some { block := w.heap.size + 1, off := 0 }), Value.slice ad N c, Value.int IntKind.i64 (↑N + 1), undef, Value.pointer (some { block := p8, off := 0 }), undef, Value.int IntKind.i64 k, Value.bool (decide (0 ≤ k)), undef, undef, undef, undef, undef, undef, undef, undef, Value.pointer (some { block := w.heap.size, off := 1 }), Value.string s, Value.slice ad N c, Value.slice ad N c, Value.int IntKind.i64 ↑N, Value.int IntKind.i64 (↑N + 1), Value.int IntKind.i64 k, Value.int IntKind.i64 (↑N + 1), Value.int IntKind.i64 (-(↑N + 1)), Value.bool true, Value.int IntKind.i64 (↑N + 1), Value.int IntKind.i64 (-(↑N + 1)), x32, x33, x34, x35, x36, x37, x38, Value.agg #[Value.bool z, Value.string o], Value.agg #[Value.bool z2, Value.string o2], Value.bool true, undef], defers := [] } ∧ (fun w' => Below w.heap.size w w' ∧ (w'.cell? ⟨w.heap.size, 0, none⟩ = some (.bool n) ∧ w'.cell? ⟨w.heap.size, 1, none⟩ = some (.string s))) W ∧ Bk W p8 #[Value.bool false, Value.string { data := #[] }] ∧ Bk W (w.heap.size + 1) #[Value.bool false, Value.string { data := #[] }] ∧ (w.heap.size ≠ p8 ∧ (w.heap.size + 1) ≠ p8 ∧ w.heap.size ≤ p8)) ∨ (f = 3 ∧ L = #[true, true, true, true, true, true, true, true, true, true, true, true, false, false, false] ∧ ∃ (x33 : Value) (x34 : Value) (x35 : Value) (x36 : Value) (x37 : Value) (x38 : Value) (x32 : Value) (p7 : Nat) (p8 : Nat), a = { tmps := #[Value.agg #[Value.bool n, Value.string s], Value.int IntKind.i64 (-(↑N + 1)), Value.pointer (some { block := w.heap.size, off := 0 }), undef, Value.pointer (some { block := w.heap.size + 1, off := 0 }), Value.slice ad N c, Value.int IntKind.i64 (↑N + 1), Value.pointer (some { block := p7, off := 0 }), Value.pointer (some { block := p8, off := 0 }), undef, Value.int IntKind.i64 k, Value.bool (decide (0 ≤ k)), undef, undef, undef, undef, undef, undef, undef, undef, Value.pointer (some { block := w.heap.size, off := 1 }), Value.string s, Value.slice ad N c, Value.slice ad N c, Value.int IntKind.i64 ↑N, Value.int IntKind.i64 (↑N + 1), Value.int IntKind.i64 k, Value.int IntKind.i64 (↑N + 1), Value.int IntKind.i64 (-(↑N + 1)), Value.bool true, Value.int IntKind.i64 (↑N + 1), Value.int IntKind.i64 (-(↑N + 1)), x32, x33, x34, x35, x36, x37, x38, Value.agg #[Value.bool z, Value.string o], Value.agg #[Value.bool z2, Value.string o2], Value.bool true, undef], defers := [] } ∧ (fun w' => Below w.heap.size w w' ∧ (w'.cell? ⟨w.heap.size, 0, none⟩ = some (.bool n) ∧ w'.cell? ⟨w.heap.size, 1, none⟩ = some (.string s))) W ∧ Bk W p7 #[Value.bool false, Value.string { data := #[] }] ∧ Bk W p8 #[Value.bool false, Value.string { data := #[] }] ∧ Bk W (w.heap.size + 1) #[Value.bool false, Value.string { data := #[] }] ∧ (w.heap.size ≠ p7 ∧ (w.heap.size + 1) ≠ p7 ∧ w.heap.size ≤ p7 ∧ w.heap.size ≠ p8 ∧ (w.heap.size + 1) ≠ p8 ∧ w.heap.size ≤ p8 ∧ p7 ≠ p8)) ∨ (f = 2 ∧ L = #[true, true, true, true, true, true, true, true, true, true, true, true, true, false, false] ∧ ∃ (x33 : Value) (x34 : Value) (x35 : Value) (x36 : Value) (x37 : Value) (x38 : Value) (x32 : Value) (x39 : Value) (p7 : Nat) (p8 : Nat), a = { tmps := #[Value.agg #[Value.bool n, Value.string s], Value.int IntKind.i64 (-(↑N + 1)), Value.pointer (some { block := w.heap.size, off := 0 }), undef, Value.pointer (some { block := w.heap.size + 1, off := 0 }), Value.slice ad N c, Value.int IntKind.i64 (↑N + 1), Value.pointer (some { block := p7, off := 0 }), Value.pointer (some { block := p8, off := 0 }), undef, Value.int IntKind.i64 k, Value.bool (decide (0 ≤ k)), undef, undef, undef, undef, undef, undef, undef, undef, Value.pointer (some { block := w.heap.size, off := 1 }), Value.string s, Value.slice ad N c, Value.slice ad N c, Value.int IntKind.i64 ↑N, Value.int IntKind.i64 (↑N + 1), Value.int IntKind.i64 k, Value.int IntKind.i64 (↑N + 1), Value.int IntKind.i64 (-(↑N + 1)), Value.bool true, Value.int IntKind.i64 (↑N + 1), Value.int IntKind.i64 (-(↑N + 1)), x32, x33, x34, x35, x36, x37, x38, x39, Value.agg #[Value.bool z2, Value.string o2], Value.bool true, undef], defers := [] } ∧ (fun w' => Below w.heap.size w w' ∧ (w'.cell? ⟨w.heap.size, 0, none⟩ = some (.bool n) ∧ w'.cell? ⟨w.heap.size, 1, none⟩ = some (.string s))) W ∧ Bk W p7 #[Value.bool z, Value.string o] ∧ Bk W p8 #[Value.bool false, Value.string { data := #[] }] ∧ Bk W (w.heap.size + 1) #[Value.bool false, Value.string { data := #[] }] ∧ (w.heap.size ≠ p7 ∧ (w.heap.size + 1) ≠ p7 ∧ w.heap.size ≤ p7 ∧ w.heap.size ≠ p8 ∧ (w.heap.size + 1) ≠ p8 ∧ w.heap.size ≤ p8 ∧ p7 ≠ p8)) ∨ (f = 1 ∧ L = #[true, true, true, true, true, true, true, true, true, true, true, true, true, true, false] ∧ ∃ (x33 : Value) (x34 : Value) (x35 : Value) (x36 : Value) (x37 : Value) (x38 : Value) (x32 : Value) (x39 : Value) (x40 : Value) (x8 : Value) (p7 : Nat) (p8 : Nat), a = { tmps := #[Value.agg #[Value.bool n, Value.string s], Value.int IntKind.i64 (-(↑N + 1)), Value.pointer (some { block := w.heap.size, off := 0 }), undef, Value.pointer (some { block := w.heap.size + 1, off := 0 }), Value.slice ad N c, Value.int IntKind.i64 (↑N + 1), Value.pointer (some { block := p7, off := 0 }), x8, undef, Value.int IntKind.i64 k, Value.bool (decide (0 ≤ k)), undef, undef, undef, undef, undef, undef, undef, undef, Value.pointer (some { block := w.heap.size, off := 1 }), Value.string s, Value.slice ad N c, Value.slice ad N c, Value.int IntKind.i64 ↑N, Value.int IntKind.i64 (↑N + 1), Value.int IntKind.i64 k, Value.int IntKind.i64 (↑N + 1), Value.int IntKind.i64 (-(↑N + 1)), Value.bool true, Value.int IntKind.i64 (↑N + 1), Value.int IntKind.i64 (-(↑N + 1)), x32, x33, x34, x35, x36, x37, x38, x39, x40, Value.bool true, undef], defers := [] } ∧ (fun w' => Below w.heap.size w w' ∧ (w'.cell? ⟨w.heap.size, 0, none⟩ = some (.bool n) ∧ w'.cell? ⟨w.heap.size, 1, none⟩ = some (.string s))) W ∧ Bk W p7 #[Value.bool z, Value.string o] ∧ Bk W p8 #[Value.bool z2, Value.string o2] ∧ Bk W (w.heap.size + 1) #[Value.bool false, Value.string { data := #[] }] ∧ (w.heap.size ≠ p7 ∧ (w.heap.size + 1) ≠ p7 ∧ w.heap.size ≤ p7 ∧ w.heap.size ≠ p8 ∧ (w.heap.size + 1) ≠ p8 ∧ w.heap.size ≤ p8 ∧ p7 ≠ p8))) (by kernel_rfl) ?_ ?_
    · exact Or.inl (⟨rfl, rfl, rfl, hin, hC.drew⟩)
    · clear hin
      intro f L a W hI IH
      rcases hI with ⟨rfl, rfl, rfl, hS, hC⟩ | hI
      · refine wpAnyH_take (i := 0) (v := ?v0n1) rfl (by kernel_rfl) (by kernel_rfl) (by kernel_rfl) (fun _ _ _ h => h) (Or.inl ⟨by rfl, ?y0n1⟩) hS ?_
        case y0n1 => intro w hSw; (try dsimp only at hSw); go_simp; first | done | with_reducible rfl
        try simp only [Act.put, List.setIfInBounds_toArray, List.set_cons_zero]
        refine wpAnyH_take (i := 1) (v := ?v1n2) rfl (by kernel_rfl) (by kernel_rfl) (by kernel_rfl) (fun _ _ _ h => h) (Or.inl ⟨by rfl, ?y1n2⟩) hS ?_
        case y1n2 => intro w hSw; (try dsimp only at hSw); go_simp; first | done | with_reducible rfl
        try simp only [Act.put, List.setIfInBounds_toArray, List.set_cons_zero, List.set_cons_succ]
        refine wpAnyH_take (i := 2) (v := ?v2n3) rfl (by kernel_rfl) (by kernel_rfl) (by kernel_rfl) (fun _ _ _ h => h) (Or.inl ⟨by rfl, ?y2n3⟩) hS ?_
        case y2n3 => intro w hSw; (try dsimp only at hSw); go_simp; first | done | with_reducible rfl
        try simp only [Act.put, List.setIfInBounds_toArray, List.set_cons_zero, List.set_cons_succ]
        refine wpAnyH_ready (rs := [3, 10, 11]) (by kernel_rfl) (by simp) ?_
        refine AllReadyH.cons rfl (fun Kc hK => ?_) ?_
        · go_simp
          go_fit (use_rshl _ ⟨#[1]⟩ ((N : Int) + 1) P (by decide) (by omega) HP.out.1)
          rintro e V ⟨rfl, hq⟩
          refine hK.out _ _ (hb1 hq hS) (fun hS' => ?_)
          exact IH.out _ _ _ _ (by omega) (Or.inr (Or.inl (⟨rfl, by kernel_rfl, _, _, rfl, hS', hC.below hq⟩)))
        refine AllReadyH.cons rfl (fun Kc hK => ?_) ?_
        · have hlt : w.heap.size < W.heap.size ∧ (w.heap.size + 1) < W.heap.size := ⟨block_lt_of_cell hS.2.1, hC.lt⟩
          have hle := hS.1.size
          go_simp
          refine hK.out _ _ (ab1 hS) (fun hS' => ?_)
          exact IH.out _ _ _ _ (by omega) (Or.inr (Or.inr (Or.inl (⟨rfl, by kernel_rfl, _, _, rfl, hS', Bk.new _ _, hC.alloc _, (by omega)⟩))))
        refine AllReadyH.cons rfl (fun Kc hK => ?_) AllReadyH.nil
        have hlt : w.heap.size < W.heap.size ∧ (w.heap.size + 1) < W.heap.size := ⟨block_lt_of_cell hS.2.1, hC.lt⟩
        have hle := hS.1.size
        go_simp
        refine hK.out _ _ (ab1 hS) (fun hS' => ?_)
        exact IH.out _ _ _ _ (by omega) (Or.inr (Or.inr (Or.inr (Or.inl (⟨rfl, by kernel_rfl, _, _, rfl, hS', Bk.new _ _, hC.alloc _, (by omega)⟩)))))
      rcases hI with ⟨rfl, rfl, x34, x35, rfl, hS, hC⟩ | hI
      · refine wpAnyH_take (i := 4) (v := ?v4n4) rfl (by kernel_rfl) (by kernel_rfl) (by kernel_rfl) (fun _ _ _ h => h) (Or.inl ⟨by rfl, ?y4n4⟩) hS ?_
        case y4n4 => intro w hSw; (try dsimp only at hSw); go_simp; first | done | with_reducible rfl
        try simp only [Act.put, List.setIfInBounds_toArray, List.set_cons_zero, List.set_cons_succ]
        refine wpAnyH_ready (rs := [5, 10, 11]) (by kernel_rfl) (by simp) ?_
        refine AllReadyH.cons rfl (fun Kc hK => ?_) ?_
        · go_simp
          go_fit (rdiv_any _ n false s P (by omega) (by omega) HP.out.2.1 z o HP.out.2.2.1 z2 o2 HP.out.2.2.2)
          rintro e V ⟨rfl, hq⟩
          refine hK.out _ _ (hb1 hq hS) (fun hS' => ?_)
          exact IH.out _ _ _ _ (by omega) (Or.inr (Or.inr (Or.inr (Or.inr (Or.inr (Or.inr (Or.inr (Or.inl (⟨rfl, by kernel_rfl, _, _, _, _, _, rfl, hS', hC.below hq⟩)))))))))
        refine AllReadyH.cons rfl (fun Kc hK => ?_) ?_
        · have hlt : w.heap.size < W.heap.size ∧ (w.heap.size + 1) < W.heap.size := ⟨block_lt_of_cell hS.2.1, hC.lt⟩
          have hle := hS.1.size
          go_simp
          refine hK.out _ _ (ab1 hS) (fun hS' => ?_)
          exact IH.out _ _ _ _ (by omega) (Or.inr (Or.inr (Or.inr (Or.inr (Or.inr (Or.inr (Or.inr (Or.inr (Or.inl (⟨rfl, by kernel_rfl, _, _, _, _, rfl, hS', Bk.new _ _, hC.alloc _, (by omega)⟩))))))))))
        refine AllReadyH.cons rfl (fun Kc hK => ?_) AllReadyH.nil
        have hlt : w.heap.size < W.heap.size ∧ (w.heap.size + 1) < W.heap.size := ⟨block_lt_of_cell hS.2.1, hC.lt⟩
        have hle := hS.1.size
        go_simp
        refine hK.out _ _ (ab1 hS) (fun hS' => ?_)
        exact IH.out _ _ _ _ (by omega) (Or.inr (Or.inr (Or.inr (Or.inr (Or.inr (Or.inr (Or.inr (Or.inr (Or.inr (Or.inl (⟨rfl, by kernel_rfl, _, _, _, _, rfl, hS', Bk.new _ _, hC.alloc _, (by omega)⟩)))))))))))
      rcases hI with ⟨rfl, rfl, x34, p7, rfl, hS, hP7, hC, hd⟩ | hI
      · refine wpAnyH_ready (rs := [3, 11]) (by kernel_rfl) (by simp) ?_
        refine AllReadyH.cons rfl (fun Kc hK => ?_) ?_
        · go_simp
          go_fit (use_rshl _ ⟨#[1]⟩ ((N : Int) + 1) P (by decide) (by omega) HP.out.1)
          rintro e V ⟨rfl, hq⟩
          refine hK.out _ _ (hb1 hq hS) (fun hS' => ?_)
          exact IH.out _ _ _ _ (by omega) (Or.inr (Or.inr (Or.inr (Or.inr (Or.inl (⟨rfl, by kernel_rfl, _, _, _, rfl, hS', hP7.below hq, hC.below hq, hd⟩))))))
        refine AllReadyH.cons rfl (fun Kc hK => ?_) AllReadyH.nil
        have hlt : w.heap.size < W.heap.size ∧ (w.heap.size + 1) < W.heap.size ∧ p7 < W.heap.size := ⟨block_lt_of_cell hS.2.1, hC.lt, hP7.lt⟩
        have hle := hS.1.size
        go_simp
        refine hK.out _ _ (ab1 hS) (fun hS' => ?_)
        exact IH.out _ _ _ _ (by omega) (Or.inr (Or.inr (Or.inr (Or.inr (Or.inr (Or.inr (Or.inl (⟨rfl, by kernel_rfl, _, _, _, rfl, hS', hP7.alloc _, Bk.new _ _, hC.alloc _, (by omega)⟩))))))))
      rcases hI with ⟨rfl, rfl, x34, p8, rfl, hS, hP8, hC, hd⟩ | hI
      · refine wpAnyH_ready (rs := [3, 10]) (by kernel_rfl) (by simp) ?_
        refine AllReadyH.cons rfl (fun Kc hK => ?_) ?_
        · go_simp
          go_fit (use_rshl _ ⟨#[1]⟩ ((N : Int) + 1) P (by decide) (by omega) HP.out.1)
          rintro e V ⟨rfl, hq⟩
          refine hK.out _ _ (hb1 hq hS) (fun hS' => ?_)
          exact IH.out _ _ _ _ (by omega) (Or.inr (Or.inr (Or.inr (Or.inr (Or.inr (Or.inl (⟨rfl, by kernel_rfl, _, _, _, rfl, hS', hP8.below hq, hC.below hq, hd⟩)))))))
        refine AllReadyH.cons rfl (fun Kc hK => ?_) AllReadyH.nil
        have hlt : w.heap.size < W.heap.size ∧ (w.heap.size + 1) < W.heap.size ∧ p8 < W.heap.size := ⟨block_lt_of_cell hS.2.1, hC.lt, hP8.lt⟩
        have hle := hS.1.size
        go_simp
        refine hK.out _ _ (ab1 hS) (fun hS' => ?_)
        exact IH.out _ _ _ _ (by omega) (Or.inr (Or.inr (Or.inr (Or.inr (Or.inr (Or.inr (Or.inl (⟨rfl, by kernel_rfl, _, _, _, rfl, hS', Bk.new _ _, hP8.alloc _, hC.alloc _, (by omega)⟩))))))))
      rcases hI with ⟨rfl, rfl, x34, x35, p7, rfl, hS, hP7, hC, hd⟩ | hI
      · refine wpAnyH_take (i := 4) (v := ?v4n5) rfl (by kernel_rfl) (by kernel_rfl) (by kernel_rfl) (fun _ _ _ h => h) (Or.inl ⟨by rfl, ?y4n5⟩) hS ?_
        case y4n5 => intro w hSw; (try dsimp only at hSw); go_simp; first | done | with_reducible rfl
        try simp only [Act.put, List.setIfInBounds_toArray, List.set_cons_zero, List.set_cons_succ]
        refine wpAnyH_ready (rs := [5, 11]) (by kernel_rfl) (by simp) ?_
        refine AllReadyH.cons rfl (fun Kc hK => ?_) ?_
        · go_simp
          go_fit (rdiv_any _ n false s P (by omega) (by omega) HP.out.2.1 z o HP.out.2.2.1 z2 o2 HP.out.2.2.2)
          rintro e V ⟨rfl, hq⟩
          refine hK.out _ _ (hb1 hq hS) (fun hS' => ?_)
          exact IH.out _ _ _ _ (by omega) (Or.inr (Or.inr (Or.inr (Or.inr (Or.inr (Or.inr (Or.inr (Or.inr (Or.inr (Or.inr (Or.inr (Or.inl (⟨rfl, by kernel_rfl, _, _, _, _, _, _, rfl, hS', hP7.below hq, hC.below hq, hd⟩)))))))))))))
        refine AllReadyH.cons rfl (fun Kc hK => ?_) AllReadyH.nil
        have hlt : w.heap.size < W.heap.size ∧ (w.heap.size + 1) < W.heap.size ∧ p7 < W.heap.size := ⟨block_lt_of_cell hS.2.1, hC.lt, hP7.lt⟩
        have hle := hS.1.size
        go_simp
        refine hK.out _ _ (ab1 hS) (fun hS' => ?_)
        exact IH.out _ _ _ _ (by omega) (Or.inr (Or.inr (Or.inr (Or.inr (Or.inr (Or.inr (Or.inr (Or.inr (Or.inr (Or.inr (Or.inr (Or.inr (Or.inr (Or.inl (⟨rfl, by kernel_rfl, _, _, _, _, _, rfl, hS', hP7.alloc _, Bk.new _ _, hC.alloc _, (by omega)⟩)))))))))))))))
      rcases hI with ⟨rfl, rfl, x34, x35, p8, rfl, hS, hP8, hC, hd⟩ | hI
      · refine wpAnyH_take (i := 4) (v := ?v4n6) rfl (by kernel_rfl) (by kernel_rfl) (by kernel_rfl) (fun _ _ _ h => h) (Or.inl ⟨by rfl, ?y4n6⟩) hS ?_
        case y4n6 => intro w hSw; (try dsimp only at hSw); go_simp; first | done | with_reducible rfl
        try simp only [Act.put, List.setIfInBounds_toArray, List.set_cons_zero, List.set_cons_succ]
        refine wpAnyH_ready (rs := [5, 10]) (by kernel_rfl) (by simp) ?_
        refine AllReadyH.cons rfl (fun Kc hK => ?_) ?_
        · go_simp
          go_fit (rdiv_any _ n false s P (by omega) (by omega) HP.out.2.1 z o HP.out.2.2.1 z2 o2 HP.out.2.2.2)
          rintro e V ⟨rfl, hq⟩
          refine hK.out _ _ (hb1 hq hS) (fun hS' => ?_)
          exact IH.out _ _ _ _ (by omega) (Or.inr (Or.inr (Or.inr (Or.inr (Or.inr (Or.inr (Or.inr (Or.inr (Or.inr (Or.inr (Or.inr (Or.inr (Or.inl (⟨rfl, by kernel_rfl, _, _, _, _, _, _, rfl, hS', hP8.below hq, hC.below hq, hd⟩))))))))))))))
        refine AllReadyH.cons rfl (fun Kc hK => ?_) AllReadyH.nil
        have hlt : w.heap.size < W.heap.size ∧ (w.heap.size + 1) < W.heap.size ∧ p8 < W.heap.size := ⟨block_lt_of_cell hS.2.1, hC.lt, hP8.lt⟩
        have hle := hS.1.size
        go_simp
        refine hK.out _ _ (ab1 hS) (fun hS' => ?_)
        exact IH.out _ _ _ _ (by omega) (Or.inr (Or.inr (Or.inr (Or.inr (Or.inr (Or.inr (Or.inr (Or.inr (Or.inr (Or.inr (Or.inr (Or.inr (Or.inr (Or.inl (⟨rfl, by kernel_rfl, _, _, _, _, _, rfl, hS', Bk.new _ _, hP8.alloc _, hC.alloc _, (by omega)⟩)))))))))))))))
      rcases hI with ⟨rfl, rfl, x34, p7, p8, rfl, hS, hP7, hP8, hC, hd⟩ | hI
      · refine wpAnyH_ready (rs := [3]) (by kernel_rfl) (by simp) ?_
        refine AllReadyH.cons rfl (fun Kc hK => ?_) AllReadyH.nil
        go_simp
        go_fit (use_rshl _ ⟨#[1]⟩ ((N : Int) + 1) P (by decide) (by omega) HP.out.1)
        rintro e V ⟨rfl, hq⟩
        refine hK.out _ _ (hb1 hq hS) (fun hS' => ?_)
        exact IH.out _ _ _ _ (by omega) (Or.inr (Or.inr (Or.inr (Or.inr (Or.inr (Or.inr (Or.inr (Or.inr (Or.inr (Or.inr (Or.inl (⟨rfl, by kernel_rfl, _, _, _, _, rfl, hS', hP7.below hq, hP8.below hq, hC.below hq, hd⟩))))))))))))
      rcases hI with ⟨rfl, rfl, x33, x34, x35, x36, x37, rfl, hS, hC⟩ | hI
      · refine wpAnyH_take (i := 6) (v := ?v6n7) rfl (by kernel_rfl) (by kernel_rfl) (by kernel_rfl) (fun _ _ _ h => h) (Or.inl ⟨by rfl, ?y6n7⟩) hS ?_
        case y6n7 => intro w hSw; (try dsimp only at hSw); go_simp; first | done | with_reducible rfl
        try simp only [Act.put, List.setIfInBounds_toArray, List.set_cons_zero, List.set_cons_succ]
        refine wpAnyH_take (i := 7) (v := ?v7n8) rfl (by kernel_rfl) (by kernel_rfl) (by kernel_rfl) (fun _ _ _ h => h) (Or.inl ⟨by rfl, ?y7n8⟩) hS ?_
        case y7n8 => intro w hSw; (try dsimp only at hSw); go_simp; first | done | with_reducible rfl
        try simp only [Act.put, List.setIfInBounds_toArray, List.set_cons_zero, List.set_cons_succ]
        refine wpAnyH_take (i := 8) (v := ?v8n9) rfl (by kernel_rfl) (by kernel_rfl) (by kernel_rfl) (fun _ _ _ h => h) (Or.inl ⟨by rfl, ?y8n9⟩) hS ?_
        case y8n9 => intro w hSw; (try dsimp only at hSw); go_simp; first | done | with_reducible rfl
        try simp only [Act.put, List.setIfInBounds_toArray, List.set_cons_zero, List.set_cons_succ]
        refine wpAnyH_take (i := 9) (v := ?v9n10) rfl (by kernel_rfl) (by kernel_rfl) (by kernel_rfl) (fun _ _ _ h => h) (Or.inl ⟨by rfl, ?y9n10⟩) hS ?_
        case y9n10 => intro w hSw; (try dsimp only at hSw); go_simp; first | done | with_reducible rfl
        try simp only [Act.put, List.setIfInBounds_toArray, List.set_cons_zero, List.set_cons_succ]
        refine wpAnyH_ready (rs := [10, 11]) (by kernel_rfl) (by simp) ?_
        refine AllReadyH.cons rfl (fun Kc hK => ?_) ?_
        · have hlt : w.heap.size < W.heap.size ∧ (w.heap.size + 1) < W.heap.size := ⟨block_lt_of_cell hS.2.1, hC.lt⟩
          have hle := hS.1.size
          go_simp
          refine hK.out _ _ (ab1 hS) (fun hS' => ?_)
          exact IH.out _ _ _ _ (by omega) (Or.inr (Or.inr (Or.inr (Or.inr (Or.inr (Or.inr (Or.inr (Or.inr (Or.inr (Or.inr (Or.inr (Or.inr (Or.inr (Or.inr (Or.inr (Or.inl (⟨rfl, by kernel_rfl, _, _, _, _, _, _, _, _, rfl, hS', Bk.new _ _, hC.alloc _, (by omega)⟩)))))))))))))))))
        refine AllReadyH.cons rfl (fun Kc hK => ?_) AllReadyH.nil
        have hlt : w.heap.size < W.heap.size ∧ (w.heap.size + 1) < W.heap.size := ⟨block_lt_of_cell hS.2.1, hC.lt⟩
        have hle := hS.1.size
        go_simp
        refine hK.out _ _ (ab1 hS) (fun hS' => ?_)
        exact IH.out _ _ _ _ (by omega) (Or.inr (Or.inr (Or.inr (Or.inr (Or.inr (Or.inr (Or.inr (Or.inr (Or.inr (Or.inr (Or.inr (Or.inr (Or.inr (Or.inr (Or.inr (Or.inr (Or.inl (⟨rfl, by kernel_rfl, _, _, _, _, _, _, _, _, rfl, hS', Bk.new _ _, hC.alloc _, (by omega)⟩))))))))))))))))))
      rcases hI with ⟨rfl, rfl, x34, x35, x36, p7, rfl, hS, hP7, hC, hd⟩ | hI
      · refine wpAnyH_ready (rs := [5, 11]) (by kernel_rfl) (by simp) ?_
        refine AllReadyH.cons rfl (fun Kc hK => ?_) ?_
        · go_simp
          go_fit (rdiv_any _ n false s P (by omega) (by omega) HP.out.2.1 z o HP.out.2.2.1 z2 o2 HP.out.2.2.2)
          rintro e V ⟨rfl, hq⟩
          refine hK.out _ _ (hb1 hq hS) (fun hS' => ?_)
          exact IH.out _ _ _ _ (by omega) (Or.inr (Or.inr (Or.inr (Or.inr (Or.inr (Or.inr (Or.inr (Or.inr (Or.inr (Or.inr (Or.inr (Or.inl (⟨rfl, by kernel_rfl, _, _, _, _, _, _, rfl, hS', hP7.below hq, hC.below hq, hd⟩)))))))))))))
        refine AllReadyH.cons rfl (fun Kc hK => ?_) AllReadyH.nil
        have hlt : w.heap.size < W.heap.size ∧ (w.heap.size + 1) < W.heap.size ∧ p7 < W.heap.size := ⟨block_lt_of_cell hS.2.1, hC.lt, hP7.lt⟩
        have hle := hS.1.size
        go_simp
        refine hK.out _ _ (ab1 hS) (fun hS' => ?_)
        exact IH.out _ _ _ _ (by omega) (Or.inr (Or.inr (Or.inr (Or.inr (Or.inr (Or.inr (Or.inr (Or.inr (Or.inr (Or.inr (Or.inr (Or.inr (Or.inr (Or.inl (⟨rfl, by kernel_rfl, _, _, _, _, _, rfl, hS', hP7.alloc _, Bk.new _ _, hC.alloc _, (by omega)⟩)))))))))))))))
      rcases hI with ⟨rfl, rfl, x34, x35, x36, p8, rfl, hS, hP8, hC, hd⟩ | hI
      · refine wpAnyH_ready (rs := [5, 10]) (by kernel_rfl) (by simp) ?_
        refine AllReadyH.cons rfl (fun Kc hK => ?_) ?_
        · go_simp
          go_fit (rdiv_any _ n false s P (by omega) (by omega) HP.out.2.1 z o HP.out.2.2.1 z2 o2 HP.out.2.2.2)
          rintro e V ⟨rfl, hq⟩
          refine hK.out _ _ (hb1 hq hS) (fun hS' => ?_)
          exact IH.out _ _ _ _ (by omega) (Or.inr (Or.inr (Or.inr (Or.inr (Or.inr (Or.inr (Or.inr (Or.inr (Or.inr (Or.inr (Or.inr (Or.inr (Or.inl (⟨rfl, by kernel_rfl, _, _, _, _, _, _, rfl, hS', hP8.below hq, hC.below hq, hd⟩))))))))))))))
        refine AllReadyH.cons rfl (fun Kc hK => ?_) AllReadyH.nil
        have hlt : w.heap.size < W.heap.size ∧ (w.heap.size + 1) < W.heap.size ∧ p8 < W.heap.size := ⟨block_lt_of_cell hS.2.1, hC.lt, hP8.lt⟩
        have hle := hS.1.size
        go_simp
        refine hK.out _ _ (ab1 hS) (fun hS' => ?_)
        exact IH.out _ _ _ _ (by omega) (Or.inr (Or.inr (Or.inr (Or.inr (Or.inr (Or.inr (Or.inr (Or.inr (Or.inr (Or.inr (Or.inr (Or.inr (Or.inr (Or.inl (⟨rfl, by kernel_rfl, _, _, _, _, _, rfl, hS', Bk.new _ _, hP8.alloc _, hC.alloc _, (by omega)⟩)))))))))))))))
      rcases hI with ⟨rfl, rfl, x34, x35, p7, p8, rfl, hS, hP7, hP8, hC, hd⟩ | hI
      · refine wpAnyH_take (i := 4) (v := ?v4n11) rfl (by kernel_rfl) (by kernel_rfl) (by kernel_rfl) (fun _ _ _ h => h) (Or.inl ⟨by rfl, ?y4n11⟩) hS ?_
        case y4n11 => intro w hSw; (try dsimp only at hSw); go_simp; first | done | with_reducible rfl
        try simp only [Act.put, List.setIfInBounds_toArray, List.set_cons_zero, List.set_cons_succ]
        refine wpAnyH_ready (rs := [5]) (by kernel_rfl) (by simp) ?_
        refine AllReadyH.cons rfl (fun Kc hK => ?_) AllReadyH.nil
        go_simp
        go_fit (rdiv_any _ n false s P (by omega) (by omega) HP.out.2.1 z o HP.out.2.2.1 z2 o2 HP.out.2.2.2)
        rintro e V ⟨rfl, hq⟩
        refine hK.out _ _ (hb1 hq hS) (fun hS' => ?_)
        exact IH.out _ _ _ _ (by omega) (Or.inr (Or.inr (Or.inr (Or.inr (Or.inr (Or.inr (Or.inr (Or.inr (Or.inr (Or.inr (Or.inr (Or.inr (Or.inr (Or.inr (Or.inl (⟨rfl, by kernel_rfl, _, _, _, _, _, _, _, rfl, hS', hP7.below hq, hP8.below hq, hC.below hq, hd⟩))))))))))))))))
      rcases hI with ⟨rfl, rfl, x33, x34, x35, x36, x37, p7, rfl, hS, hP7, hC, hd⟩ | hI
      · refine wpAnyH_take (i := 6) (v := ?v6n12) rfl (by kernel_rfl) (by kernel_rfl) (by kernel_rfl) (fun _ _ _ h => h) (Or.inl ⟨by rfl, ?y6n12⟩) hS ?_
        case y6n12 => intro w hSw; (try dsimp only at hSw); go_simp; first | done | with_reducible rfl
        try simp only [Act.put, List.setIfInBounds_toArray, List.set_cons_zero, List.set_cons_succ]
        refine wpAnyH_take (i := 7) (v := ?v7n13) rfl (by kernel_rfl) (by kernel_rfl) (by kernel_rfl) (fun _ _ _ h => h) (Or.inl ⟨by rfl, ?y7n13⟩) hS ?_
        case y7n13 => intro w hSw; (try dsimp only at hSw); go_simp; first | done | with_reducible rfl
        try simp only [Act.put, List.setIfInBounds_toArray, List.set_cons_zero, List.set_cons_succ]
        refine wpAnyH_take (i := 8) (v := ?v8n14) rfl (by kernel_rfl) (by kernel_rfl) (by kernel_rfl) (fun _ _ _ h => h) (Or.inl ⟨by rfl, ?y8n14⟩) hS ?_
        case y8n14 => intro w hSw; (try dsimp only at hSw); go_simp; first | done | with_reducible rfl
        try simp only [Act.put, List.setIfInBounds_toArray, List.set_cons_zero, List.set_cons_succ]
        refine wpAnyH_take (i := 9) (v := ?v9n15) rfl (by kernel_rfl) (by kernel_rfl) (by kernel_rfl) (fun _ _ _ h => h) (Or.inl ⟨by rfl, ?y9n15⟩) hS ?_
        case y9n15 => intro w hSw; (try dsimp only at hSw); go_simp; first | done | with_reducible rfl
        try simp only [Act.put, List.setIfInBounds_toArray, List.set_cons_zero, List.set_cons_succ]
        refine wpAnyH_ready (rs := [11]) (by kernel_rfl) (by simp) ?_
        refine AllReadyH.cons rfl (fun Kc hK => ?_) AllReadyH.nil
        have hlt : w.heap.size < W.heap.size ∧ (w.heap.size + 1) < W.heap.size ∧ p7 < W.heap.size := ⟨block_lt_of_cell hS.2.1, hC.lt, hP7.lt⟩
        have hle := hS.1.size
        go_simp
        refine hK.out _ _ (ab1 hS) (fun hS' => ?_)
        exact IH.out _ _ _ _ (by omega) (Or.inr (Or.inr (Or.inr (Or.inr (Or.inr (Or.inr (Or.inr (Or.inr (Or.inr (Or.inr (Or.inr (Or.inr (Or.inr (Or.inr (Or.inr (Or.inr (Or.inr (Or.inl (⟨rfl, by kernel_rfl, _, _, _, _, _, _, _, _, _, rfl, hS', hP7.alloc _, Bk.new _ _, hC.alloc _, (by omega)⟩)))))))))))))))))))
      rcases hI with ⟨rfl, rfl, x33, x34, x35, x36, x37, p8, rfl, hS, hP8, hC, hd⟩ | hI
      · refine wpAnyH_take (i := 6) (v := ?v6n16) rfl (by kernel_rfl) (by kernel_rfl) (by kernel_rfl) (fun _ _ _ h => h) (Or.inl ⟨by rfl, ?y6n16⟩) hS ?_
        case y6n16 => intro w hSw; (try dsimp only at hSw); go_simp; first | done | with_reducible rfl
        try simp only [Act.put, List.setIfInBounds_toArray, List.set_cons_zero, List.set_cons_succ]
        refine wpAnyH_take (i := 7) (v := ?v7n17) rfl (by kernel_rfl) (by kernel_rfl) (by kernel_rfl) (fun _ _ _ h => h) (Or.inl ⟨by rfl, ?y7n17⟩) hS ?_
        case y7n17 => intro w hSw; (try dsimp only at hSw); go_simp; first | done | with_reducible rfl
        try simp only [Act.put, List.setIfInBounds_toArray, List.set_cons_zero, List.set_cons_succ]
        refine wpAnyH_take (i := 8) (v := ?v8n18) rfl (by kernel_rfl) (by kernel_rfl) (by kernel_rfl) (fun _ _ _ h => h) (Or.inl ⟨by rfl, ?y8n18⟩) hS ?_
        case y8n18 => intro w hSw; (try dsimp only at hSw); go_simp; first | done | with_reducible rfl
        try simp only [Act.put, List.setIfInBounds_toArray, List.set_cons_zero, List.set_cons_succ]
        refine wpAnyH_take (i := 9) (v := ?v9n19) rfl (by kernel_rfl) (by kernel_rfl) (by kernel_rfl) (fun _ _ _ h => h) (Or.inl ⟨by rfl, ?y9n19⟩) hS ?_
        case y9n19 => intro w hSw; (try dsimp only at hSw); go_simp; first | done | with_reducible rfl
        try simp only [Act.put, List.setIfInBounds_toArray, List.set_cons_zero, List.set_cons_succ]
        refine wpAnyH_ready (rs := [10]) (by kernel_rfl) (by simp) ?_
        refine AllReadyH.cons rfl (fun Kc hK => ?_) AllReadyH.nil
        have hlt : w.heap.size < W.heap.size ∧ (w.heap.size + 1) < W.heap.size ∧ p8 < W.heap.size := ⟨block_lt_of_cell hS.2.1, hC.lt, hP8.lt⟩
        have hle := hS.1.size
        go_simp
        refine hK.out _ _ (ab1 hS) (fun hS' => ?_)
        exact IH.out _ _ _ _ (by omega) (Or.inr (Or.inr (Or.inr (Or.inr (Or.inr (Or.inr (Or.inr (Or.inr (Or.inr (Or.inr (Or.inr (Or.inr (Or.inr (Or.inr (Or.inr (Or.inr (Or.inr (Or.inl (⟨rfl, by kernel_rfl, _, _, _, _, _, _, _, _, _, rfl, hS', Bk.new _ _, hP8.alloc _, hC.alloc _, (by omega)⟩)))))))))))))))))))
      rcases hI with ⟨rfl, rfl, x34, x35, x36, p7, p8, rfl, hS, hP7, hP8, hC, hd⟩ | hI
      · refine wpAnyH_ready (rs := [5]) (by kernel_rfl) (by simp) ?_
        refine AllReadyH.cons rfl (fun Kc hK => ?_) AllReadyH.nil
        go_simp
        go_fit (rdiv_any _ n false s P (by omega) (by omega) HP.out.2.1 z o HP.out.2.2.1 z2 o2 HP.out.2.2.2)
        rintro e V ⟨rfl, hq⟩
        refine hK.out _ _ (hb1 hq hS) (fun hS' => ?_)
        exact IH.out _ _ _ _ (by omega) (Or.inr (Or.inr (Or.inr (Or.inr (Or.inr (Or.inr (Or.inr (Or.inr (Or.inr (Or.inr (Or.inr (Or.inr (Or.inr (Or.inr (Or.inl (⟨rfl, by kernel_rfl, _, _, _, _, _, _, _, rfl, hS', hP7.below hq, hP8.below hq, hC.below hq, hd⟩))))))))))))))))
      rcases hI with ⟨rfl, rfl, x33, x34, x35, x36, x37, p7, p8, rfl, hS, hP7, hP8, hC, hd⟩ | hI
      · refine wpAnyH_take (i := 6) (v := ?v6n20) rfl (by kernel_rfl) (by kernel_rfl) (by kernel_rfl) (fun _ _ _ h => h) (Or.inl ⟨by rfl, ?y6n20⟩) hS ?_
        case y6n20 => intro w hSw; (try dsimp only at hSw); go_simp; first | done | with_reducible rfl
        try simp only [Act.put, List.setIfInBounds_toArray, List.set_cons_zero, List.set_cons_succ]
        refine wpAnyH_take (i := 7) (v := ?v7n21) rfl (by kernel_rfl) (by kernel_rfl) (by kernel_rfl) (fun _ _ _ h => h) (Or.inl ⟨by rfl, ?y7n21⟩) hS ?_
        case y7n21 => intro w hSw; (try dsimp only at hSw); go_simp; first | done | with_reducible rfl
        try simp only [Act.put, List.setIfInBounds_toArray, List.set_cons_zero, List.set_cons_succ]
        refine wpAnyH_take (i := 8) (v := ?v8n22) rfl (by kernel_rfl) (by kernel_rfl) (by kernel_rfl) (fun _ _ _ h => h) (Or.inl ⟨by rfl, ?y8n22⟩) hS ?_
        case y8n22 => intro w hSw; (try dsimp only at hSw); go_simp; first | done | with_reducible rfl
        try simp only [Act.put, List.setIfInBounds_toArray, List.set_cons_zero, List.set_cons_succ]
        refine wpAnyH_take (i := 9) (v := ?v9n23) rfl (by kernel_rfl) (by kernel_rfl) (by kernel_rfl) (fun _ _ _ h => h) (Or.inl ⟨by rfl, ?y9n23⟩) hS ?_
        case y9n23 => intro w hSw; (try dsimp only at hSw); go_simp; first | done | with_reducible rfl
        try simp only [Act.put, List.setIfInBounds_toArray, List.set_cons_zero, List.set_cons_succ]
        refine wpAnyH_ready (rs := [12]) (by kernel_rfl) (by simp) ?_
        refine AllReadyH.cons rfl (fun Kc hK => ?_) AllReadyH.nil
        obtain ⟨q0, q1, q2, q3⟩ := hP7.facts
        go_simp
        refine hK.out _ _ (sb1 hS (by omega) (by omega)) (fun hS' => ?_)
        exact IH.out _ _ _ _ (by omega) (Or.inr (Or.inr (Or.inr (Or.inr (Or.inr (Or.inr (Or.inr (Or.inr (Or.inr (Or.inr (Or.inr (Or.inr (Or.inr (Or.inr (Or.inr (Or.inr (Or.inr (Or.inr (Or.inl (⟨rfl, by kernel_rfl, _, _, _, _, _, _, _, _, _, _, rfl, hS', hP7.set_ _ _, hP8.far2 (by omega) _ _, hC.far2 (by omega) _ _, hd⟩))))))))))))))))))))
      rcases hI with ⟨rfl, rfl, x33, x34, x35, x36, x37, x38, x32, p7, rfl, hS, hP7, hC, hd⟩ | hI
      · refine wpAnyH_ready (rs := [11]) (by kernel_rfl) (by simp) ?_
        refine AllReadyH.cons rfl (fun Kc hK => ?_) AllReadyH.nil
        have hlt : w.heap.size < W.heap.size ∧ (w.heap.size + 1) < W.heap.size ∧ p7 < W.heap.size := ⟨block_lt_of_cell hS.2.1, hC.lt, hP7.lt⟩
        have hle := hS.1.size
        go_simp
        refine hK.out _ _ (ab1 hS) (fun hS' => ?_)
        exact IH.out _ _ _ _ (by omega) (Or.inr (Or.inr (Or.inr (Or.inr (Or.inr (Or.inr (Or.inr (Or.inr (Or.inr (Or.inr (Or.inr (Or.inr (Or.inr (Or.inr (Or.inr (Or.inr (Or.inr (Or.inl (⟨rfl, by kernel_rfl, _, _, _, _, _, _, _, _, _, rfl, hS', hP7.alloc _, Bk.new _ _, hC.alloc _, (by omega)⟩)))))))))))))))))))
      rcases hI with ⟨rfl, rfl, x33, x34, x35, x36, x37, x38, x32, p8, rfl, hS, hP8, hC, hd⟩ | hI
      · refine wpAnyH_ready (rs := [10]) (by kernel_rfl) (by simp) ?_
        refine AllReadyH.cons rfl (fun Kc hK => ?_) AllReadyH.nil
        have hlt : w.heap.size < W.heap.size ∧ (w.heap.size + 1) < W.heap.size ∧ p8 < W.heap.size := ⟨block_lt_of_cell hS.2.1, hC.lt, hP8.lt⟩
        have hle := hS.1.size
        go_simp
        refine hK.out _ _ (ab1 hS) (fun hS' => ?_)
        exact IH.out _ _ _ _ (by omega) (Or.inr (Or.inr (Or.inr (Or.inr (Or.inr (Or.inr (Or.inr (Or.inr (Or.inr (Or.inr (Or.inr (Or.inr (Or.inr (Or.inr (Or.inr (Or.inr (Or.inr (Or.inl (⟨rfl, by kernel_rfl, _, _, _, _, _, _, _, _, _, rfl, hS', Bk.new _ _, hP8.alloc _, hC.alloc _, (by omega)⟩)))))))))))))))))))
      rcases hI with ⟨rfl, rfl, x33, x34, x35, x36, x37, x38, x32, p7, p8, rfl, hS, hP7, hP8, hC, hd⟩ | hI
      · refine wpAnyH_ready (rs := [12]) (by kernel_rfl) (by simp) ?_
        refine AllReadyH.cons rfl (fun Kc hK => ?_) AllReadyH.nil
        obtain ⟨q0, q1, q2, q3⟩ := hP7.facts
        go_simp
        refine hK.out _ _ (sb1 hS (by omega) (by omega)) (fun hS' => ?_)
        exact IH.out _ _ _ _ (by omega) (Or.inr (Or.inr (Or.inr (Or.inr (Or.inr (Or.inr (Or.inr (Or.inr (Or.inr (Or.inr (Or.inr (Or.inr (Or.inr (Or.inr (Or.inr (Or.inr (Or.inr (Or.inr (Or.inl (⟨rfl, by kernel_rfl, _, _, _, _, _, _, _, _, _, _, rfl, hS', hP7.set_ _ _, hP8.far2 (by omega) _ _, hC.far2 (by omega) _ _, hd⟩))))))))))))))))))))
      rcases hI with ⟨rfl, rfl, x33, x34, x35, x36, x37, x38, x32, x39, p7, p8, rfl, hS, hP7, hP8, hC, hd⟩ | hI
      · refine wpAnyH_ready (rs := [13]) (by kernel_rfl) (by simp) ?_
        refine AllReadyH.cons rfl (fun Kc hK => ?_) AllReadyH.nil
        obtain ⟨q0, q1, q2, q3⟩ := hP8.facts
        go_simp
        refine hK.out _ _ (sb1 hS (by omega) (by omega)) (fun hS' => ?_)
        exact IH.out _ _ _ _ (by omega) (Or.inr (Or.inr (Or.inr (Or.inr (Or.inr (Or.inr (Or.inr (Or.inr (Or.inr (Or.inr (Or.inr (Or.inr (Or.inr (Or.inr (Or.inr (Or.inr (Or.inr (Or.inr (Or.inr (⟨rfl, by kernel_rfl, _, _, _, _, _, _, _, _, _, _, _, _, rfl, hS', hP7.far2 (by omega) _ _, hP8.set_ _ _, hC.far2 (by omega) _ _, hd⟩))))))))))))))))))))
      obtain ⟨rfl, rfl, x33, x34, x35, x36, x37, x38, x32, x39, x40, x8, p7, p8, rfl, hS, hP7, hP8, hC, hd⟩ := hI
      refine wpAnyH_take (i := 14) (v := ?v14n24) rfl (by kernel_rfl) (by kernel_rfl) (by kernel_rfl) (fun _ _ _ h => h) (Or.inl ⟨by rfl, ?y14n24⟩) hS ?_
      case y14n24 => intro w hSw; (try dsimp only at hSw); go_simp; first | done | with_reducible rfl
      try simp only [Act.put, List.setIfInBounds_toArray, List.set_cons_zero, List.set_cons_succ]
      refine wpAnyH_done (by kernel_rfl) ?_ _
      obtain ⟨hP70, hP71⟩ := hP7.cells
      obtain ⟨hC0, hC1, hC2, hC3⟩ := hC.facts
      go_wp2
      exact ret_whole rfl rfl (hC.set_ _ _) ⟨rfl, below_set2 hS.1 (by omega) _ _ _ _⟩
  · have w3 : IntKind.i64.wrap (-k) = K := by rw [he2, IntKind.wrap_i64]; omega
    have c2 : decide (k < -((N : Int) + 1)) = false := decide_eq_false c1
    clear he2 w2 c1
    go_wp2_with fail
    refine region_dag (fun w' => Below w.heap.size w w' ∧ (w'.cell? ⟨w.heap.size, 0, none⟩ = some (.bool n) ∧ w'.cell? ⟨w.heap.size, 1, none⟩ = some (.string s))) (fun f L a W => (f = 15 ∧ L = #[false, false, false, false, false, false, false, false, false, false, false, false, false, false, false] ∧ a = { tmps := #[Value.agg #[Value.bool n, Value.string s], Value.int IntKind.i64 k, Value.pointer (some { block := w.heap.size, off := 0 }), undef, Value.pointer (some { block := w.heap.size + 1, off := 0 }), Value.slice ad N c, Value.int IntKind.i64 (↑N + 1), undef, undef, undef, Value.int IntKind.i64 k, Value.bool (decide (0 ≤ k)), undef, undef, undef, undef, undef, undef, undef, undef, Value.pointer (some { block := w.heap.size, off := 1 }), Value.string s, Value.slice ad N c, Value.slice ad N c, Value.int IntKind.i64 ↑N, Value.int IntKind.i64 (↑N + 1), Value.int IntKind.i64 k, Value.int IntKind.i64 (↑N + 1), Value.int IntKind.i64 (-(↑N + 1)), Value.bool false, undef, undef, undef, undef, undef, undef, undef, undef, undef, undef, undef, undef, undef], defers := [] } ∧ (fun w' => Below w.heap.size w w' ∧ (w'.cell? ⟨w.heap.size, 0, none⟩ = some (.bool n) ∧ w'.cell? ⟨w.heap.size, 1, none⟩ = some (.string s))) W ∧ Bk W (w.heap.size + 1) #[Value.bool false, Value.string { data := #[] }]) ∨ (f = 11 ∧ L = #[true, true, true, true, false, false, false, false, false, false, false, false, false, false, false] ∧ ∃ (x34 : Value) (x35 : Value), a = { tmps := #[Value.agg #[Value.bool n, Value.string s], Value.int IntKind.i64 k, Value.pointer (some { block := w.heap.size, off := 0 }), undef, Value.pointer (some { block := w.heap.size + 1, off := 0 }), Value.slice ad N c, Value.int IntKind.i64 (↑N + 1), undef, undef, undef, Value.int IntKind.i64 k, Value.bool (decide (0 ≤ k)), undef, undef, undef, undef, undef, undef, undef, undef, Value.pointer (some { block := w.heap.size, off := 1 }), Value.string s, Value.slice ad N c, Value.slice ad N c, Value.int IntKind.i64 ↑N, Value.int IntKind.i64 (↑N + 1), Value.int IntKind.i64 k, Value.int IntKind.i64 (↑N + 1), Value.int IntKind.i64 (-(↑N + 1)), Value.bool false, undef, undef, undef, Value.agg #[Value.bool n, Value.string s], x34, x35, Value.string P, undef, undef, undef, undef, undef, undef], defers := [] } ∧ (fun w' => Below w.heap.size w w' ∧ (w'.cell? ⟨w.heap.size, 0, none⟩ = some (.bool n) ∧ w'.cell? ⟨w.heap.size, 1, none⟩ = some (.string s))) W ∧ Bk W (w.heap.size + 1) #[Value.bool false, Value.string { data := #[] }]) ∨ (f = 11 ∧ L = #[true, true, true, false, false, false, false, false, false, false, true, false, false, false, false] ∧ ∃ (x34 : Value) (p7 : Nat), a = { tmps := #[Value.agg #[Value.bool n, Value.string s], Value.int IntKind.i64 k, Value.pointer (some { block := w.heap.size, off := 0 }), undef, Value.pointer (some { block := w.heap.size + 1, off := 0 }), Value.slice ad N c, Value.int IntKind.i64 (↑N + 1), Value.pointer (some { block := p7, off := 0 }), undef, undef, Value.int IntKind.i64 k, Value.bool (decide (0 ≤ k)), undef, undef, undef, undef, undef, undef, undef, undef, Value.pointer (some { block := w.heap.size, off := 1 }), Value.string s, Value.slice ad N c, Value.slice ad N c, Value.int IntKind.i64 ↑N, Value.int IntKind.i64 (↑N + 1), Value.int IntKind.i64 k, Value.int IntKind.i64 (↑N + 1), Value.int IntKind.i64 (-(↑N + 1)), Value.bool false, undef, undef, undef, Value.agg #[Value.bool n, Value.string s], x34, Value.int IntKind.i64 K, undef, undef, undef, undef, undef, undef, undef], defers := [] } ∧ (fun w' => Below w.heap.size w w' ∧ (w'.cell? ⟨w.heap.size, 0, none⟩ = some (.bool n) ∧ w'.cell? ⟨w.heap.size, 1, none⟩ = some (.string s))) W ∧ Bk W p7 #[Value.bool false, Value.string { data := #[] }] ∧ Bk W (w.heap.size + 1) #[Value.bool false, Value.string { data := #[] }] ∧ (w.heap.size ≠ p7 ∧ (w.heap.size + 1) ≠ p7 ∧ w.heap.size ≤ p7)) ∨ (f = 11 ∧ L = #[true, true, true, false, false, false, false, false, false, false, false, true, false, false, false] ∧ ∃ (x34 : Value) (p8 : Nat), a = { tmps := #[Value.agg #[Value.bool n, Value.string s], Value.int IntKind.i64 k, Value.pointer (some { block := w.heap.size, off := 0 }), undef, Value.pointer (some { block := w.heap.size + 1, off := 0 }), Value.slice ad N c, Value.int IntKind.i64 (↑N + 1), undef, Value.pointer (some { block := p8, off := 0 }), undef, Value.int IntKind.i64 k, Value.bool (decide (0 ≤ k)), undef, undef, undef, undef, undef, undef, undef, undef, Value.pointer (some { block := w.heap.size, off := 1 }), Value.string s, Value.slice ad N c, Value.slice ad N c, Value.int IntKind.i64 ↑N, Value.int IntKind.i64 (↑N + 1), Value.int IntKind.i64 k, Value.int IntKind.i64 (↑N + 1), Value.int IntKind.i64 (-(↑N + 1)), Value.bool false, undef, undef, undef, Value.agg #[Value.bool n, Value.string s], x34, Value.int IntKind.i64 K, undef, undef, undef, undef, undef, undef, undef], defers := [] } ∧ (fun w' => Below w.heap.size w w' ∧ (w'.cell? ⟨w.heap.size, 0, none⟩ = some (.bool n) ∧ w'.cell? ⟨w.heap.size, 1, none⟩ = some (.string s))) W ∧ Bk W p8 #[Value.bool false, Value.string { data := #[] }] ∧ Bk W (w.heap.size + 1) #[Value.bool false, Value.string { data := #[] }] ∧ (w.heap.size ≠ p8 ∧ (w.heap.size + 1) ≠ p8 ∧ w.heap.size ≤ p8)) ∨ (f = 10 ∧ L = #[true, true, true, true, false, false, false, false, false, false, true, false, false, false, false] ∧ ∃ (x34 : Value) (x35 : Value) (p7 : Nat), a = { tmps := #[Value.agg #[Value.bool n, Value.string s], Value.int IntKind.i64 k, Value.pointer (some { block := w.heap.size, off := 0 }), undef, Value.pointer (some { block := w.heap.size + 1, off := 0 }), Value.slice ad N c, Value.int IntKind.i64 (↑N + 1), Value.pointer (some { block := p7, off := 0 }), undef, undef, Value.int IntKind.i64 k, Value.bool (decide (0 ≤ k)), undef, undef, undef, undef, undef, undef, undef, undef, Value.pointer (some { block := w.heap.size, off := 1 }), Value.string s, Value.slice ad N c, Value.slice ad N c, Value.int IntKind.i64 ↑N, Value.int IntKind.i64 (↑N + 1), Value.int IntKind.i64 k, Value.int IntKind.i64 (↑N + 1), Value.int IntKind.i64 (-(↑N + 1)), Value.bool false, undef, undef, undef, Value.agg #[Value.bool n, Value.string s], x34, x35, Value.string P, undef, undef, undef, undef, undef, undef], defers := [] } ∧ (fun w' => Below w.heap.size w w' ∧ (w'.cell? ⟨w.heap.size, 0, none⟩ = some (.bool n) ∧ w'.cell? ⟨w.heap.size, 1, none⟩ = some (.string s))) W ∧ Bk W p7 #[Value.bool false, Value.string { data := #[] }] ∧ Bk W (w.heap.size + 1) #[Value.bool false, Value.string { data := #[] }] ∧ (w.heap.size ≠ p7 ∧ (w.heap.size + 1) ≠ p7 ∧ w.heap.size ≤ p7)) ∨ (f = 10 ∧ L = #[true, true, true, true, false, false, false, false, false, false, false, true, false, false, false] ∧ ∃ (x34 : Value) (x35 : Value) (p8 : Nat), a = { tmps := #[Value.agg #[Value.bool n, Value.string s], Value.int IntKind.i64 k, Value.pointer (some { block := w.heap.size, off := 0 }), undef, Value.pointer (some { block := w.heap.size + 1, off := 0 }), Value.slice ad N c, Value.int IntKind.i64 (↑N + 1), undef, Value.pointer (some { block := p8, off := 0 }), undef, Value.int IntKind.i64 k, Value.bool (decide (0 ≤ k)), undef, undef, undef, undef, undef, undef, undef, undef, Value.pointer (some { block := w.heap.size, off := 1 }), Value.string s, Value.slice ad N c, Value.slice ad N c, Value.int IntKind.i64 ↑N, Value.int IntKind.i64 (↑N + 1), Value.int IntKind.i64 k, Value.int IntKind.i64 (↑N + 1), Value.int IntKind.i64 (-(↑N + 1)), Value.bool false, undef, undef, undef, Value.agg #[Value.bool n, Value.string s], x34, x35, Value.string P, undef, undef, undef, undef, undef, undef], defers := [] } ∧ (fun w' => Below w.heap.size w w' ∧ (w'.cell? ⟨w.heap.size, 0, none⟩ = some (.bool n) ∧ w'.cell? ⟨w.heap.size, 1, none⟩ = some (.string s))) W ∧ Bk W p8 #[Value.bool false, Value.string { data := #[] }] ∧ Bk W (w.heap.size + 1) #[Value.bool false, Value.string { data := #[] }] ∧ (w.heap.size ≠ p8 ∧ (w.heap.size + 1) ≠ p8 ∧ w.heap.size ≤ p8)) ∨ (f = 10 ∧ L = #[true, true, true, false, false, false, false, false, false, false, true, true, false, false, false] ∧ ∃ (x34 : Value) (p7 : Nat) (p8 : Nat), a = { tmps := #[Value.agg #[Value.bool n, Value.string s], Value.int IntKind.i64 k, Value.pointer (some { block := w.heap.size, off := 0 }), undef, Value.pointer (some { block := w.heap.size + 1, off := 0 }), Value.slice ad N c, Value.int IntKind.i64 (↑N + 1), Value.pointer (some { block := p7, off := 0 }), Value.pointer (some { block := p8, off := 0 }), undef, Value.int IntKind.i64 k, Value.bool (decide (0 ≤ k)), undef, undef, undef, undef, undef, undef, undef, undef, Value.pointer (some { block := w.heap.size, off := 1 }), Value.string s, Value.slice ad N c, Value.slice ad N c, Value.int IntKind.i64 ↑N, Value.int IntKind.i64 (↑N + 1), Value.int IntKind.i64 k, Value.int IntKind.i64 (↑N + 1), Value.int IntKind.i64 (-(↑N + 1)), Value.bool false, undef, undef, undef, Value.agg #[Value.bool n, Value.string s], x34, Value.int IntKind.i64 K, undef, undef, undef, undef, undef, undef, undef], defers := [] } ∧ (fun w' => Below w.heap.size w w' ∧ (w'.cell? ⟨w.heap.size, 0, none⟩ = some (.bool n) ∧ w'.cell? ⟨w.heap.size, 1, none⟩ = some (.string s))) W ∧ Bk W p7 #[Value.bool false, Value.string { data := #[] }] ∧ Bk W p8 #[Value.bool false, Value.string { data := #[] }] ∧ Bk W (w.heap.size + 1) #[Value.bool false, Value.string { data := #[] }] ∧ (w.heap.size ≠ p7 ∧ (w.heap.size + 1) ≠ p7 ∧ w.heap.size ≤ p7 ∧ w.heap.size ≠ p8 ∧ (w.heap.size + 1) ≠ p8 ∧ w.heap.size ≤ p8 ∧ p7 ≠ p8)) ∨ (f = 9 ∧ L = #[true, true, true, true, true, true, false, false, false, false, false, false, false, false, false] ∧ ∃ (x33 : Value) (x34 : Value) (x35 : Value) (x36 : Value) (x37 : Value), a = { tmps := #[Value.agg #[Value.bool n, Value.string s], Value.int IntKind.i64 k, Value.pointer (some { block := w.heap.size, off := 0 }), undef, Value.pointer (some { block := w.heap.size + 1, off := 0 }), Value.slice ad N c, Value.int IntKind.i64 (↑N + 1), undef, undef, undef, Value.int IntKind.i64 k, Value.bool (decide (0 ≤ k)), undef, undef, undef, undef, undef, undef, undef, undef, Value.pointer (some { block := w.heap.size, off := 1 }), Value.string s, Value.slice ad N c, Value.slice ad N c, Value.int IntKind.i64 ↑N, Value.int IntKind.i64 (↑N + 1), Value.int IntKind.i64 k, Value.int IntKind.i64 (↑N + 1), Value.int IntKind.i64 (-(↑N + 1)), Value.bool false, undef, undef, undef, x33, x34, x35, x36, x37, Value.tuple #[Value.agg #[Value.bool z, Value.string o], Value.agg #[Value.bool z2, Value.string o2], Value.bool true], undef, undef, undef, undef], defers := [] } ∧ (fun w' => Below w.heap.size w w' ∧ (w'.cell? ⟨w.heap.size, 0, none⟩ = some (.bool n) ∧ w'.cell? ⟨w.heap.size, 1, none⟩ = some (.string s))) W ∧ Bk W (w.heap.size + 1) #[Value.bool false, Value.string { data := #[] }]) ∨ (f = 9 ∧ L = #[true, true, true, true, true, false, false, false, false, false, true, false, false, false, false] ∧ ∃ (x34 : Value) (x35 : Value) (x36 : Value) (p7 : Nat), a = { tmps := #[Value.agg #[Value.bool n, Value.string s], Value.int IntKind.i64 k, Value.pointer (some { block := w.heap.size, off := 0 }), undef, Value.pointer (some { block := w.heap.size + 1, off := 0 }), Value.slice ad N c, Value.int IntKind.i64 (↑N + 1), Value.pointer (some { block := p7, off := 0 }), undef, undef, Value.int IntKind.i64 k, Value.bool (decide (0 ≤ k)), undef, undef, undef, undef, undef, undef, undef, undef, Value.pointer (some { block := w.heap.size, off := 1 }), Value.string s, Value.slice ad N c, Value.slice ad N c, Value.int IntKind.i64 ↑N, Value.int IntKind.i64 (↑N + 1), Value.int IntKind.i64 k, Value.int IntKind.i64 (↑N + 1), Value.int IntKind.i64 (-(↑N + 1)), Value.bool false, undef, undef, undef, Value.agg #[Value.bool n, Value.string s], x34, x35, x36, Value.agg #[Value.bool false, Value.string P], undef, undef, undef, undef, undef], defers := [] } ∧ (fun w' => Below w.heap.size w w' ∧ (w'.cell? ⟨w.heap.size, 0, none⟩ = some (.bool n) ∧ w'.cell? ⟨w.heap.size, 1, none⟩ = some (.string s))) W ∧ Bk W p7 #[Value.bool false, Value.string { data := #[] }] ∧ Bk W (w.heap.size + 1) #[Value.bool false, Value.string { data := #[] }] ∧ (w.heap.size ≠ p7 ∧ (w.heap.size + 1) ≠ p7 ∧ w.heap.size ≤ p7)) ∨ (f = 9 ∧ L = #[true, true, true, true, true, false, false, false, false, false, false, true, false, false, false] ∧ ∃ (x34 : Value) (x35 : Value) (x36 : Value) (p8 : Nat), a = { tmps := #[Value.agg #[Value.bool n, Value.string s], Value.int IntKind.i64 k, Value.pointer (some { block := w.heap.size, off := 0 }), undef, Value.pointer (some { block := w.heap.size + 1, off := 0 }), Value.slice ad N c, Value.int IntKind.i64 (↑N + 1), undef, Value.pointer (some { block := p8, off := 0 }), undef, Value.int IntKind.i64 k, Value.bool (decide (0 ≤ k)), undef, undef, undef, undef, undef, undef, undef, undef, Value.pointer (some { block := w.heap.size, off := 1 }), Value.string s, Value.slice ad N c, Value.slice ad N c, Value.int IntKind.i64 ↑N, Value.int IntKind.i64 (↑N + 1), Value.int IntKind.i64 k, Value.int IntKind.i64 (↑N + 1), Value.int IntKind.i64 (-(↑N + 1)), Value.bool false, undef, undef, undef, Value.agg #[Value.bool n, Value.string s], x34, x35, x36, Value.agg #[Value.bool false, Value.string P], undef, undef, undef, undef, undef], defers := [] } ∧ (fun w' => Below w.heap.size w w' ∧ (w'.cell? ⟨w.heap.size, 0, none⟩ = some (.bool n) ∧ w'.cell? ⟨w.heap.size, 1, none⟩ = some (.string s))) W ∧ Bk W p8 #[Value.bool false, Value.string { data := #[] }] ∧ Bk W (w.heap.size + 1) #[Value.bool false, Value.string { data := #[] }] ∧ (w.heap.size ≠ p8 ∧ (w.heap.size + 1) ≠ p8 ∧ w.heap.size ≤ p8)) ∨ (f = 9 ∧ L = #[true, true, true, true, false, false, false, false, false, false, true, true, false, false, false] ∧ ∃ (x34 : Value) (x35 : Value) (p7 : Nat) (p8 : Nat), a = { tmps := #[Value.agg #[Value.bool n, Value.string s], Value.int IntKind.i64 k, Value.pointer (some { block := w.heap.size, off := 0 }), undef, Value.pointer (some { block := w.heap.size + 1, off := 0 }), Value.slice ad N c, Value.int IntKind.i64 (↑N + 1), Value.pointer (some { block := p7, off := 0 }), Value.pointer (some { block := p8, off := 0 }), undef, Value.int IntKind.i64 k, Value.bool (decide (0 ≤ k)), undef, undef, undef, undef, undef, undef, undef, undef, Value.pointer (some { block := w.heap.size, off := 1 }), Value.string s, Value.slice ad N c, Value.slice ad N c, Value.int IntKind.i64 ↑N, Value.int IntKind.i64 (↑N + 1), Value.int IntKind.i64 k, Value.int IntKind.i64 (↑N + 1), Value.int IntKind.i64 (-(↑N + 1)), Value.bool false, undef, undef, undef, Value.agg #[Value.bool n, Value.string s], x34, x35, Value.string P, undef, undef, undef, undef, undef, undef], defers := [] } ∧ (fun w' => Below w.heap.size w w' ∧ (w'.cell? ⟨w.heap.size, 0, none⟩ = some (.bool n) ∧ w'.cell? ⟨w.heap.size, 1, none⟩ = some (.string s))) W ∧ Bk W p7 #[Value.bool false, Value.string { data := #[] }] ∧ Bk W p8 #[Value.bool false, Value.string { data := #[] }] ∧ Bk W (w.heap.size + 1) #[Value.bool false, Value.string { data := #[] }] ∧ (w.heap.size ≠ p7 ∧ (w.heap.size + 1) ≠ p7 ∧ w.heap.size ≤ p7 ∧ w.heap.size ≠ p8 ∧ (w.heap.size + 1) ≠ p8 ∧ w.heap.size ≤ p8 ∧ p7 ≠ p8)) ∨ (f = 8 ∧ L = #[true, true, true, true, true, true, false, false, false, false, true, false, false, false, false] ∧ ∃ (x33 : Value) (x34 : Value) (x35 : Value) (x36 : Value) (x37 : Value) (p7 : Nat), a = { tmps := #[Value.agg #[Value.bool n, Value.string s], Value.int IntKind.i64 k, Value.pointer (some { block := w.heap.size, off := 0 }), undef, Value.pointer (some { block := w.heap.size + 1, off := 0 }), Value.slice ad N c, Value.int IntKind.i64 (↑N + 1), Value.pointer (some { block := p7, off := 0 }), undef, undef, Value.int IntKind.i64 k, Value.bool (decide (0 ≤ k)), undef, undef, undef, undef, undef, undef, undef, undef, Value.pointer (some { block := w.heap.size, off := 1 }), Value.string s, Value.slice ad N c, Value.slice ad N c, Value.int IntKind.i64 ↑N, Value.int IntKind.i64 (↑N + 1), Value.int IntKind.i64 k, Value.int IntKind.i64 (↑N + 1), Value.int IntKind.i64 (-(↑N + 1)), Value.bool false, undef, undef, undef, x33, x34, x35, x36, x37, Value.tuple #[Value.agg #[Value.bool z, Value.string o], Value.agg #[Value.bool z2, Value.string o2], Value.bool true], undef, undef, undef, undef], defers := [] } ∧ (fun w' => Below w.heap.size w w' ∧ (w'.cell? ⟨w.heap.size, 0, none⟩ = some (.bool n) ∧ w'.cell? ⟨w.heap.size, 1, none⟩ = some (.string s))) W ∧ Bk W p7 #[Value.bool false, Value.string { data := #[] }] ∧ Bk W (w.heap.size + 1) #[Value.bool false, Value.string { data := #[] }] ∧ (w.heap.size ≠ p7 ∧ (w.heap.size + 1) ≠ p7 ∧ w.heap.size ≤ p7)) ∨ (f = 8 ∧ L = #[true, true, true, true, true, true, false, false, false, false, false, true, false, false, false] ∧ ∃ (x33 : Value) (x34 : Value) (x35 : Value) (x36 : Value) (x37 : Value) (p8 : Nat), a = { tmps := #[Value.agg #[Value.bool n, Value.string s], Value.int IntKind.i64 k, Value.pointer (some { block := w.heap.size, off := 0 }), undef, Value.pointer (some { block := w.heap.size + 1, off := 0 }), Value.slice ad N c, Value.int IntKind.i64 (↑N + 1), undef, Value.pointer (some { block := p8, off := 0 }), undef, Value.int IntKind.i64 k, Value.bool (decide (0 ≤ k)), undef, undef, undef, undef, undef, undef, undef, undef, Value.pointer (some { block := w.heap.size, off := 1 }), Value.string s, Value.slice ad N c, Value.slice ad N c, Value.int IntKind.i64 ↑N, Value.int IntKind.i64 (↑N + 1), Value.int IntKind.i64 k, Value.int IntKind.i64 (↑N + 1), Value.int IntKind.i64 (-(↑N + 1)), Value.bool false, undef, undef, undef, x33, x34, x35, x36, x37, Value.tuple #[Value.agg #[Value.bool z, Value.string o], Value.agg #[Value.bool z2, Value.string o2], Value.bool true], undef, undef, undef, undef], defers := [] } ∧ (fun w' => Below w.heap.size w w' ∧ (w'.cell? ⟨w.heap.size, 0, none⟩ = some (.bool n) ∧ w'.cell? ⟨w.heap.size, 1, none⟩ = some (.string s))) W ∧ Bk W p8 #[Value.bool false, Value.string { data := #[] }] ∧ Bk W (w.heap.size + 1) #[Value.bool false, Value.string { data := #[] }] ∧ (w.heap.size ≠ p8 ∧ (w.heap.size + 1) ≠ p8 ∧ w.heap.size ≤ p8)) ∨ (f = 8 ∧ L = #[true, true, true, true, true, false, false, false, false, false, true, true, false, false, false] ∧ ∃ (x34 : Value) (x35 : Value) (x36 : Value) (p7 : Nat) (p8 : Nat), a = { tmps := #[Value.agg #[Value.bool n, Value.string s], Value.int IntKind.i64 k, Value.pointer (some { block := w.heap.size, off := 0 }), undef, Value.pointer (some { block := w.heap.size + 1, off := 0 }), Value.slice ad N c, Value.int IntKind.i64 (↑N + 1), Value.pointer (some { block := p7, off := 0 }), Value.pointer (some { block := p8, off := 0 }), undef, Value.int IntKind.i64 k, Value.bool (decide (0 ≤ k)), undef, undef, undef, undef, undef, undef, undef, undef, Value.pointer (some { block := w.heap.size, off := 1 }), Value.string s, Value.slice ad N c, Value.slice ad N c, Value.int IntKind.i64 ↑N, Value.int IntKind.i64 (↑N + 1), Value.int IntKind.i64 k, Value.int IntKind.i64 (↑N + 1), Value.int IntKind.i64 (-(↑N + 1)), Value.bool false, undef, undef, undef, Value.agg #[Value.bool n, Value.string s], x34, x35, x36, Value.agg #[Value.bool false, Value.string P], undef, undef, undef, undef, undef], defers := [] } ∧ (fun w' => Below w.heap.size w w' ∧ (w'.cell? ⟨w.heap.size, 0, none⟩ = some (.bool n) ∧ w'.cell? ⟨w.heap.size, 1, none⟩ = some (.string s))) W ∧ Bk W p7 #[Value.bool false, Value.string { data := #[] }] ∧ Bk W p8 #[Value.bool false, Value.string { data := #[] }] ∧ Bk W (w.heap.size + 1) #[Value.bool false, Value.string { data := #[] }] ∧ (w.heap.size ≠ p7 ∧ (w.heap.size + 1) ≠ p7 ∧ w.heap.size ≤ p7 ∧ w.heap.size ≠ p8 ∧ (w.heap.size + 1) ≠ p8 ∧ w.heap.size ≤ p8 ∧ p7 ≠ p8)) ∨ (f = 7 ∧ L = #[true, true, true, true, true, true, false, false, false, false, true, true, false, false, false] ∧ ∃ (x33 : Value) (x34 : Value) (x35 : Value) (x36 : Value) (x37 : Value) (p7 : Nat) (p8 : Nat), a = { tmps := #[Value.agg #[Value.bool n, Value.string s], Value.int IntKind.i64 k, Value.pointer (some { block := w.heap.size, off := 0 }), undef, Value.pointer (some { block := w.heap.size + 1, off := 0 }), Value.slice ad N c, Value.int IntKind.i64 (↑N + 1), Value.pointer (some { block := p7, off := 0 }), Value.pointer (some { block := p8, off := 0 }), undef, Value.int IntKind.i64 k, Value.bool (decide (0 ≤ k)), undef, undef, undef, undef, undef, undef, undef, undef, Value.pointer (some { block := w.heap.size, off := 1 }), Value.string s, Value.slice ad N c, Value.slice ad N c, Value.int IntKind.i64 ↑N, Value.int IntKind.i64 (↑N + 1), Value.int IntKind.i64 k, Value.int IntKind.i64 (↑N + 1), Value.int IntKind.i64 (-(↑N + 1)), Value.bool false, undef, undef, undef, x33, x34, x35, x36, x37, Value.tuple #[Value.agg #[Value.bool z, Value.string o], Value.agg #[Value.bool z2, Value.string o2], Value.bool true], undef, undef, undef, undef], defers := [] } ∧ (fun w' => Below w.heap.size w w' ∧ (w'.cell? ⟨w.heap.size, 0, none⟩ = some (.bool n) ∧ w'.cell? ⟨w.heap.size, 1, none⟩ = some (.string s))) W ∧ Bk W p7 #[Value.bool false, Value.string { data := #[] }] ∧ Bk W p8 #[Value.bool false, Value.string { data := #[] }] ∧ Bk W (w.heap.size + 1) #[Value.bool false, Value.string { data := #[] }] ∧ (w.heap.size ≠ p7 ∧ (w.heap.size + 1) ≠ p7 ∧ w.heap.size ≤ p7 ∧ w.heap.size ≠ p8 ∧ (w.heap.size + 1) ≠ p8 ∧ w.heap.size ≤ p8 ∧ p7 ≠ p8)) ∨ (f = 4 ∧ L = #[true, true, true, true, true, true, true, true, true, true, true, false, false, false, false] ∧ ∃ (x33 : Value) (x34 : Value) (x35 : Value) (x36 : Value) (x37 : Value) (x38 : Value) (x32 : Value) (p7 : Nat), a = { tmps := #[Value.agg #[Value.bool n, Value.string s], Value.int IntKind.i64 k, Value.pointer (some { block := w.heap.size, off := 0 }), undef, Value.pointer (some { block := w.heap.size + 1, off := 0 }), Value.slice ad N c, Value.int IntKind.i64 (↑N + 1), Value.pointer (some { block := p7, off := 0 }), undef, undef, Value.int IntKind.i64 k, Value.bool (decide (0 ≤ k)), undef, undef, undef, undef, undef, undef, undef, undef, Value.pointer (some { block := w.heap.size, off := 1 }), Value.string s, Value.slice ad N c, Value.slice ad N c, Value.int IntKind.i64 ↑N, Value.int IntKind.i64 (↑N + 1), Value.int IntKind.i64 k, Value.int IntKind.i64 (↑N + 1), Value.int IntKind.i64 (-(↑N + 1)), Value.bool false, undef, undef, x32, x33, x34, x35, x36, x37, x38, Value.agg #[Value.bool z, Value.string o], Value.agg #[Value.bool z2, Value.string o2], Value.bool true, undef], defers := [] } ∧ (fun w' => Below w.heap.size w w' ∧ (w'.cell? ⟨w.heap.size, 0, none⟩ = some (.bool n) ∧ w'.cell? ⟨w.heap.size, 1, none⟩ = some (.string s))) W ∧ Bk W p7 #[Value.bool false, Value.string { data := #[] }] ∧ Bk W (w.heap.size + 1) #[Value.bool false, Value.string { data := #[] }] ∧ (w.heap.size ≠ p7 ∧ (w.heap.size + 1) ≠ p7 ∧ w.heap.size ≤ p7)) ∨ (f = 4 ∧ L = #[true, true, true, true, true, true, true, true, true, true, false, true, false, false, false] ∧ ∃ (x33 : Value) (x34 : Value) (x35 : Value) (x36 : Value) (x37 : Value) (x38 : Value) (x32 : Value) (p8 : Nat), a = { tmps := #[Value.agg #[Value.bool n, Value.string s], Value.int IntKind.i64 k, Value.pointer (some { block := w.heap.size, off := 0 }), undef, Value.pointer (some { block := w.heap.size + 1, off := 0 }), Value.slice ad N c, Value.int IntKind.i64 (↑N + 1), undef, Value.pointer (some { block := p8, off := 0 }), undef, Value.int IntKind.i64 k, Value.bool (decide (0 ≤ k)), undef, undef, undef, undef, undef, undef, undef, undef, Value.pointer (some { block := w.heap.size, off := 1 }), Value.string s, Value.slice ad N c, Value.slice ad N c, Value.int IntKind.i64 ↑N, Value.int IntKind.i64 (↑N + 1), Value.int IntKind.i64 k, Value.int IntKind.i64 (↑N + 1), Value.int IntKind.i64 (-(↑N + 1)), Value.bool false, undef, undef, x32, x33, x34, x35, x36, x37, x38, Value.agg #[Value.bool z, Value.string o], Value.agg #[Value.bool z2, Value.string o2], Value.bool true, undef], defers := [] } ∧ (fun w' => Below w.heap.size w w' ∧ (w'.cell? ⟨w.heap.size, 0, none⟩ = some (.bool n) ∧ w'.cell? ⟨w.heap.size, 1, none⟩ = some (.string s))) W ∧ Bk W p8 #[Value.bool false, Value.string { data := #[] }] ∧ Bk W (w.heap.size + 1) #[Value.bool false, Value.string { data := #[] }] ∧ (w.heap.size ≠ p8 ∧ (w.heap.size + 1) ≠ p8 ∧ w.heap.size ≤ p8)) ∨ (f = 3 ∧ L = #[true, true, true, true, true, true, true, true, true, true, true, true, false, false, false] ∧ ∃ (x33 : Value) (x34 : Value) (x35 : Value) (x36 : Value) (x37 : Value) (x38 : Value) (x32 : Value) (p7 : Nat) (p8 : Nat), a = { tmps := #[Value.agg #[Value.bool n, Value.string s], Value.int IntKind.i64 k, Value.pointer (some { block := w.heap.size, off := 0 }), undef, Value.pointer (some { block := w.heap.size + 1, off := 0 }), Value.slice ad N c, Value.int IntKind.i64 (↑N + 1), Value.pointer (some { block := p7, off := 0 }), Value.pointer (some { block := p8, off := 0 }), undef, Value.int IntKind.i64 k, Value.bool (decide (0 ≤ k)), undef, undef, undef, undef, undef, undef, undef, undef, Value.pointer (some { block := w.heap.size, off := 1 }), Value.string s, Value.slice ad N c, Value.slice ad N c, Value.int IntKind.i64 ↑N, Value.int IntKind.i64 (↑N + 1), Value.int IntKind.i64 k, Value.int IntKind.i64 (↑N + 1), Value.int IntKind.i64 (-(↑N + 1)), Value.bool false, undef, undef, x32, x33, x34, x35, x36, x37, x38, Value.agg #[Value.bool z, Value.string o], Value.agg #[Value.bool z2, Value.string o2], Value.bool true, undef], defers := [] } ∧ (fun w' => Below w.heap.size w w' ∧ (w'.cell? ⟨w.heap.size, 0, none⟩ = some (.bool n) ∧ w'.cell? ⟨w.heap.size, 1, none⟩ = some (.string s))) W ∧ Bk W p7 #[Value.bool false, Value.string { data := #[] }] ∧ Bk W p8 #[Value.bool false, Value.string { data := #[] }] ∧ Bk W (w.heap.size + 1) #[Value.bool false, Value.string { data := #[] }] ∧ (w.heap.size ≠ p7 ∧ (w.heap.size + 1) ≠ p7 ∧ w.heap.size ≤ p7 ∧ w.heap.size ≠ p8 ∧ (w.heap.size + 1) ≠ p8 ∧ w.heap.size ≤ p8 ∧ p7 ≠ p8)) ∨ (f = 2 ∧ L = #[true, true, true, true, true, true, true, true, true, true, true, true, true, false, false] ∧ ∃ (x33 : Value) (x34 : Value) (x35 : Value) (x36 : Value) (x37 : Value) (x38 : Value) (x32 : Value) (x39 : Value) (p7 : Nat) (p8 : Nat), a = { tmps := #[Value.agg #[Value.bool n, Value.string s], Value.int IntKind.i64 k, Value.pointer (some { block := w.heap.size, off := 0 }), undef, Value.pointer (some { block := w.heap.size + 1, off := 0 }), Value.slice ad N c, Value.int IntKind.i64 (↑N + 1), Value.pointer (some { block := p7, off := 0 }), Value.pointer (some { block := p8, off := 0 }), undef, Value.int IntKind.i64 k, Value.bool (decide (0 ≤ k)), undef, undef, undef, undef, undef, undef, undef, undef, Value.pointer (some { block := w.heap.size, off := 1 }), Value.string s, Value.slice ad N c, Value.slice ad N c, Value.int IntKind.i64 ↑N, Value.int IntKind.i64 (↑N + 1), Value.int IntKind.i64 k, Value.int IntKind.i64 (↑N + 1), Value.int IntKind.i64 (-(↑N + 1)), Value.bool false, undef, undef, x32, x33, x34, x35, x36, x37, x38, x39, Value.agg #[Value.bool z2, Value.string o2], Value.bool true, undef], defers := [] } ∧ (fun w' => Below w.heap.size w w' ∧ (w'.cell? ⟨w.heap.size, 0, none⟩ = some (.bool n) ∧ w'.cell? ⟨w.heap.size, 1, none⟩ = some (.string s))) W ∧ Bk W p7 #[Value.bool z, Value.string o] ∧ Bk W p8 #[Value.bool false, Value.string { data := #[] }] ∧ Bk W (w.heap.size + 1) #[Value.bool false, Value.string { data := #[] }] ∧ (w.heap.size ≠ p7 ∧ (w.heap.size + 1) ≠ p7 ∧ w.heap.size ≤ p7 ∧ w.heap.size ≠ p8 ∧ (w.heap.size + 1) ≠ p8 ∧ w.heap.size ≤ p8 ∧ p7 ≠ p8)) ∨ (f = 1 ∧ L = #[true, true, true, true, true, true, true, true, true, true, true, true, true, true, false] ∧ ∃ (x33 : Value) (x34 : Value) (x35 : Value) (x36 : Value) (x37 : Value) (x38 : Value) (x32 : Value) (x39 : Value) (x40 : Value) (x8 : Value) (p7 : Nat) (p8 : Nat), a = { tmps := #[Value.agg #[Value.bool n, Value.string s], Value.int IntKind.i64 k, Value.pointer (some { block := w.heap.size, off := 0 }), undef, Value.pointer (some { block := w.heap.size + 1, off := 0 }), Value.slice ad N c, Value.int IntKind.i64 (↑N + 1), Value.pointer (some { block := p7, off := 0 }), x8, undef, Value.int IntKind.i64 k, Value.bool (decide (0 ≤ k)), undef, undef, undef, undef, undef, undef, undef, undef, Value.pointer (some { block := w.heap.size, off := 1 }), Value.string s, Value.slice ad N c, Value.slice ad N c, Value.int IntKind.i64 ↑N, Value.int IntKind.i64 (↑N + 1), Value.int IntKind.i64 k, Value.int IntKind.i64 (↑N + 1), Value.int IntKind.i64 (-(↑N + 1)), Value.bool false, undef, undef, x32, x33, x34, x35, x36, x37, x38, x39, x40, Value.bool true, undef], defers := [] } ∧ (fun w' => Below w.heap.size w w' ∧ (w'.cell? ⟨w.heap.size, 0, none⟩ = some (.bool n) ∧ w'.cell? ⟨w.heap.size, 1, none⟩ = some (.string s))) W ∧ Bk W p7 #[Value.bool z, Value.string o] ∧ Bk W p8 #[Value.bool z2, Value.string o2] ∧ Bk W (w.heap.size + 1) #[Value.bool false, Value.string { data := #[] }] ∧ (w.heap.size ≠ p7 ∧ (w.heap.size + 1) ≠ p7 ∧ w.heap.size ≤ p7 ∧ w.heap.size ≠ p8 ∧ (w.heap.size + 1) ≠ p8 ∧ w.heap.size ≤ p8 ∧ p7 ≠ p8))) (by kernel_rfl) ?_ ?_
    · exact Or.inl (⟨rfl, rfl, rfl, hin, hC.drew⟩)
    · clear hin
      intro f L a W hI IH
      rcases hI with ⟨rfl, rfl, rfl, hS, hC⟩ | hI
      · refine wpAnyH_take (i := 0) (v := ?v0n25) rfl (by kernel_rfl) (by kernel_rfl) (by kernel_rfl) (fun _ _ _ h => h) (Or.inl ⟨by rfl, ?y0n25⟩) hS ?_
        case y0n25 => intro w hSw; (try dsimp only at hSw); go_simp; first | done | with_reducible rfl
        try simp only [Act.put, List.setIfInBounds_toArray, List.set_cons_zero]
        refine wpAnyH_take (i := 1) (v := ?v1n26) rfl (by kernel_rfl) (by kernel_rfl) (by kernel_rfl) (fun _ _ _ h => h) (Or.inl ⟨by rfl, ?y1n26⟩) hS ?_
        case y1n26 => intro w hSw; (try dsimp only at hSw); go_simp; first | done | with_reducible rfl
        try simp only [Act.put, List.setIfInBounds_toArray, List.set_cons_zero, List.set_cons_succ]
        refine wpAnyH_take (i := 2) (v := ?v2n27) rfl (by kernel_rfl) (by kernel_rfl) (by kernel_rfl) (fun _ _ _ h => h) (Or.inl ⟨by rfl, ?y2n27⟩) hS ?_
        case y2n27 => intro w hSw; (try dsimp only at hSw); go_simp; first | done | with_reducible rfl
        try simp only [Act.put, List.setIfInBounds_toArray, List.set_cons_zero, List.set_cons_succ]
        refine wpAnyH_ready (rs := [3, 10, 11]) (by kernel_rfl) (by simp) ?_
        refine AllReadyH.cons rfl (fun Kc hK => ?_) ?_
        · go_simp
          go_fit (use_rshl _ ⟨#[1]⟩ K P (by decide) (by omega) HP.out.1)
          rintro e V ⟨rfl, hq⟩
          refine hK.out _ _ (hb1 hq hS) (fun hS' => ?_)
          exact IH.out _ _ _ _ (by omega) (Or.inr (Or.inl (⟨rfl, by kernel_rfl, _, _, rfl, hS', hC.below hq⟩)))
        refine AllReadyH.cons rfl (fun Kc hK => ?_) ?_
        · have hlt : w.heap.size < W.heap.size ∧ (w.heap.size + 1) < W.heap.size := ⟨block_lt_of_cell hS.2.1, hC.lt⟩
          have hle := hS.1.size
          go_simp
          refine hK.out _ _ (ab1 hS) (fun hS' => ?_)
          exact IH.out _ _ _ _ (by omega) (Or.inr (Or.inr (Or.inl (⟨rfl, by kernel_rfl, _, _, rfl, hS', Bk.new _ _, hC.alloc _, (by omega)⟩))))
        refine AllReadyH.cons rfl (fun Kc hK => ?_) AllReadyH.nil
        have hlt : w.heap.size < W.heap.size ∧ (w.heap.size + 1) < W.heap.size := ⟨block_lt_of_cell hS.2.1, hC.lt⟩
        have hle := hS.1.size
        go_simp
        refine hK.out _ _ (ab1 hS) (fun hS' => ?_)
        exact IH.out _ _ _ _ (by omega) (Or.inr (Or.inr (Or.inr (Or.inl (⟨rfl, by kernel_rfl, _, _, rfl, hS', Bk.new _ _, hC.alloc _, (by omega)⟩)))))
      rcases hI with ⟨rfl, rfl, x34, x35, rfl, hS, hC⟩ | hI
      · refine wpAnyH_take (i := 4) (v := ?v4n28) rfl (by kernel_rfl) (by kernel_rfl) (by kernel_rfl) (fun _ _ _ h => h) (Or.inl ⟨by rfl, ?y4n28⟩) hS ?_
        case y4n28 => intro w hSw; (try dsimp only at hSw); go_simp; first | done | with_reducible rfl
        try simp only [Act.put, List.setIfInBounds_toArray, List.set_cons_zero, List.set_cons_succ]
        refine wpAnyH_ready (rs := [5, 10, 11]) (by kernel_rfl) (by simp) ?_
        refine AllReadyH.cons rfl (fun Kc hK => ?_) ?_
        · go_simp
          go_fit (rdiv_any _ n false s P (by omega) (by omega) HP.out.2.1 z o HP.out.2.2.1 z2 o2 HP.out.2.2.2)
          rintro e V ⟨rfl, hq⟩
          refine hK.out _ _ (hb1 hq hS) (fun hS' => ?_)
          exact IH.out _ _ _ _ (by omega) (Or.inr (Or.inr (Or.inr (Or.inr (Or.inr (Or.inr (Or.inr (Or.inl (⟨rfl, by kernel_rfl, _, _, _, _, _, rfl, hS', hC.below hq⟩)))))))))
        refine AllReadyH.cons rfl (fun Kc hK => ?_) ?_
        · have hlt : w.heap.size < W.heap.size ∧ (w.heap.size + 1) < W.heap.size := ⟨block_lt_of_cell hS.2.1, hC.lt⟩
          have hle := hS.1.size
          go_simp
          refine hK.out _ _ (ab1 hS) (fun hS' => ?_)
          exact IH.out _ _ _ _ (by omega) (Or.inr (Or.inr (Or.inr (Or.inr (Or.inr (Or.inr (Or.inr (Or.inr (Or.inl (⟨rfl, by kernel_rfl, _, _, _, _, rfl, hS', Bk.new _ _, hC.alloc _, (by omega)⟩))))))))))
        refine AllReadyH.cons rfl (fun Kc hK => ?_) AllReadyH.nil
        have hlt : w.heap.size < W.heap.size ∧ (w.heap.size + 1) < W.heap.size := ⟨block_lt_of_cell hS.2.1, hC.lt⟩
        have hle := hS.1.size
        go_simp
        refine hK.out _ _ (ab1 hS) (fun hS' => ?_)
        exact IH.out _ _ _ _ (by omega) (Or.inr (Or.inr (Or.inr (Or.inr (Or.inr (Or.inr (Or.inr (Or.inr (Or.inr (Or.inl (⟨rfl, by kernel_rfl, _, _, _, _, rfl, hS', Bk.new _ _, hC.alloc _, (by omega)⟩)))))))))))
      rcases hI with ⟨rfl, rfl, x34, p7, rfl, hS, hP7, hC, hd⟩ | hI
      · refine wpAnyH_ready (rs := [3, 11]) (by kernel_rfl) (by simp) ?_
        refine AllReadyH.cons rfl (fun Kc hK => ?_) ?_
        · go_simp
          go_fit (use_rshl _ ⟨#[1]⟩ K P (by decide) (by omega) HP.out.1)
          rintro e V ⟨rfl, hq⟩
          refine hK.out _ _ (hb1 hq hS) (fun hS' => ?_)
          exact IH.out _ _ _ _ (by omega) (Or.inr (Or.inr (Or.inr (Or.inr (Or.inl (⟨rfl, by kernel_rfl, _, _, _, rfl, hS', hP7.below hq, hC.below hq, hd⟩))))))
        refine AllReadyH.cons rfl (fun Kc hK => ?_) AllReadyH.nil
        have hlt : w.heap.size < W.heap.size ∧ (w.heap.size + 1) < W.heap.size ∧ p7 < W.heap.size := ⟨block_lt_of_cell hS.2.1, hC.lt, hP7.lt⟩
        have hle := hS.1.size
        go_simp
        refine hK.out _ _ (ab1 hS) (fun hS' => ?_)
        exact IH.out _ _ _ _ (by omega) (Or.inr (Or.inr (Or.inr (Or.inr (Or.inr (Or.inr (Or.inl (⟨rfl, by kernel_rfl, _, _, _, rfl, hS', hP7.alloc _, Bk.new _ _, hC.alloc _, (by omega)⟩))))))))
      rcases hI with ⟨rfl, rfl, x34, p8, rfl, hS, hP8, hC, hd⟩ | hI
      · refine wpAnyH_ready (rs := [3, 10]) (by kernel_rfl) (by simp) ?_
        refine AllReadyH.cons rfl (fun Kc hK => ?_) ?_
        · go_simp
          go_fit (use_rshl _ ⟨#[1]⟩ K P (by decide) (by omega) HP.out.1)
          rintro e V ⟨rfl, hq⟩
          refine hK.out _ _ (hb1 hq hS) (fun hS' => ?_)
          exact IH.out _ _ _ _ (by omega) (Or.inr (Or.inr (Or.inr (Or.inr (Or.inr (Or.inl (⟨rfl, by kernel_rfl, _, _, _, rfl, hS', hP8.below hq, hC.below hq, hd⟩)))))))
        refine AllReadyH.cons rfl (fun Kc hK => ?_) AllReadyH.nil
        have hlt : w.heap.size < W.heap.size ∧ (w.heap.size + 1) < W.heap.size ∧ p8 < W.heap.size := ⟨block_lt_of_cell hS.2.1, hC.lt, hP8.lt⟩
        have hle := hS.1.size
        go_simp
        refine hK.out _ _ (ab1 hS) (fun hS' => ?_)
        exact IH.out _ _ _ _ (by omega) (Or.inr (Or.inr (Or.inr (Or.inr (Or.inr (Or.inr (Or.inl (⟨rfl, by kernel_rfl, _, _, _, rfl, hS', Bk.new _ _, hP8.alloc _, hC.alloc _, (by omega)⟩))))))))
      rcases hI with ⟨rfl, rfl, x34, x35, p7, rfl, hS, hP7, hC, hd⟩ | hI
      · refine wpAnyH_take (i := 4) (v := ?v4n29) rfl (by kernel_rfl) (by kernel_rfl) (by kernel_rfl) (fun _ _ _ h => h) (Or.inl ⟨by rfl, ?y4n29⟩) hS ?_
        case y4n29 => intro w hSw; (try dsimp only at hSw); go_simp; first | done | with_reducible rfl
        try simp only [Act.put, List.setIfInBounds_toArray, List.set_cons_zero, List.set_cons_succ]
        refine wpAnyH_ready (rs := [5, 11]) (by kernel_rfl) (by simp) ?_
        refine AllReadyH.cons rfl (fun Kc hK => ?_) ?_
        · go_simp
          go_fit (rdiv_any _ n false s P (by omega) (by omega) HP.out.2.1 z o HP.out.2.2.1 z2 o2 HP.out.2.2.2)
          rintro e V ⟨rfl, hq⟩
          refine hK.out _ _ (hb1 hq hS) (fun hS' => ?_)
          exact IH.out _ _ _ _ (by omega) (Or.inr (Or.inr (Or.inr (Or.inr (Or.inr (Or.inr (Or.inr (Or.inr (Or.inr (Or.inr (Or.inr (Or.inl (⟨rfl, by kernel_rfl, _, _, _, _, _, _, rfl, hS', hP7.below hq, hC.below hq, hd⟩)))))))))))))
        refine AllReadyH.cons rfl (fun Kc hK => ?_) AllReadyH.nil
        have hlt : w.heap.size < W.heap.size ∧ (w.heap.size + 1) < W.heap.size ∧ p7 < W.heap.size := ⟨block_lt_of_cell hS.2.1, hC.lt, hP7.lt⟩
        have hle := hS.1.size
        go_simp
        refine hK.out _ _ (ab1 hS) (fun hS' => ?_)
        exact IH.out _ _ _ _ (by omega) (Or.inr (Or.inr (Or.inr (Or.inr (Or.inr (Or.inr (Or.inr (Or.inr (Or.inr (Or.inr (Or.inr (Or.inr (Or.inr (Or.inl (⟨rfl, by kernel_rfl, _, _, _, _, _, rfl, hS', hP7.alloc _, Bk.new _ _, hC.alloc _, (by omega)⟩)))))))))))))))
      rcases hI with ⟨rfl, rfl, x34, x35, p8, rfl, hS, hP8, hC, hd⟩ | hI
      · refine wpAnyH_take (i := 4) (v := ?v4n30) rfl (by kernel_rfl) (by kernel_rfl) (by kernel_rfl) (fun _ _ _ h => h) (Or.inl ⟨by rfl, ?y4n30⟩) hS ?_
        case y4n30 => intro w hSw; (try dsimp only at hSw); go_simp; first | done | with_reducible rfl
        try simp only [Act.put, List.setIfInBounds_toArray, List.set_cons_zero, List.set_cons_succ]
        refine wpAnyH_ready (rs := [5, 10]) (by kernel_rfl) (by simp) ?_
        refine AllReadyH.cons rfl (fun Kc hK => ?_) ?_
        · go_simp
          go_fit (rdiv_any _ n false s P (by omega) (by omega) HP.out.2.1 z o HP.out.2.2.1 z2 o2 HP.out.2.2.2)
          rintro e V ⟨rfl, hq⟩
          refine hK.out _ _ (hb1 hq hS) (fun hS' => ?_)
          exact IH.out _ _ _ _ (by omega) (Or.inr (Or.inr (Or.inr (Or.inr (Or.inr (Or.inr (Or.inr (Or.inr (Or.inr (Or.inr (Or.inr (Or.inr (Or.inl (⟨rfl, by kernel_rfl, _, _, _, _, _, _, rfl, hS', hP8.below hq, hC.below hq, hd⟩))))))))))))))
        refine AllReadyH.cons rfl (fun Kc hK => ?_) AllReadyH.nil
        have hlt : w.heap.size < W.heap.size ∧ (w.heap.size + 1) < W.heap.size ∧ p8 < W.heap.size := ⟨block_lt_of_cell hS.2.1, hC.lt, hP8.lt⟩
        have hle := hS.1.size
        go_simp
        refine hK.out _ _ (ab1 hS) (fun hS' => ?_)
        exact IH.out _ _ _ _ (by omega) (Or.inr (Or.inr (Or.inr (Or.inr (Or.inr (Or.inr (Or.inr (Or.inr (Or.inr (Or.inr (Or.inr (Or.inr (Or.inr (Or.inl (⟨rfl, by kernel_rfl, _, _, _, _, _, rfl, hS', Bk.new _ _, hP8.alloc _, hC.alloc _, (by omega)⟩)))))))))))))))
      rcases hI with ⟨rfl, rfl, x34, p7, p8, rfl, hS, hP7, hP8, hC, hd⟩ | hI
      · refine wpAnyH_ready (rs := [3]) (by kernel_rfl) (by simp) ?_
        refine AllReadyH.cons rfl (fun Kc hK => ?_) AllReadyH.nil
        go_simp
        go_fit (use_rshl _ ⟨#[1]⟩ K P (by decide) (by omega) HP.out.1)
        rintro e V ⟨rfl, hq⟩
        refine hK.out _ _ (hb1 hq hS) (fun hS' => ?_)
        exact IH.out _ _ _ _ (by omega) (Or.inr (Or.inr (Or.inr (Or.inr (Or.inr (Or.inr (Or.inr (Or.inr (Or.inr (Or.inr (Or.inl (⟨rfl, by kernel_rfl, _, _, _, _, rfl, hS', hP7.below hq, hP8.below hq, hC.below hq, hd⟩))))))))))))
      rcases hI with ⟨rfl, rfl, x33, x34, x35, x36, x37, rfl, hS, hC⟩ | hI
      · refine wpAnyH_take (i := 6) (v := ?v6n31) rfl (by kernel_rfl) (by kernel_rfl) (by kernel_rfl) (fun _ _ _ h => h) (Or.inl ⟨by rfl, ?y6n31⟩) hS ?_
        case y6n31 => intro w hSw; (try dsimp only at hSw); go_simp; first | done | with_reducible rfl
        try simp only [Act.put, List.setIfInBounds_toArray, List.set_cons_zero, List.set_cons_succ]
        refine wpAnyH_take (i := 7) (v := ?v7n32) rfl (by kernel_rfl) (by kernel_rfl) (by kernel_rfl) (fun _ _ _ h => h) (Or.inl ⟨by rfl, ?y7n32⟩) hS ?_
        case y7n32 => intro w hSw; (try dsimp only at hSw); go_simp; first | done | with_reducible rfl
        try simp only [Act.put, List.setIfInBounds_toArray, List.set_cons_zero, List.set_cons_succ]
        refine wpAnyH_take (i := 8) (v := ?v8n33) rfl (by kernel_rfl) (by kernel_rfl) (by kernel_rfl) (fun _ _ _ h => h) (Or.inl ⟨by rfl, ?y8n33⟩) hS ?_
        case y8n33 => intro w hSw; (try dsimp only at hSw); go_simp; first | done | with_reducible rfl
        try simp only [Act.put, List.setIfInBounds_toArray, List.set_cons_zero, List.set_cons_succ]
        refine wpAnyH_take (i := 9) (v := ?v9n34) rfl (by kernel_rfl) (by kernel_rfl) (by kernel_rfl) (fun _ _ _ h => h) (Or.inl ⟨by rfl, ?y9n34⟩) hS ?_
        case y9n34 => intro w hSw; (try dsimp only at hSw); go_simp; first | done | with_reducible rfl
        try simp only [Act.put, List.setIfInBounds_toArray, List.set_cons_zero, List.set_cons_succ]
        refine wpAnyH_ready (rs := [10, 11]) (by kernel_rfl) (by simp) ?_
        refine AllReadyH.cons rfl (fun Kc hK => ?_) ?_
        · have hlt : w.heap.size < W.heap.size ∧ (w.heap.size + 1) < W.heap.size := ⟨block_lt_of_cell hS.2.1, hC.lt⟩
          have hle := hS.1.size
          go_simp
          refine hK.out _ _ (ab1 hS) (fun hS' => ?_)
          exact IH.out _ _ _ _ (by omega) (Or.inr (Or.inr (Or.inr (Or.inr (Or.inr (Or.inr (Or.inr (Or.inr (Or.inr (Or.inr (Or.inr (Or.inr (Or.inr (Or.inr (Or.inr (Or.inl (⟨rfl, by kernel_rfl, _, _, _, _, _, _, _, _, rfl, hS', Bk.new _ _, hC.alloc _, (by omega)⟩)))))))))))))))))
        refine AllReadyH.cons rfl (fun Kc hK => ?_) AllReadyH.nil
        have hlt : w.heap.size < W.heap.size ∧ (w.heap.size + 1) < W.heap.size := ⟨block_lt_of_cell hS.2.1, hC.lt⟩
        have hle := hS.1.size
        go_simp
        refine hK.out _ _ (ab1 hS) (fun hS' => ?_)
        exact IH.out _ _ _ _ (by omega) (Or.inr (Or.inr (Or.inr (Or.inr (Or.inr (Or.inr (Or.inr (Or.inr (Or.inr (Or.inr (Or.inr (Or.inr (Or.inr (Or.inr (Or.inr (Or.inr (Or.inl (⟨rfl, by kernel_rfl, _, _, _, _, _, _, _, _, rfl, hS', Bk.new _ _, hC.alloc _, (by omega)⟩))))))))))))))))))
      rcases hI with ⟨rfl, rfl, x34, x35, x36, p7, rfl, hS, hP7, hC, hd⟩ | hI
      · refine wpAnyH_ready (rs := [5, 11]) (by kernel_rfl) (by simp) ?_
        refine AllReadyH.cons rfl (fun Kc hK => ?_) ?_
        · go_simp
          go_fit (rdiv_any _ n false s P (by omega) (by omega) HP.out.2.1 z o HP.out.2.2.1 z2 o2 HP.out.2.2.2)
          rintro e V ⟨rfl, hq⟩
          refine hK.out _ _ (hb1 hq hS) (fun hS' => ?_)
          exact IH.out _ _ _ _ (by omega) (Or.inr (Or.inr (Or.inr (Or.inr (Or.inr (Or.inr (Or.inr (Or.inr (Or.inr (Or.inr (Or.inr (Or.inl (⟨rfl, by kernel_rfl, _, _, _, _, _, _, rfl, hS', hP7.below hq, hC.below hq, hd⟩)))))))))))))
        refine AllReadyH.cons rfl (fun Kc hK => ?_) AllReadyH.nil
        have hlt : w.heap.size < W.heap.size ∧ (w.heap.size + 1) < W.heap.size ∧ p7 < W.heap.size := ⟨block_lt_of_cell hS.2.1, hC.lt, hP7.lt⟩
        have hle := hS.1.size
        go_simp
        refine hK.out _ _ (ab1 hS) (fun hS' => ?_)
        exact IH.out _ _ _ _ (by omega) (Or.inr (Or.inr (Or.inr (Or.inr (Or.inr (Or.inr (Or.inr (Or.inr (Or.inr (Or.inr (Or.inr (Or.inr (Or.inr (Or.inl (⟨rfl, by kernel_rfl, _, _, _, _, _, rfl, hS', hP7.alloc _, Bk.new _ _, hC.alloc _, (by omega)⟩)))))))))))))))
      rcases hI with ⟨rfl, rfl, x34, x35, x36, p8, rfl, hS, hP8, hC, hd⟩ | hI
      · refine wpAnyH_ready (rs := [5, 10]) (by kernel_rfl) (by simp) ?_
        refine AllReadyH.cons rfl (fun Kc hK => ?_) ?_
        · go_simp
          go_fit (rdiv_any _ n false s P (by omega) (by omega) HP.out.2.1 z o HP.out.2.2.1 z2 o2 HP.out.2.2.2)
          rintro e V ⟨rfl, hq⟩
          refine hK.out _ _ (hb1 hq hS) (fun hS' => ?_)
          exact IH.out _ _ _ _ (by omega) (Or.inr (Or.inr (Or.inr (Or.inr (Or.inr (Or.inr (Or.inr (Or.inr (Or.inr (Or.inr (Or.inr (Or.inr (Or.inl (⟨rfl, by kernel_rfl, _, _, _, _, _, _, rfl, hS', hP8.below hq, hC.below hq, hd⟩))))))))))))))
        refine AllReadyH.cons rfl (fun Kc hK => ?_) AllReadyH.nil
        have hlt : w.heap.size < W.heap.size ∧ (w.heap.size + 1) < W.heap.size ∧ p8 < W.heap.size := ⟨block_lt_of_cell hS.2.1, hC.lt, hP8.lt⟩
        have hle := hS.1.size
        go_simp
        refine hK.out _ _ (ab1 hS) (fun hS' => ?_)
        exact IH.out _ _ _ _ (by omega) (Or.inr (Or.inr (Or.inr (Or.inr (Or.inr (Or.inr (Or.inr (Or.inr (Or.inr (Or.inr (Or.inr (Or.inr (Or.inr (Or.inl (⟨rfl, by kernel_rfl, _, _, _, _, _, rfl, hS', Bk.new _ _, hP8.alloc _, hC.alloc _, (by omega)⟩)))))))))))))))
      rcases hI with ⟨rfl, rfl, x34, x35, p7, p8, rfl, hS, hP7, hP8, hC, hd⟩ | hI
      · refine wpAnyH_take (i := 4) (v := ?v4n35) rfl (by kernel_rfl) (by kernel_rfl) (by kernel_rfl) (fun _ _ _ h => h) (Or.inl ⟨by rfl, ?y4n35⟩) hS ?_
        case y4n35 => intro w hSw; (try dsimp only at hSw); go_simp; first | done | with_reducible rfl
        try simp only [Act.put, List.setIfInBounds_toArray, List.set_cons_zero, List.set_cons_succ]
        refine wpAnyH_ready (rs := [5]) (by kernel_rfl) (by simp) ?_
        refine AllReadyH.cons rfl (fun Kc hK => ?_) AllReadyH.nil
        go_simp
        go_fit (rdiv_any _ n false s P (by omega) (by omega) HP.out.2.1 z o HP.out.2.2.1 z2 o2 HP.out.2.2.2)
        rintro e V ⟨rfl, hq⟩
        refine hK.out _ _ (hb1 hq hS) (fun hS' => ?_)
        exact IH.out _ _ _ _ (by omega) (Or.inr (Or.inr (Or.inr (Or.inr (Or.inr (Or.inr (Or.inr (Or.inr (Or.inr (Or.inr (Or.inr (Or.inr (Or.inr (Or.inr (Or.inl (⟨rfl, by kernel_rfl, _, _, _, _, _, _, _, rfl, hS', hP7.below hq, hP8.below hq, hC.below hq, hd⟩))))))))))))))))
      rcases hI with ⟨rfl, rfl, x33, x34, x35, x36, x37, p7, rfl, hS, hP7, hC, hd⟩ | hI
      · refine wpAnyH_take (i := 6) (v := ?v6n36) rfl (by kernel_rfl) (by kernel_rfl) (by kernel_rfl) (fun _ _ _ h => h) (Or.inl ⟨by rfl, ?y6n36⟩) hS ?_
        case y6n36 => intro w hSw; (try dsimp only at hSw); go_simp; first | done | with_reducible rfl
        try simp only [Act.put, List.setIfInBounds_toArray, List.set_cons_zero, List.set_cons_succ]
        refine wpAnyH_take (i := 7) (v := ?v7n37) rfl (by kernel_rfl) (by kernel_rfl) (by kernel_rfl) (fun _ _ _ h => h) (Or.inl ⟨by rfl, ?y7n37⟩) hS ?_
        case y7n37 => intro w hSw; (try dsimp only at hSw); go_simp; first | done | with_reducible rfl
        try simp only [Act.put, List.setIfInBounds_toArray, List.set_cons_zero, List.set_cons_succ]
        refine wpAnyH_take (i := 8) (v := ?v8n38) rfl (by kernel_rfl) (by kernel_rfl) (by kernel_rfl) (fun _ _ _ h => h) (Or.inl ⟨by rfl, ?y8n38⟩) hS ?_
        case y8n38 => intro w hSw; (try dsimp only at hSw); go_simp; first | done | with_reducible rfl
        try simp only [Act.put, List.setIfInBounds_toArray, List.set_cons_zero, List.set_cons_succ]
        refine wpAnyH_take (i := 9) (v := ?v9n39) rfl (by kernel_rfl) (by kernel_rfl) (by kernel_rfl) (fun _ _ _ h => h) (Or.inl ⟨by rfl, ?y9n39⟩) hS ?_
        case y9n39 => intro w hSw; (try dsimp only at hSw); go_simp; first | done | with_reducible rfl
        try simp only [Act.put, List.setIfInBounds_toArray, List.set_cons_zero, List.set_cons_succ]
        refine wpAnyH_ready (rs := [11]) (by kernel_rfl) (by simp) ?_
        refine AllReadyH.cons rfl (fun Kc hK => ?_) AllReadyH.nil
        have hlt : w.heap.size < W.heap.size ∧ (w.heap.size + 1) < W.heap.size ∧ p7 < W.heap.size := ⟨block_lt_of_cell hS.2.1, hC.lt, hP7.lt⟩
        have hle := hS.1.size
        go_simp
        refine hK.out _ _ (ab1 hS) (fun hS' => ?_)
        exact IH.out _ _ _ _ (by omega) (Or.inr (Or.inr (Or.inr (Or.inr (Or.inr (Or.inr (Or.inr (Or.inr (Or.inr (Or.inr (Or.inr (Or.inr (Or.inr (Or.inr (Or.inr (Or.inr (Or.inr (Or.inl (⟨rfl, by kernel_rfl, _, _, _, _, _, _, _, _, _, rfl, hS', hP7.alloc _, Bk.new _ _, hC.alloc _, (by omega)⟩)))))))))))))))))))
      rcases hI with ⟨rfl, rfl, x33, x34, x35, x36, x37, p8, rfl, hS, hP8, hC, hd⟩ | hI
      · refine wpAnyH_take (i := 6) (v := ?v6n40) rfl (by kernel_rfl) (by kernel_rfl) (by kernel_rfl) (fun _ _ _ h => h) (Or.inl ⟨by rfl, ?y6n40⟩) hS ?_
        case y6n40 => intro w hSw; (try dsimp only at hSw); go_simp; first | done | with_reducible rfl
        try simp only [Act.put, List.setIfInBounds_toArray, List.set_cons_zero, List.set_cons_succ]
        refine wpAnyH_take (i := 7) (v := ?v7n41) rfl (by kernel_rfl) (by kernel_rfl) (by kernel_rfl) (fun _ _ _ h => h) (Or.inl ⟨by rfl, ?y7n41⟩) hS ?_
        case y7n41 => intro w hSw; (try dsimp only at hSw); go_simp; first | done | with_reducible rfl
        try simp only [Act.put, List.setIfInBounds_toArray, List.set_cons_zero, List.set_cons_succ]
        refine wpAnyH_take (i := 8) (v := ?v8n42) rfl (by kernel_rfl) (by kernel_rfl) (by kernel_rfl) (fun _ _ _ h => h) (Or.inl ⟨by rfl, ?y8n42⟩) hS ?_
        case y8n42 => intro w hSw; (try dsimp only at hSw); go_simp; first | done | with_reducible rfl
        try simp only [Act.put, List.setIfInBounds_toArray, List.set_cons_zero, List.set_cons_succ]
        refine wpAnyH_take (i := 9) (v := ?v9n43) rfl (by kernel_rfl) (by kernel_rfl) (by kernel_rfl) (fun _ _ _ h => h) (Or.inl ⟨by rfl, ?y9n43⟩) hS ?_
        case y9n43 => intro w hSw; (try dsimp only at hSw); go_simp; first | done | with_reducible rfl
        try simp only [Act.put, List.setIfInBounds_toArray, List.set_cons_zero, List.set_cons_succ]
        refine wpAnyH_ready (rs := [10]) (by kernel_rfl) (by simp) ?_
        refine AllReadyH.cons rfl (fun Kc hK => ?_) AllReadyH.nil
        have hlt : w.heap.size < W.heap.size ∧ (w.heap.size + 1) < W.heap.size ∧ p8 < W.heap.size := ⟨block_lt_of_cell hS.2.1, hC.lt, hP8.lt⟩
        have hle := hS.1.size
        go_simp
        refine hK.out _ _ (ab1 hS) (fun hS' => ?_)
        exact IH.out _ _ _ _ (by omega) (Or.inr (Or.inr (Or.inr (Or.inr (Or.inr (Or.inr (Or.inr (Or.inr (Or.inr (Or.inr (Or.inr (Or.inr (Or.inr (Or.inr (Or.inr (Or.inr (Or.inr (Or.inl (⟨rfl, by kernel_rfl, _, _, _, _, _, _, _, _, _, rfl, hS', Bk.new _ _, hP8.alloc _, hC.alloc _, (by omega)⟩)))))))))))))))))))
      rcases hI with ⟨rfl, rfl, x34, x35, x36, p7, p8, rfl, hS, hP7, hP8, hC, hd⟩ | hI
      · refine wpAnyH_ready (rs := [5]) (by kernel_rfl) (by simp) ?_
        refine AllReadyH.cons rfl (fun Kc hK => ?_) AllReadyH.nil
        go_simp
        go_fit (rdiv_any _ n false s P (by omega) (by omega) HP.out.2.1 z o HP.out.2.2.1 z2 o2 HP.out.2.2.2)
        rintro e V ⟨rfl, hq⟩
        refine hK.out _ _ (hb1 hq hS) (fun hS' => ?_)
        exact IH.out _ _ _ _ (by omega) (Or.inr (Or.inr (Or.inr (Or.inr (Or.inr (Or.inr (Or.inr (Or.inr (Or.inr (Or.inr (Or.inr (Or.inr (Or.inr (Or.inr (Or.inl (⟨rfl, by kernel_rfl, _, _, _, _, _, _, _, rfl, hS', hP7.below hq, hP8.below hq, hC.below hq, hd⟩))))))))))))))))
      rcases hI with ⟨rfl, rfl, x33, x34, x35, x36, x37, p7, p8, rfl, hS, hP7, hP8, hC, hd⟩ | hI
      · refine wpAnyH_take (i := 6) (v := ?v6n44) rfl (by kernel_rfl) (by kernel_rfl) (by kernel_rfl) (fun _ _ _ h => h) (Or.inl ⟨by rfl, ?y6n44⟩) hS ?_
        case y6n44 => intro w hSw; (try dsimp only at hSw); go_simp; first | done | with_reducible rfl
        try simp only [Act.put, List.setIfInBounds_toArray, List.set_cons_zero, List.set_cons_succ]
        refine wpAnyH_take (i := 7) (v := ?v7n45) rfl (by kernel_rfl) (by kernel_rfl) (by kernel_rfl) (fun _ _ _ h => h) (Or.inl ⟨by rfl, ?y7n45⟩) hS ?_
        case y7n45 => intro w hSw; (try dsimp only at hSw); go_simp; first | done | with_reducible rfl
        try simp only [Act.put, List.setIfInBounds_toArray, List.set_cons_zero, List.set_cons_succ]
        refine wpAnyH_take (i := 8) (v := ?v8n46) rfl (by kernel_rfl) (by kernel_rfl) (by kernel_rfl) (fun _ _ _ h => h) (Or.inl ⟨by rfl, ?y8n46⟩) hS ?_
        case y8n46 => intro w hSw; (try dsimp only at hSw); go_simp; first | done | with_reducible rfl
        try simp only [Act.put, List.setIfInBounds_toArray, List.set_cons_zero, List.set_cons_succ]
        refine wpAnyH_take (i := 9) (v := ?v9n47) rfl (by kernel_rfl) (by kernel_rfl) (by kernel_rfl) (fun _ _ _ h => h) (Or.inl ⟨by rfl, ?y9n47⟩) hS ?_
        case y9n47 => intro w hSw; (try dsimp only at hSw); go_simp; first | done | with_reducible rfl
        try simp only [Act.put, List.setIfInBounds_toArray, List.set_cons_zero, List.set_cons_succ]
        refine wpAnyH_ready (rs := [12]) (by kernel_rfl) (by simp) ?_
        refine AllReadyH.cons rfl (fun Kc hK => ?_) AllReadyH.nil
        obtain ⟨q0, q1, q2, q3⟩ := hP7.facts
        go_simp
        refine hK.out _ _ (sb1 hS (by omega) (by omega)) (fun hS' => ?_)
        exact IH.out _ _ _ _ (by omega) (Or.inr (Or.inr (Or.inr (Or.inr (Or.inr (Or.inr (Or.inr (Or.inr (Or.inr (Or.inr (Or.inr (Or.inr (Or.inr (Or.inr (Or.inr (Or.inr (Or.inr (Or.inr (Or.inl (⟨rfl, by kernel_rfl, _, _, _, _, _, _, _, _, _, _, rfl, hS', hP7.set_ _ _, hP8.far2 (by omega) _ _, hC.far2 (by omega) _ _, hd⟩))))))))))))))))))))
      rcases hI with ⟨rfl, rfl, x33, x34, x35, x36, x37, x38, x32, p7, rfl, hS, hP7, hC, hd⟩ | hI
      · refine wpAnyH_ready (rs := [11]) (by kernel_rfl) (by simp) ?_
        refine AllReadyH.cons rfl (fun Kc hK => ?_) AllReadyH.nil
        have hlt : w.heap.size < W.heap.size ∧ (w.heap.size + 1) < W.heap.size ∧ p7 < W.heap.size := ⟨block_lt_of_cell hS.2.1, hC.lt, hP7.lt⟩
        have hle := hS.1.size
        go_simp
        refine hK.out _ _ (ab1 hS) (fun hS' => ?_)
        exact IH.out _ _ _ _ (by omega) (Or.inr (Or.inr (Or.inr (Or.inr (Or.inr (Or.inr (Or.inr (Or.inr (Or.inr (Or.inr (Or.inr (Or.inr (Or.inr (Or.inr (Or.inr (Or.inr (Or.inr (Or.inl (⟨rfl, by kernel_rfl, _, _, _, _, _, _, _, _, _, rfl, hS', hP7.alloc _, Bk.new _ _, hC.alloc _, (by omega)⟩)))))))))))))))))))
      rcases hI with ⟨rfl, rfl, x33, x34, x35, x36, x37, x38, x32, p8, rfl, hS, hP8, hC, hd⟩ | hI
      · refine wpAnyH_ready (rs := [10]) (by kernel_rfl) (by simp) ?_
        refine AllReadyH.cons rfl (fun Kc hK => ?_) AllReadyH.nil
        have hlt : w.heap.size < W.heap.size ∧ (w.heap.size + 1) < W.heap.size ∧ p8 < W.heap.size := ⟨block_lt_of_cell hS.2.1, hC.lt, hP8.lt⟩
        have hle := hS.1.size
        go_simp
        refine hK.out _ _ (ab1 hS) (fun hS' => ?_)
        exact IH.out _ _ _ _ (by omega) (Or.inr (Or.inr (Or.inr (Or.inr (Or.inr (Or.inr (Or.inr (Or.inr (Or.inr (Or.inr (Or.inr (Or.inr (Or.inr (Or.inr (Or.inr (Or.inr (Or.inr (Or.inl (⟨rfl, by kernel_rfl, _, _, _, _, _, _, _, _, _, rfl, hS', Bk.new _ _, hP8.alloc _, hC.alloc _, (by omega)⟩)))))))))))))))))))
      rcases hI with ⟨rfl, rfl, x33, x34, x35, x36, x37, x38, x32, p7, p8, rfl, hS, hP7, hP8, hC, hd⟩ | hI
      · refine wpAnyH_ready (rs := [12]) (by kernel_rfl) (by simp) ?_
        refine AllReadyH.cons rfl (fun Kc hK => ?_) AllReadyH.nil
        obtain ⟨q0, q1, q2, q3⟩ := hP7.facts
        go_simp
        refine hK.out _ _ (sb1 hS (by omega) (by omega)) (fun hS' => ?_)
        exact IH.out _ _ _ _ (by omega) (Or.inr (Or.inr (Or.inr (Or.inr (Or.inr (Or.inr (Or.inr (Or.inr (Or.inr (Or.inr (Or.inr (Or.inr (Or.inr (Or.inr (Or.inr (Or.inr (Or.inr (Or.inr (Or.inl (⟨rfl, by kernel_rfl, _, _, _, _, _, _, _, _, _, _, rfl, hS', hP7.set_ _ _, hP8.far2 (by omega) _ _, hC.far2 (by omega) _ _, hd⟩))))))))))))))))))))
      rcases hI with ⟨rfl, rfl, x33, x34, x35, x36, x37, x38, x32, x39, p7, p8, rfl, hS, hP7, hP8, hC, hd⟩ | hI
      · refine wpAnyH_ready (rs := [13]) (by kernel_rfl) (by simp) ?_
        refine AllReadyH.cons rfl (fun Kc hK => ?_) AllReadyH.nil
        obtain ⟨q0, q1, q2, q3⟩ := hP8.facts
        go_simp
        refine hK.out _ _ (sb1 hS (by omega) (by omega)) (fun hS' => ?_)
        exact IH.out _ _ _ _ (by omega) (Or.inr (Or.inr (Or.inr (Or.inr (Or.inr (Or.inr (Or.inr (Or.inr (Or.inr (Or.inr (Or.inr (Or.inr (Or.inr (Or.inr (Or.inr (Or.inr (Or.inr (Or.inr (Or.inr (⟨rfl, by kernel_rfl, _, _, _, _, _, _, _, _, _, _, _, _, rfl, hS', hP7.far2 (by omega) _ _, hP8.set_ _ _, hC.far2 (by omega) _ _, hd⟩))))))))))))))))))))
      obtain ⟨rfl, rfl, x33, x34, x35, x36, x37, x38, x32, x39, x40, x8, p7, p8, rfl, hS, hP7, hP8, hC, hd⟩ := hI
      refine wpAnyH_take (i := 14) (v := ?v14n48) rfl (by kernel_rfl) (by kernel_rfl) (by kernel_rfl) (fun _ _ _ h => h) (Or.inl ⟨by rfl, ?y14n48⟩) hS ?_
      case y14n48 => intro w hSw; (try dsimp only at hSw); go_simp; first | done | with_reducible rfl
      try simp only [Act.put, List.setIfInBounds_toArray, List.set_cons_zero, List.set_cons_succ]
      refine wpAnyH_done (by kernel_rfl) ?_ _
      obtain ⟨hP70, hP71⟩ := hP7.cells
      obtain ⟨hC0, hC1, hC2, hC3⟩ := hC.facts
      go_wp2
      exact ret_whole rfl rfl (hC.set_ _ _) ⟨rfl, below_set2 hS.1 (by omega) _ _ _ _⟩

/-- Shift, by whatever number of bits. -/
theorem rshift_any (w : World) (n : Bool) (s : ByteArray) (k : Int) (hs : s.size ≤ 10000) (hk1 : -9223372036854775808 ≤ k) (hk2 : k ≤ 100000) (z : Bool) (o : ByteArray) (hz : wf (shiftI (wv n s) k) = wi z o) :
    Calls Tryz.prog 108 #[wi n s, .int .i64 k] w (Ret (.agg #[.bool z, .string o]) w) := by
  by_cases h : 0 ≤ k
  · exact rshift_up w n s k hs h hk2 z o hz
  · exact rshift_down w n s k hs (by omega) hk1 z o hz
end Go.Proofs.YtpahmnifkinpiaaGreatDoor
