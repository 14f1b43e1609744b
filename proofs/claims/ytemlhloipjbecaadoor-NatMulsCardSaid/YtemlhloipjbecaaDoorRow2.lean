/- What minusTimes does to a block of digits, walked. -/
import Derived.Test.YtemlhloipjbecaaDoorRow1
namespace Go.Proofs.YtemlhloipjbecaaDoor
open Go.RowKit Go.Shelf

set_option maxHeartbeats 400000 in
theorem minusTimes_any (w : World) (db doff dc xb xoff xc : Nat) (T : TypeId) (pre post : List Value) (ds xs : List Nat) (n : Nat)
    (hd : Rw w db T (pre ++ ds.map dg ++ post)) (hpre : pre.length = doff) (hx : Ds w xb xoff xs) (hne : xb ≠ db) (hdd : Dig ds) (hdx : Dig xs) (hn : n < B64)
    (hle : xs.length ≤ ds.length) (hmax : ds.length ≤ 1000000000000) :
    Calls Tryd.prog 45 #[.slice (some ⟨db, doff, none⟩) ds.length dc, .slice (some ⟨xb, xoff, none⟩) xs.length xc, .int .u64 n] w
      fun e w' => ∃ (es : List Nat) (o : Nat), e = .returned (.int .u64 o) ∧ Rw w' db T (pre ++ es.map dg ++ post) ∧ w.grownBy w' (some db) ∧ es.length = ds.length ∧ Dig es ∧ o < B64 ∧
        val es + n * val xs = val ds + B64 ^ ds.length * o := by
  subst hpre
  have hPT0 : PT w w db T pre post ds (RM (val (ds.take 0)) (n * val (xs.take 0)) 0 0) 0 0 := ⟨[], rfl, Dig.nil, B64_pos, by simpa using hd, World.grownBy.refl w _, by simp [val, RM]⟩
  go_enter Tryd.func45, Tryd.ntmps45
  go_wp2
  go_loopw [7, 16] (fun o i wr => ∃ k ov : Nat, k ≤ xs.length ∧ i = .int .i64 k ∧ o = .int .u64 ov ∧ PT w wr db T pre post ds (RM (val (ds.take k)) (n * val (xs.take k)) k ov) k ov)
    (fun _ i _ => xs.length - (intOf i).toNat)
  case atStart => exact ⟨0, 0, Nat.zero_le _, rfl, rfl, hPT0⟩
  case round =>
    obtain ⟨k, ov, hk, rfl, rfl, hPT⟩ := hrel
    by_cases hlt : k < xs.length
    · have hcx : wr.cell? ⟨xb, xoff + k, none⟩ = some (dg xs[k]) := by
        exact (hx.grown hPT.grown (by simpa using hne)) k hlt
      have hcd := hPT.cell (show k < ds.length by omega)
      have hfr : wr.frozen? ⟨db, pre.length + k, none⟩ = false := hPT.frozen _
      have hov : ov < B64 := hPT.lt
      have hmB := hdx.get hlt
      have hdB := hdd.get (show k < ds.length by omega)
      obtain ⟨m, hm⟩ : ∃ m, m = xs[k] := ⟨_, rfl⟩
      obtain ⟨d, hdk⟩ : ∃ d, d = ds[k]'(by omega) := ⟨_, rfl⟩
      rw [← hm] at hcx hmB
      rw [← hdk] at hcd hdB
      have Hm := Lib.hid hm; clear hm
      have Hd := Lib.hid hdk; clear hdk
      unfold dg at hcx hcd
      have hkd : k < ds.length := by omega
      go_wp2_with (first
        | (go_at_call 66; refine (mul64_any m n hmB hn _).mono ?_; rintro e w' ⟨hi, lo, rfl, hmul, rfl⟩; obtain ⟨s1, c1, hr1, hs1⟩ := add64_ex lo ov hmul.2.1 hov; obtain ⟨s2, c2, hr2, hs2⟩ := sub64_ex d s1 hdB hs1.2.1; have hdig := digit_minus hdB hmB hn hov hmul.1 hmul.2.1 hs1.1 hs1.2.1 hs2.1 hs2.2.1; have hw1 := wrap_u64 hi c1 hdig.1; have hw2 := wrap_u64' hi c1 c2 hdig.2.1; have Hdig := Lib.hid hdig; clear hdig)
        )
      go_roundw
      case rel =>
        obtain ⟨_, g2, g3⟩ := Hdig.out
        refine ⟨k + 1, hi + c1 + c2, by omega, by go_num, by go_num, ?_⟩
        rw [take_succ_val ds hkd, take_succ_val xs hlt, ← Hm.out, ← Hd.out]
        exact hPT.step hkd hs2.2.1 g2 fun E hE => minus_step (o' := hi + c1 + c2) hE g3
      case measure => simp [intOf]; omega
    · have hkx : k = xs.length := by omega
      subst hkx
      rw [List.take_length] at hPT
      have hPT2 : PT w wr db T pre post ds (RM (val (ds.take xs.length)) (n * val xs) xs.length ov) xs.length ov := hPT
      clear hPT hPT0 hlt
      go_wp2
      go_loopw [7, 13] (fun o i wr => ∃ k ov : Nat, k ≤ ds.length ∧ i = .int .i64 k ∧ o = .int .u64 ov ∧ PT w wr db T pre post ds (RM (val (ds.take k)) (n * val xs) k ov) k ov)
        (fun _ i _ => ds.length - (intOf i).toNat)
      case atStart => exact ⟨xs.length, ov, hle, rfl, rfl, hPT2⟩
      case round =>
        clear hPT2
        obtain ⟨k, ov, hk, rfl, rfl, hPT⟩ := hrel
        by_cases ho : ov = 0
        · subst ho
          go_wp2
          go_ret
          obtain ⟨es, e1, e2, e3, e4, E, e5, e6⟩ := hPT.done hk hdd
          exact ⟨es, 0, rfl, e1, e2, e3, e4, B64_pos, by rw [e5, val_split ds k hk]; exact e6.done (.inl rfl)⟩
        · by_cases hlt : k < ds.length
          · have hcd := hPT.cell hlt
            have hfr : wr.frozen? ⟨db, pre.length + k, none⟩ = false := hPT.frozen _
            have hov : ov < B64 := hPT.lt
            have hdB := hdd.get hlt
            obtain ⟨d, hdk⟩ : ∃ d, d = ds[k] := ⟨_, rfl⟩
            rw [← hdk] at hcd hdB
            have Hd := Lib.hid hdk; clear hdk
            unfold dg at hcd
            obtain ⟨s2, c2, hr2, hs2⟩ := sub64_ex d ov hdB hov
            go_wp2
            go_roundw
            case rel =>
              refine ⟨k + 1, c2, by omega, by go_num, by go_num, ?_⟩
              rw [take_succ_val ds hlt, ← Hd.out]
              exact hPT.step hlt hs2.2.1 (Nat.lt_of_le_of_lt hs2.2.2 (by unfold B64; omega)) fun E hE => hE.step hs2
            case measure => simp [intOf]; omega
          · go_wp2
            go_ret
            have hke : k = ds.length := by omega
            obtain ⟨es, e1, e2, e3, e4, E, e5, e6⟩ := hPT.done hk hdd
            exact ⟨es, ov, rfl, e1, e2, e3, e4, hPT.lt, by rw [e5, val_split ds k hk]; exact e6.done (.inr hke)⟩

end Go.Proofs.YtemlhloipjbecaaDoor
