/- The laws that ask the document's answer: they answer true for all. -/
import Derived.Test.YtemlhloipjbecaaDoorRefNat
import Derived.Test.YtemlhloipjbecaaDoorAwake
namespace Go.Proofs.YtemlhloipjbecaaDoor
open Go.RowKit Go.Shelf

set_option maxRecDepth 100000 in
set_option maxHeartbeats 4000000 in
theorem forms_any (w : World) (n : Nat) (a : ByteArray) (hn : n < B64) : Calls Tryd.prog 3 #[.int .u64 n, .string a] w (Ret (.bool true) w) := by
  have hb := Below.refl w.heap.size w
  go_enter Tryd.func3, Tryd.ntmps3
  by_cases ha3 : 200 < a.size
  · go_wp2_with fail
    refine (awake_any _).mono ?_
    rintro e W ⟨rfl, hq⟩
    replace hb := below_next hb hq; clear hq
    go_wp2
    go_ret
    exact ⟨rfl, hb⟩
  · go_wp2_with fail
    refine (use_of _ _ n hn rfl).mono ?_
    rintro e W ⟨rfl, hq⟩
    replace hb := below_next hb hq; clear hq
    go_wp2_with fail
    refine (ref_of _ n hn).mono ?_
    rintro e W ⟨rfl, hq⟩
    replace hb := below_next hb hq; clear hq
    go_wp2_with fail
    refine (use_trim _ a _ (by omega) rfl).mono ?_
    rintro e W ⟨rfl, hq⟩
    replace hb := below_next hb hq; clear hq
    go_wp2_with fail
    refine (bits_of_any _ a (by omega)).mono ?_
    rintro e W ⟨ad, c, es, rfl, hbw, hbit, _, hv, hle, hq⟩
    replace hb := below_next hb hq; clear hq
    go_wp2_with fail
    refine (textr_any _ ad c es.length es hbw rfl hbit (by omega)).mono ?_
    rintro e W2 ⟨rfl, hq⟩
    replace hb := below_next hb hq; clear hq
    rw [hv]
    clear hbw hbit hv hle
    go_wp2_with fail
    refine (use_len _ a _ (by omega) rfl).mono ?_
    rintro e W ⟨rfl, hq⟩
    replace hb := below_next hb hq; clear hq
    go_wp2_with fail
    refine (ref_len _ a (by omega)).mono ?_
    rintro e W ⟨rfl, hq⟩
    replace hb := below_next hb hq; clear hq
    go_wp2_with fail
    refine (use_zeros _ a _ (by omega) rfl).mono ?_
    rintro e W ⟨rfl, hq⟩
    replace hb := below_next hb hq; clear hq
    go_wp2_with fail
    refine (ref_zeros _ a (by omega)).mono ?_
    rintro e W ⟨rfl, hq⟩
    replace hb := below_next hb hq; clear hq
    go_wp2_with fail
    refine (awake_any _).mono ?_
    rintro e W ⟨rfl, hq⟩
    replace hb := below_next hb hq; clear hq
    go_wp2
    go_ret
    exact ⟨rfl, hb⟩

set_option maxRecDepth 100000 in
set_option maxHeartbeats 4000000 in
theorem orders_any (w : World) (a b : ByteArray) : Calls Tryd.prog 4 #[.string a, .string b] w (Ret (.bool true) w) := by
  have hb := Below.refl w.heap.size w
  go_enter Tryd.func4, Tryd.ntmps4
  by_cases ha3 : 200 < a.size
  · go_wp2_with fail
    refine (awake_any _).mono ?_
    rintro e W ⟨rfl, hq⟩
    replace hb := below_next hb hq; clear hq
    go_wp2
    go_ret
    exact ⟨rfl, hb⟩
  by_cases hb3 : 200 < b.size
  · go_wp2_with fail
    refine (awake_any _).mono ?_
    rintro e W ⟨rfl, hq⟩
    replace hb := below_next hb hq; clear hq
    go_wp2
    go_ret
    exact ⟨rfl, hb⟩
  · go_wp2_with fail
    refine (use_sub _ a b _ _ (by omega) (by omega) rfl rfl).mono ?_
    rintro e W ⟨rfl, hq⟩
    replace hb := below_next hb hq; clear hq
    go_wp2_with fail
    refine (ref_sub _ a b (by omega) (by omega)).mono ?_
    rintro e W ⟨rfl, hq⟩
    replace hb := below_next hb hq; clear hq
    go_wp2_with fail
    refine (use_cmp _ a b _ rfl).mono ?_
    rintro e W ⟨rfl, hq⟩
    replace hb := below_next hb hq; clear hq
    go_wp2_with fail
    refine (ref_cmp _ a b (by omega) (by omega)).mono ?_
    rintro e W ⟨rfl, hq⟩
    replace hb := below_next hb hq; clear hq
    go_wp2_with fail
    refine (awake_any _).mono ?_
    rintro e W ⟨rfl, hq⟩
    replace hb := below_next hb hq; clear hq
    go_wp2
    go_ret
    exact ⟨rfl, hb⟩

set_option maxRecDepth 100000 in
set_option maxHeartbeats 4000000 in
theorem muls_any (w : World) (a b : ByteArray) : Calls Tryd.prog 6 #[.string a, .string b] w (Ret (.bool true) w) := by
  have hb := Below.refl w.heap.size w
  go_enter Tryd.func6, Tryd.ntmps6
  by_cases ha3 : 80 < a.size
  · go_wp2_with fail
    refine (awake_any _).mono ?_
    rintro e W ⟨rfl, hq⟩
    replace hb := below_next hb hq; clear hq
    go_wp2
    go_ret
    exact ⟨rfl, hb⟩
  by_cases hb3 : 80 < b.size
  · go_wp2_with fail
    refine (awake_any _).mono ?_
    rintro e W ⟨rfl, hq⟩
    replace hb := below_next hb hq; clear hq
    go_wp2
    go_ret
    exact ⟨rfl, hb⟩
  · go_wp2_with fail
    refine (use_mul _ a b _ (by omega) (by omega) rfl).mono ?_
    rintro e W ⟨rfl, hq⟩
    replace hb := below_next hb hq; clear hq
    go_wp2_with fail
    refine (ref_mul _ a b (by omega) (by omega)).mono ?_
    rintro e W ⟨rfl, hq⟩
    replace hb := below_next hb hq; clear hq
    go_wp2_with fail
    refine (awake_any _).mono ?_
    rintro e W ⟨rfl, hq⟩
    replace hb := below_next hb hq; clear hq
    go_wp2
    go_ret
    exact ⟨rfl, hb⟩

set_option maxRecDepth 100000 in
set_option maxHeartbeats 4000000 in
theorem divs_any (w : World) (a b : ByteArray) : Calls Tryd.prog 7 #[.string a, .string b] w (Ret (.bool true) w) := by
  have hb := Below.refl w.heap.size w
  go_enter Tryd.func7, Tryd.ntmps7
  by_cases ha3 : 80 < a.size
  · go_wp2_with fail
    refine (awake_any _).mono ?_
    rintro e W ⟨rfl, hq⟩
    replace hb := below_next hb hq; clear hq
    go_wp2
    go_ret
    exact ⟨rfl, hb⟩
  by_cases hb3 : 80 < b.size
  · go_wp2_with fail
    refine (awake_any _).mono ?_
    rintro e W ⟨rfl, hq⟩
    replace hb := below_next hb hq; clear hq
    go_wp2
    go_ret
    exact ⟨rfl, hb⟩
  · obtain ⟨x, y, z, hv⟩ : ∃ x y z, divV (num a) (num b) = .tuple #[.string x, .string y, .bool z] := by unfold divV; split <;> exact ⟨_, _, _, rfl⟩
    have HV := Lib.hid hv; clear hv
    go_wp2_with fail
    refine (use_div _ a b _ (by omega) (by omega) HV.out).mono ?_
    rintro e W ⟨rfl, hq⟩
    replace hb := below_next hb hq; clear hq
    go_wp2_with fail
    refine (ref_div _ a b (by omega) (by omega)).mono ?_
    rw [HV.out]
    rintro e W ⟨rfl, hq⟩
    replace hb := below_next hb hq; clear hq
    go_wp2_with fail
    refine (awake_any _).mono ?_
    rintro e W ⟨rfl, hq⟩
    replace hb := below_next hb hq; clear hq
    go_wp2
    go_ret
    exact ⟨rfl, hb⟩

set_option maxRecDepth 100000 in
set_option maxHeartbeats 4000000 in
theorem shifts_any (w : World) (a : ByteArray) (n : Int) (hn : n ≤ 9223372036854775807) : Calls Tryd.prog 8 #[.string a, .int .i64 n] w (Ret (.bool true) w) := by
  have hb := Below.refl w.heap.size w
  go_enter Tryd.func8, Tryd.ntmps8
  by_cases ha3 : 200 < a.size
  · go_wp2_with fail
    refine (awake_any _).mono ?_
    rintro e W ⟨rfl, hq⟩
    replace hb := below_next hb hq; clear hq
    go_wp2
    go_ret
    exact ⟨rfl, hb⟩
  · by_cases hn3 : n ≤ 3000
    · go_wp2_with fail
      refine (use_shl _ a _ n (by omega) (by omega) rfl).mono ?_
      rintro e W ⟨rfl, hq⟩
      replace hb := below_next hb hq; clear hq
      go_wp2_with fail
      refine (ref_shl _ a n (by omega) (by omega)).mono ?_
      rintro e W ⟨rfl, hq⟩
      replace hb := below_next hb hq; clear hq
      go_wp2_with fail
      refine (use_shr _ a _ n (by omega) hn rfl).mono ?_
      rintro e W ⟨rfl, hq⟩
      replace hb := below_next hb hq; clear hq
      go_wp2_with fail
      refine (ref_shr _ a n (by omega) hn).mono ?_
      rintro e W ⟨rfl, hq⟩
      replace hb := below_next hb hq; clear hq
      go_wp2_with fail
      refine (awake_any _).mono ?_
      rintro e W ⟨rfl, hq⟩
      replace hb := below_next hb hq; clear hq
      go_wp2
      go_ret
      exact ⟨rfl, hb⟩
    · go_wp2_with fail
      refine (use_shr _ a _ n (by omega) hn rfl).mono ?_
      rintro e W ⟨rfl, hq⟩
      replace hb := below_next hb hq; clear hq
      go_wp2_with fail
      refine (ref_shr _ a n (by omega) hn).mono ?_
      rintro e W ⟨rfl, hq⟩
      replace hb := below_next hb hq; clear hq
      go_wp2_with fail
      refine (awake_any _).mono ?_
      rintro e W ⟨rfl, hq⟩
      replace hb := below_next hb hq; clear hq
      go_wp2
      go_ret
      exact ⟨rfl, hb⟩

set_option maxRecDepth 100000 in
set_option maxHeartbeats 4000000 in
theorem adds_any (w : World) (ad : Option Addr) (l : List ByteArray) (n c : Nat) (hn : l.length = n)
    (hcell : ∀ i (h : i < l.length), ∃ lb lo, ad = some ⟨lb, lo, none⟩ ∧ lb < w.heap.size ∧ w.cell? ⟨lb, lo + i, none⟩ = some (.string l[i])) :
    Calls Tryd.prog 5 #[.slice ad n c] w (Ret (.bool true) w) := by
  have hb := Below.refl w.heap.size w
  have HN := Lib.hid (And.intro hn hcell); clear hn hcell
  go_enter Tryd.func5, Tryd.ntmps5
  by_cases h50 : 50 < n
  · go_wp2_with fail
    refine (awake_any _).mono ?_
    rintro e W ⟨rfl, hq⟩
    replace hb := below_next hb hq; clear hq
    go_wp2
    go_ret
    exact ⟨rfl, hb⟩
  · go_wp2
    go_loopw [3] (fun i wr => ∃ k : Nat, k ≤ n ∧ i = .int .i64 k ∧ (∀ j (h : j < l.length), j < k → l[j].size ≤ 200) ∧ w = wr) (fun i _ => n - intN i)
    case atStart => exact ⟨0, Nat.zero_le _, rfl, fun _ _ h => absurd h (by omega), rfl⟩
    case round =>
      obtain ⟨k, hk, rfl, hz, rfl⟩ := hrel
      have HZ := Lib.hid hz; clear hz
      by_cases hlt : k < n
      · have hkl : k < l.length := by rw [HN.out.1]; exact hlt
        obtain ⟨lb, lo, rfl, hlb, hcl⟩ := HN.out.2 k hkl
        obtain ⟨s, hs'⟩ : ∃ s, s = l[k] := ⟨_, rfl⟩
        rw [← hs'] at hcl
        have HS := Lib.hid hs'; clear hs'
        by_cases hs3 : 200 < s.size
        · have hs3' : decide ((200 : Int) < (s.size : Int)) = true := by simp; omega
          go_wp2_with fail
          refine (awake_any _).mono ?_
          rintro e W ⟨rfl, hq⟩
          replace hb := below_next hb hq; clear hq
          go_wp2
          go_ret
          exact ⟨rfl, hb⟩
        · have hz2 : ∀ j (h : j < l.length), j < k + 1 → l[j].size ≤ 200 := by
            intro j h hj
            by_cases hjk : j = k
            · subst hjk; rw [← HS.out]; omega
            · exact HZ.out j h (by omega)
          have HZ2 := Lib.hid hz2; clear hz2
          go_wp2
          go_roundw
          case rel => exact ⟨k + 1, by omega, by simp, HZ2.out, trivial⟩
          case measure => simp [intN]; omega
      · have hsz : ∀ s ∈ l, s.size ≤ 1000000 := by
          intro s hs
          obtain ⟨j, hj, rfl⟩ := List.getElem_of_mem hs
          have := HZ.out j hj (by rw [HN.out.1] at hj; omega)
          omega
        have HSZ := Lib.hid hsz; clear hsz
        have h1 := HN.out.1
        go_wp2_with fail
        refine (add_any _ ad l n c h1 (by omega) HSZ.out HN.out.2).mono ?_
        rintro e W ⟨rfl, hq⟩
        replace hb := below_next hb hq
        go_wp2_with fail
        refine (ref_add _ ad l n c h1 (by omega) HSZ.out (fun i h => ?_)).mono ?_
        · obtain ⟨lb, lo, e, hlb, hcl⟩ := HN.out.2 i h
          exact ⟨lb, lo, e, Nat.lt_of_lt_of_le hlb hq.size, by rw [hq.cell hlb]; exact hcl⟩
        rintro e W ⟨rfl, hq⟩
        replace hb := below_next hb hq; clear hq
        go_wp2_with fail
        refine (awake_any _).mono ?_
        rintro e W ⟨rfl, hq⟩
        replace hb := below_next hb hq; clear hq
        go_wp2
        go_ret
        exact ⟨rfl, hb⟩
end Go.Proofs.YtemlhloipjbecaaDoor
