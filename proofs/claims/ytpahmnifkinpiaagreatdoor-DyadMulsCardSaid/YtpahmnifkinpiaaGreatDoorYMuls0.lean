/- Products of any row, powers of any exponent: the contracts' cases laid together. -/
import Derived.Test.YtpahmnifkinpiaaGreatDoorHM
import Derived.Test.YtpahmnifkinpiaaGreatDoorYR4
namespace Go.Proofs.YtpahmnifkinpiaaGreatDoor
open Go.RowKit Go.Shelf

theorem one_of : (.ofIntWithPrec 1 0 : Dyadic) = 1 := by
  have h := (df_parts one_form).2.2.1
  rw [← h, one_nv]
theorem ymul_all (w : World) (ad : Option Addr) (l : List NV) (n c : Nat) (hn : l.length = n) (hc : n ≤ c) (hmax : n ≤ 100) (hs : ∀ x ∈ l, x.2.1.size ≤ 1000 ∧ -1000000 ≤ x.2.2 ∧ x.2.2 ≤ 1000000) (hl : NAt w ad l) (m' : Bool) (s' : ByteArray) (e' : Int) (hd : df (prodD l n) = nu m' s' e') :
    Calls Tryz.prog 42 #[.slice ad n c] w (Ret (.agg #[.bool m', .string s', .int .i64 e']) w) := by
  match n, hn with
  | 0, hn => exact ymul_none w ad c m' s' e' (by rw [one_of]; exact hd)
  | 1, hn =>
    have h0 : 0 < l.length := by omega
    obtain ⟨lb, lo, rfl, hlb, h1, h2, h3⟩ := hl 0 h0
    obtain ⟨m, s, e, hx⟩ : ∃ m s e, l[0] = (m, s, e) := ⟨_, _, _, rfl⟩
    have hss := hs l[0] (List.getElem_mem h0)
    have hp := prodD_succ h0
    rw [hx] at h1 h2 h3 hss hp
    rw [Nat.zero_mul, Nat.add_zero] at h1 h2 h3
    simp only at hss h1 h2 h3
    rw [hp, prodD_zero, Dyadic.one_mul] at hd
    exact ymul_one w lb lo c m s e (by omega) (by omega) h1 h2 h3 m' s' e' hd
  | n + 2, hn =>
    have h0 : 0 < l.length := by omega
    obtain ⟨lb, lo, rfl, _⟩ := hl 0 h0
    exact ymul_any w lb lo l (n + 2) c hn hc (by omega) hmax hs hl m' s' e' hd
theorem ypow_all (w : World) (m : Bool) (s : ByteArray) (e n : Int) (hs : s.size ≤ 1000) (he : -1000000 ≤ e ∧ e ≤ 1000000) (hn : n ≤ 39) (m' : Bool) (s' : ByteArray) (e' : Int) (hd : df (nv m s e ^ n.toNat) = nu m' s' e') :
    Calls Tryz.prog 44 #[nu m s e, .int .i64 n] w (Ret (.agg #[.bool m', .string s', .int .i64 e']) w) := by
  by_cases h : n ≤ 0
  · rw [show n.toNat = 0 by omega, Dyadic.pow_zero] at hd
    exact ypow_none w m s e n h m' s' e' (by rw [one_of]; exact hd)
  · obtain ⟨k, rfl⟩ : ∃ k : Nat, n = k := ⟨n.toNat, by omega⟩
    exact ypow_some w m s e k hs he (by omega) (by omega) m' s' e' hd
end Go.Proofs.YtpahmnifkinpiaaGreatDoor
