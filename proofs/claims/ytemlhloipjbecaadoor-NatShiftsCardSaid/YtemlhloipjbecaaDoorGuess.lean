/- The guess of a quotient's digit, walked. -/
import Derived.Test.YtemlhloipjbecaaDoorDiv64
namespace Go.Proofs.YtemlhloipjbecaaDoor
open Go.RowKit Go.Shelf

/-- What guess answers of the two highest digits and the divisor's highest one. -/
def IsGuess (hi lo top g : Nat) : Prop := (top ≤ hi ∧ g = 18446744073709551615) ∨ (hi < top ∧ g = (hi * B64 + lo) / top)

set_option maxRecDepth 100000 in
set_option maxHeartbeats 400000 in
theorem guess_any (w : World) (xb xo xc yb yo yc n : Nat) (xs ys : List Nat) (hx : Ds w xb xo xs) (hy : Ds w yb yo ys) (hxl : xs.length = n + 1) (hyl : ys.length = n) (hn1 : 1 ≤ n)
    (hdx : Dig xs) (hdy : Dig ys) (hn : n ≤ 1000000000000) (hi lo top : Nat) (h1 : hi = xs.getD n 0) (h2 : lo = xs.getD (n - 1) 0) (h3 : top = ys.getD (n - 1) 0) (htop : 9223372036854775808 ≤ top) :
    Calls Tryd.prog 88 #[.agg #[.slice (some ⟨xb, xo, none⟩) (n + 1) xc, .slice (some ⟨yb, yo, none⟩) n yc]] w
      fun e w' => ∃ g : Nat, e = .returned (.int .u64 g) ∧ IsGuess hi lo top g ∧ g < B64 ∧ Below w.heap.size w w' := by
  have c1 : w.cell? ⟨xb, xo + n, none⟩ = some (.int .u64 hi) := by
    rw [hx n (by omega), h1]; simp [dg, hxl]
  have c2 : w.cell? ⟨xb, xo + (n - 1), none⟩ = some (.int .u64 lo) := by
    rw [hx (n - 1) (by omega), h2]; simp [dg, hxl, show n - 1 < n + 1 by omega]
  have c3 : w.cell? ⟨yb, yo + (n - 1), none⟩ = some (.int .u64 top) := by
    rw [hy (n - 1) (by omega), h3]; simp [dg, hyl, show n - 1 < n by omega]
  have hhi : hi < B64 := by rw [h1]; simp [hxl]; exact hdx.get (by omega)
  have hlo : lo < B64 := by rw [h2]; simp [hxl, show n - 1 < n + 1 by omega]; exact hdx.get (by omega)
  have htp : top < B64 := by rw [h3]; simp [hyl, show n - 1 < n by omega]; exact hdy.get (by omega)
  clear h1 h2 h3 hx hy hxl hyl hdx hdy
  have wn : IntKind.i64.wrap ((n : Int) - 1) = (n : Int) - 1 := by rw [IntKind.wrap_i64]; omega
  have tn : ((n : Int) - 1).toNat = n - 1 := by omega
  have gn : (1 : Int) ≤ (n : Int) := by omega
  have ln : (n : Int) < (n : Int) + 1 := by omega
  have ln2 : (n : Int) - 1 < (n : Int) + 1 := by omega
  have ln3 : (n : Int) - 1 < (n : Int) := by omega
  have p1 := cell_past c1
  have p2 := cell_past c2
  have p3 := cell_past c3
  go_enter Tryd.func88, Tryd.ntmps88
  go_wp2
  go_quiet (fail)
  by_cases hge : top ≤ hi
  · have tg : (top : Int) ≤ (hi : Int) := by omega
    go_wp2
    go_ret
    exact ⟨18446744073709551615, rfl, .inl ⟨hge, rfl⟩, by unfold B64; omega, below_drewN ((Below.refl _ _).alloc (Nat.le_refl _) _) _⟩
  · have tg : ¬ (top : Int) ≤ (hi : Int) := by omega
    go_wp2_with (go_at_call 94; refine (div64_any _ hi lo top htop htp (by omega) hlo).mono ?_; rintro e w' ⟨q, r, rfl, hq, hr, hqB, k, rfl⟩)
    go_ret
    refine ⟨q, rfl, .inr ⟨by omega, ?_⟩, hqB, below_drewN ((Below.refl _ _).alloc (Nat.le_refl _) _) _⟩
    refine (Nat.div_eq_of_lt_le ?_ ?_).symm
    · omega
    · rw [Nat.add_mul]; omega

end Go.Proofs.YtemlhloipjbecaaDoor
