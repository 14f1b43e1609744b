/- The part of a number that a quotient's digit is taken from, walked. -/
import Derived.Test.YtemlhloipjbecaaDoorDigit
import Derived.RegionTactic
import Derived.BigRegion
namespace Go.Proofs.YtemlhloipjbecaaDoor
open Go.RowKit Go.Shelf

set_option maxRecDepth 100000 in
set_option maxHeartbeats 800000 in
theorem from_any (w : World) (xb xo xl xc yb yo yc n k : Nat) (hk : k + n + 1 ≤ xc) (hmax : xc ≤ 1000000000000) :
    Calls Tryd.prog 76 #[.agg #[.slice (some ⟨xb, xo, none⟩) xl xc, .slice (some ⟨yb, yo, none⟩) n yc], .int .i64 k] w
      fun e w' => e = .returned (.agg #[.slice (some ⟨xb, xo + k, none⟩) (n + 1) (xc - k), .slice (some ⟨yb, yo, none⟩) n yc]) ∧ Below w.heap.size w w' := by
  have hkc : k < xc := by omega
  go_enter Tryd.func76, Tryd.ntmps76
  go_wp2
  go_region
  go_wp2
  refine bodyPost_ret (v := .agg #[.slice (some ⟨xb, xo + k, none⟩) (n + 1) (xc - k), .slice (some ⟨yb, yo, none⟩) n yc]) (by simp [results, Tryd.results76, go_sem, show k + n + 1 - k = n + 1 by omega]) rfl ⟨rfl, ?_⟩
  exact (((Below.refl _ _).alloc (Nat.le_refl _) _).alloc (by simp) _).drew

end Go.Proofs.YtemlhloipjbecaaDoor
