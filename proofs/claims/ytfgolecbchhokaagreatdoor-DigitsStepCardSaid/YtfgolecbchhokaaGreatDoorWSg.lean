/- Signs of sums and products; texts that differ. -/
import Derived.Test.YtfgolecbchhokaaGreatDoorW2
namespace Go.Proofs.YtfgolecbchhokaaGreatDoor

theorem two_lists {a b : ByteArray} (h : ¬ a = b) : (a.toList == b.toList) = false := by
  rw [beq_eq_false_iff_ne]
  intro e
  refine h (ByteArray.ext (Array.ext' ?_))
  rw [← ByteArray.toList_eq, ← ByteArray.toList_eq, e]
theorem sg_neg (z : Int) : sg (-z) = -sg z := by
  rcases sg_cases z with ⟨a, b⟩ | ⟨a, b⟩ | ⟨a, b⟩ <;> rcases sg_cases (-z) with ⟨c, d⟩ | ⟨c, d⟩ | ⟨c, d⟩ <;> first | (exfalso; omega) | (rw [b, d]; done) | (rw [b, d]; rfl)
theorem sg_mul (y z : Int) : sg (y * z) = sg y * sg z := by
  rcases sg_cases y with ⟨a, b⟩ | ⟨a, b⟩ | ⟨a, b⟩
  · rw [a, Int.zero_mul]; rw [show sg (0 : Int) = 0 from rfl, Int.zero_mul]
  · rcases sg_cases z with ⟨c, d⟩ | ⟨c, d⟩ | ⟨c, d⟩
    · rw [c, Int.mul_zero]; rw [show sg (0 : Int) = 0 from rfl, Int.mul_zero]
    · have h := Int.mul_pos_of_neg_of_neg a c
      rw [b, d]; unfold sg; rw [if_neg (by omega), if_neg (by omega)]; rfl
    · have h := Int.mul_neg_of_neg_of_pos a c
      rw [b, d]; unfold sg; rw [if_neg (by omega), if_pos h]; rfl
  · rcases sg_cases z with ⟨c, d⟩ | ⟨c, d⟩ | ⟨c, d⟩
    · rw [c, Int.mul_zero]; rw [show sg (0 : Int) = 0 from rfl, Int.mul_zero]
    · have h := Int.mul_neg_of_pos_of_neg a c
      rw [b, d]; unfold sg; rw [if_neg (by omega), if_pos h]; rfl
    · have h := Int.mul_pos a c
      rw [b, d]; unfold sg; rw [if_neg (by omega), if_neg (by omega)]; rfl
theorem sg_range (z : Int) : -1 ≤ sg z ∧ sg z ≤ 1 := by
  rcases sg_cases z with ⟨_, h⟩ | ⟨_, h⟩ | ⟨_, h⟩ <;> rw [h] <;> omega
end Go.Proofs.YtfgolecbchhokaaGreatDoor
