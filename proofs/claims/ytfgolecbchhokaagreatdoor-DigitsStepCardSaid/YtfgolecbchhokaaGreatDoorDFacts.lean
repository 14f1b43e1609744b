/- What follows for decimal texts: a digit behind, the digits of a product, one text for one number. -/
import Derived.Test.YtfgolecbchhokaaGreatDoorDText
import Derived.Test.YtfgolecbchhokaaGreatDoorWSg
namespace Go.Proofs.YtfgolecbchhokaaGreatDoor
open Go.RowKit Go.Shelf Go.Lib

theorem pow_le_nDigits (u : Nat) (h : 0 < u) : 10 ^ (nDigits u - 1) ≤ u := by
  induction u using Nat.strongRecOn with
  | _ u ih =>
    by_cases h10 : u < 10
    · rw [nDigits_small h10]
      exact h
    · have h1 := ih (u / 10) (by omega) (by omega)
      have h2 := nDigits_pos (u / 10)
      rw [nDigits_big h10, show nDigits (u / 10) + 1 - 1 = (nDigits (u / 10) - 1) + 1 by omega, Nat.pow_succ]
      omega
theorem nDigits_mul {a b : Nat} (ha : 0 < a) (hb : 0 < b) : nDigits (a * b) = nDigits a + nDigits b ∨ nDigits (a * b) = nDigits a + nDigits b - 1 := by
  have a1 := pow_le_nDigits a ha
  have b1 := pow_le_nDigits b hb
  have a2 := lt_pow_nDigits a
  have b2 := lt_pow_nDigits b
  have a3 := nDigits_pos a
  have b3 := nDigits_pos b
  have h1 : 10 ^ (nDigits a - 1 + (nDigits b - 1)) ≤ a * b := by
    rw [Nat.pow_add]
    exact Nat.mul_le_mul a1 b1
  have h2 : a * b < 10 ^ (nDigits a + nDigits b) := by
    rw [Nat.pow_add]
    exact Nat.mul_lt_mul_of_lt_of_le a2 (Nat.le_of_lt b2) (Nat.pow_pos (by omega))
  by_cases h : 10 ^ (nDigits a + nDigits b - 1) ≤ a * b
  · left
    have := nDigits_unique (nDigits a + nDigits b - 1) (a * b) h (by rw [show nDigits a + nDigits b - 1 + 1 = nDigits a + nDigits b by omega]; exact h2)
    omega
  · right
    have := nDigits_unique (nDigits a - 1 + (nDigits b - 1)) (a * b) h1 (by rw [show nDigits a - 1 + (nDigits b - 1) + 1 = nDigits a + nDigits b - 1 by omega]; omega)
    omega
theorem decDigits_more {u d : Nat} (hu : 0 < u) (hd : d < 10) : decDigits u ++ [UInt8.ofNat (48 + d)] = decDigits (10 * u + d) := by
  rw [decDigits_big (u := 10 * u + d) (by omega), show (10 * u + d) / 10 = u by omega, show (10 * u + d) % 10 = d by omega]
theorem nDigits_more {u d : Nat} (hu : 0 < u) (hd : d < 10) : nDigits (10 * u + d) = nDigits u + 1 := by
  rw [nDigits_big (u := 10 * u + d) (by omega), show (10 * u + d) / 10 = u by omega]
theorem itoa_more {z : Int} {d : Nat} (hz : z ≠ 0) (hd : d < 10) : itoa z ++ [UInt8.ofNat (48 + d)] = itoa (z * 10 + (d : Int) * sg z) := by
  unfold itoa
  rcases sg_cases z with ⟨h1, h2⟩ | ⟨h1, h2⟩ | ⟨h1, h2⟩
  · exact absurd h1 hz
  · rw [h2, if_pos h1, if_pos (by omega), List.cons_append, decDigits_more (by omega) hd]
    congr 2
    omega
  · rw [h2, if_neg (by omega), if_neg (by omega), decDigits_more (by omega) hd]
    congr 1
    omega
theorem itoa_inj {y z : Int} (h : itoa y = itoa z) : y = z := by
  rw [← (itoa_good y).2, h, (itoa_good z).2]
end Go.Proofs.YtfgolecbchhokaaGreatDoor
