/- Short names: lemmas whose usual proofs stand as their last arguments. -/
import Derived.Test.YtemedphcafgolaaGreatDoorNum
namespace Go.Proofs.YtemedphcafgolaaGreatDoor
theorem oR2 {a0 a1 b : Prop} (h : b) : a0 ∨ a1 ∨ b := Or.inr (Or.inr (h))
theorem oR4 {a0 a1 a2 a3 b : Prop} (h : b) : a0 ∨ a1 ∨ a2 ∨ a3 ∨ b := Or.inr (Or.inr (Or.inr (Or.inr (h))))
theorem oR8 {a0 a1 a2 a3 a4 a5 a6 a7 b : Prop} (h : b) : a0 ∨ a1 ∨ a2 ∨ a3 ∨ a4 ∨ a5 ∨ a6 ∨ a7 ∨ b := Or.inr (Or.inr (Or.inr (Or.inr (Or.inr (Or.inr (Or.inr (Or.inr (h))))))))
theorem oR16 {a0 a1 a2 a3 a4 a5 a6 a7 a8 a9 a10 a11 a12 a13 a14 a15 b : Prop} (h : b) : a0 ∨ a1 ∨ a2 ∨ a3 ∨ a4 ∨ a5 ∨ a6 ∨ a7 ∨ a8 ∨ a9 ∨ a10 ∨ a11 ∨ a12 ∨ a13 ∨ a14 ∨ a15 ∨ b := Or.inr (Or.inr (Or.inr (Or.inr (Or.inr (Or.inr (Or.inr (Or.inr (Or.inr (Or.inr (Or.inr (Or.inr (Or.inr (Or.inr (Or.inr (Or.inr (h))))))))))))))))
end Go.Proofs.YtemedphcafgolaaGreatDoor
