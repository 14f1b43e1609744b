/- BoxHalves (package ogeelaw11). -/
import Derived.Test.YtbijggomdpaknaaGreatDoorBC
import Derived.Test.YtbijggomdpaknaaGreatDoorBX3
import Derived.Test.YtbijggomdpaknaaGreatDoorBX4
import Derived.Test.YtbijggomdpaknaaGreatDoorBE
namespace Go.Proofs.YtbijggomdpaknaaGreatDoor
open Go.RowKit Go.Shelf
theorem bnd_prod : ∀ (l : List SV) (a : Dyadic) (A F B E : Nat), Bnd a A F → (∀ x ∈ l, GS B E x) → Bnd ((l.map wS).foldl (· * ·) a) (A + l.length * (B + 1)) (F + l.length * E)
  | [], a, A, F, B, E, h, _ => by simpa using h
  | x :: l, a, A, F, B, E, h, k => by
    rw [List.map_cons, List.foldl_cons]
    have h1 := bnd_prod l (a * wS x) (A + (B + 1)) (F + E) B E (h.mul (k x List.mem_cons_self).width) (fun y hy => k y (List.mem_cons_of_mem _ hy))
    rw [List.length_cons, Nat.add_mul, Nat.add_mul, Nat.one_mul, Nat.one_mul]
    rwa [show A + (l.length * (B + 1) + (B + 1)) = A + (B + 1) + l.length * (B + 1) by omega, show F + (l.length * E + E) = F + E + l.length * E by omega]
/-- A volume is small. -/
theorem bnd_vol {l : List SV} {B E : Nat} (h : ∀ x ∈ l, GS B E x) (h8 : l.length ≤ 8 ∧ B ≤ 120 ∧ E ≤ 300) : (canonN (volD l)).2.1.size ≤ 1000 ∧ -10000 ≤ (canonN (volD l)).2.2 ∧ (canonN (volD l)).2.2 ≤ 10000 := by
  have h1 := (bnd_prod l 1 1 1 B E Bnd.one h).canon
  have h2 : l.length * (B + 1) ≤ 8 * 121 := Nat.mul_le_mul h8.1 (by omega)
  have h3 : l.length * E ≤ 8 * 300 := Nat.mul_le_mul h8.1 h8.2.2
  unfold volD
  omega
end Go.Proofs.YtbijggomdpaknaaGreatDoor
