/- Layer 1, laid together: SQuo, SQuo2. -/
import Derived.Test.YtbijggomdpaknaaGreatDoorYRat
import Derived.Test.YtbijggomdpaknaaGreatDoorYGrid0
/- Quotients between two numbers of a grid;no function is walked in this text. -/
namespace Go.Proofs.YtbijggomdpaknaaGreatDoor
open Go.RowKit Go.Shelf
theorem ofI_toRat (n p:Int):(Dyadic.ofIntWithPrec n p).toRat=(n:Rat)*2 ^ (-p):=Dyadic.toRat_ofIntWithPrec_eq_mul_two_pow
end Go.Proofs.YtbijggomdpaknaaGreatDoor
