/- The order of dyadic numbers by their rationals; the least and the greatest of three. No function is walked in this text. -/
import Derived.Test.YtiddgplapodleaaGreatDoorY16
namespace Go.Proofs.YtiddgplapodleaaGreatDoor
open Go.RowKit Go.Shelf
def f2 (side:Int) (x y:Dyadic):Dyadic:=if 0<side*dsg (y-x) then y else x
end Go.Proofs.YtiddgplapodleaaGreatDoor
