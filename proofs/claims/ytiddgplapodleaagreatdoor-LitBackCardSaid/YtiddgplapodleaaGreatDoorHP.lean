/- Layer 1, laid together: Y9, Y12, YOrd, Y13, Y14. -/
import Derived.Test.YtiddgplapodleaaGreatDoorHS
import Derived.Test.YtiddgplapodleaaGreatDoorHL
/- Package dyad: two numbers on one scale,walked. -/
namespace Go.Proofs.YtiddgplapodleaaGreatDoor
set_option maxRecDepth 100000
set_option maxHeartbeats 800000
open Go.RowKit Go.Shelf
def dsg (x:Dyadic):Int:=sg (dm x)
end Go.Proofs.YtiddgplapodleaaGreatDoor
