/- PolyRing, its arguments one behind the other. -/
import Derived.Test.YtemedphcafgolaaGreatDoorPRing2
namespace Go.Proofs.YtemedphcafgolaaGreatDoor
open Go.RowKit Go.Shelf Go.Lib
theorem pring_law (W:World) (z0:Int) (ad0:Option Addr) (l0:List TV) (n0 c0:Nat) (el0:l0.length=n0) (ec0:n0≤c0∧(ad0=none→c0=0)) (hi0:TAt W ad0 l0) (z1:Int) (ad1:Option Addr) (l1:List TV) (n1 c1:Nat) (el1:l1.length=n1) (ec1:n1≤c1∧(ad1=none→c1=0)) (hi1:TAt W ad1 l1)
  (z2:Int) (ad2:Option Addr) (l2:List TV) (n2 c2:Nat) (el2:l2.length=n2) (ec2:n2≤c2∧(ad2=none→c2=0)) (hi2:TAt W ad2 l2) :
  Calls Tryz.prog 5 #[.agg #[.int .i64 z0,.slice ad0 n0 c0],.agg #[.int .i64 z1,.slice ad1 n1 c1],.agg #[.int .i64 z2,.slice ad2 n2 c2]] W (Ret (.bool true) W):=
 pring_any W z0 z1 z2 ad0 ad1 ad2 n0 n1 n2 c0 c1 c2 l0 l1 l2 el0 el1 el2 ec0.1 ec1.1 ec2.1 hi0 hi1 hi2
end Go.Proofs.YtemedphcafgolaaGreatDoor
