/- PolyMakes, its arguments one behind the other. -/
import Derived.Test.YtemedphcafgolaaGreatDoorPMakes
namespace Go.Proofs.YtemedphcafgolaaGreatDoor
open Go.RowKit Go.Shelf Go.Lib
theorem pmakes_law (W:World) (a0:Int) (_w0:(Lit.int .i64 a0).wf=true) (a1:Int) (_w1:(Lit.int .i64 a1).wf=true) (ad2:Option Addr) (l2:List TV) (n2 c2:Nat) (el2:l2.length=n2) (_ec2:n2≤c2∧(ad2=none→c2=0)) (hi2:TAt W ad2 l2)
  (m:Bool) (s:ByteArray) (e:Int) (_w3:s.size≤maxLen) (_x3:(Lit.int .i64 e).wf=true) :
  Calls Tryz.prog 3 #[.int .i64 a0,.int .i64 a1,.slice ad2 n2 c2,.agg #[.bool m,.string s,.int .i64 e]] W (Ret (.bool true) W):=
 pmakes_any W a0 a1 ad2 n2 c2 l2 el2 hi2 m s e
end Go.Proofs.YtemedphcafgolaaGreatDoor
