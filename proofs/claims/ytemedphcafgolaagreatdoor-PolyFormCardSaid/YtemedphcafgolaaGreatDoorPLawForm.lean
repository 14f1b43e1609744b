/- PolyForm, its arguments one behind the other. -/
import Derived.Test.YtemedphcafgolaaGreatDoorPForm
namespace Go.Proofs.YtemedphcafgolaaGreatDoor
open Go.RowKit Go.Shelf Go.Lib
theorem pform_law (W:World) (a0:Int) (_w0:(Lit.int .i64 a0).wf=true) (ad1:Option Addr) (l1:List TV) (n1 c1:Nat) (el1:l1.length=n1) (ec1:n1≤c1∧(ad1=none→c1=0)) (hi1:TAt W ad1 l1)
  (z2:Int) (ad2:Option Addr) (l2:List TV) (n2 c2:Nat) (el2:l2.length=n2) (ec2:n2≤c2∧(ad2=none→c2=0)) (hi2:TAt W ad2 l2) (m:Bool) (s:ByteArray) (e:Int) (_w3:s.size≤maxLen) (_x3:(Lit.int .i64 e).wf=true) :
  Calls Tryz.prog 6 #[.int .i64 a0,.slice ad1 n1 c1,.agg #[.int .i64 z2,.slice ad2 n2 c2],.agg #[.bool m,.string s,.int .i64 e]] W (Ret (.bool true) W):=
 pform_any W a0 ad1 n1 c1 l1 el1 ec1.1 hi1 z2 ad2 n2 c2 l2 el2 ec2.1 hi2 m s e
end Go.Proofs.YtemedphcafgolaaGreatDoor
