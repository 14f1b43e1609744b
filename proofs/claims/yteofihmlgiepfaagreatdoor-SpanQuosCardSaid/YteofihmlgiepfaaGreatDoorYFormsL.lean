/- DyadForms: what its cases have in common. -/
import Derived.Test.YteofihmlgiepfaaGreatDoorHQ
import Derived.Test.YteofihmlgiepfaaGreatDoorHP
namespace Go.Proofs.YteofihmlgiepfaaGreatDoor
open Go.RowKit Go.Shelf
theorem longd_false {most:Nat} {far:Int} {l:List NV} (h:longD most far l=false):∀ x∈l,x.2.1.size≤most∧-far≤x.2.2∧x.2.2≤far:=by
 intro x hx;unfold longD at h
 have:=List.any_eq_false.1 h x hx
 simp at this;omega
end Go.Proofs.YteofihmlgiepfaaGreatDoor
