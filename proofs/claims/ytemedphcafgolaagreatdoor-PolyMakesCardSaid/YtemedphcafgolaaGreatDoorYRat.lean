/- The order of dyadic numbers by their rationals; the least and the greatest of three. No function is walked in this text. -/
import Derived.Test.YtemedphcafgolaaGreatDoorY16
namespace Go.Proofs.YtemedphcafgolaaGreatDoor
open Go.RowKit Go.Shelf
def f2 (side:Int) (x y:Dyadic):Dyadic:=if 0<side*dsg (y-x) then y else x
theorem nu_tuple {x:NV} {z:Bool} {o:ByteArray} {e:Int} (h:nu x.1 x.2.1 x.2.2=nu z o e):x=(z,o,e):=by
 obtain ⟨m,s,d⟩:=x;obtain ⟨h1,h2,h3⟩:=nu_inj h;simp only at h1 h2 h3;rw [h1,h2,h3]
theorem df_form {x:Dyadic} {z:Bool} {o:ByteArray} {e:Int} (h:df x=nu z o e):df (nv z o e)=nu z o e:=by rw [(df_parts h).2.2.1,h]
end Go.Proofs.YtemedphcafgolaaGreatDoor
