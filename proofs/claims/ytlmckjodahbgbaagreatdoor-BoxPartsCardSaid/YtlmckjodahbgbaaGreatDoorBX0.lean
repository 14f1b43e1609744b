/- Package span's functions at spans as values, and the document's. -/
import Derived.Test.YtlmckjodahbgbaaGreatDoorBXMath
namespace Go.Proofs.YtlmckjodahbgbaaGreatDoor
open Go.RowKit Go.Shelf
def O2 (x:SV):Prop:=Ok2 x.1.2.1 x.1.2.2∧Ok2 x.2.2.1 x.2.2.2
def O3 (x:SV):Prop:=Ok3 x.1.2.1 x.1.2.2∧Ok3 x.2.2.1 x.2.2.2
theorem O2.o3 {x:SV} (h:O2 x):O3 x:=⟨h.1.ok3,h.2.ok3⟩
theorem GS.o2 {B E:Nat} {x:SV} (h:GS B E x):O2 x:=⟨h.1.1,h.2.1⟩
theorem c_form (w:World) (x:SV) (h:O2 x):Calls Tryz.prog 93 #[sagg x] w (Ret (sagg (fS x)) w):=
 sform_any w _ _ _ _ _ _ h.1 h.2 _ _ _ _ _ _ (canonN_df _) (canonN_df _)
theorem c_width (w:World) (x:SV) (h:O3 x):Calls Tryz.prog 39 #[sagg x] w (Ret (nagg (canonN (wS x))) w):=
 swidth_any w _ _ _ _ _ _ h.1 h.2 _ _ _ (canonN_df _)
theorem c_mid (w:World) (x:SV) (h:O3 x):Calls Tryz.prog 65 #[sagg x] w (Ret (nagg (canonN (mS x))) w):=
 smid_any w _ _ _ _ _ _ h.1 h.2 _ _ _ (canonN_df _)
theorem c_has (w:World) (x:SV) (p:NV) (h:O3 x) (hp:Ok3 p.2.1 p.2.2):Calls Tryz.prog 52 #[sagg x,nagg p] w (Ret (.bool (inS x p)) w):=
 shas_any w _ _ _ _ _ _ _ _ _ h.1 h.2 hp _ rfl
theorem c_within (w:World) (x y:SV) (h:O3 x) (k:O3 y):Calls Tryz.prog 55 #[sagg x,sagg y] w (Ret (.bool (wiS x y)) w):=
 swithin_any w _ _ _ _ _ _ _ _ _ _ _ _ h.1 h.2 k.1 k.2 _ rfl
end Go.Proofs.YtlmckjodahbgbaaGreatDoor
