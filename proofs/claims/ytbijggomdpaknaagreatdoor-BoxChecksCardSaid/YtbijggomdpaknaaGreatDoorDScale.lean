/- Package digits: the scales 10^18, its square, and so on, walked. -/
import Derived.Test.YtbijggomdpaknaaGreatDoorDMem
import Derived.WalkSmall
namespace Go.Proofs.YtbijggomdpaknaaGreatDoor
open Go.RowKit Go.Shelf
theorem ownsRow_below {w w' : World} {B:Nat} {e:TypeId} {size n:Nat} {v:Value} {xs:List Value} (h:w.ownsRow B e size v n xs) (hq:Below w.heap.size w w'):w'.ownsRow B e size v n xs:=by
 refine ⟨h.1,?_⟩
 rcases h.2 with h2|⟨g,cap,cur,a,b,c,d⟩
 ·exact .inl h2
 ·refine .inr ⟨g,cap,cur,a,b,?_,d⟩;have hlt:g<w.heap.size:=(Array.getElem?_eq_some_iff.1 c).1;rw [hq.block g hlt];exact c
theorem ownsRow_far2 {w:World} {B b:Nat} {e:TypeId} {size n:Nat} {v:Value} {xs:List Value} (h:w.ownsRow B e size v n xs) (hb:b<B) (i j:Nat) (x y:Value):((w.setCell ⟨b,i,none⟩ x).setCell ⟨b,j,none⟩ y).ownsRow B e size v n xs:=by
 refine ⟨h.1,?_⟩
 rcases h.2 with h2|⟨g,cap,cur,a,b',c,d⟩
 ·exact .inl h2
 ·refine .inr ⟨g,cap,cur,a,b',?_,d⟩;rw [Below.heap_setCell _ _ _ _ (show g≠b by omega),Below.heap_setCell _ _ _ _ (show g≠b by omega)];exact c
end Go.Proofs.YtbijggomdpaknaaGreatDoor
