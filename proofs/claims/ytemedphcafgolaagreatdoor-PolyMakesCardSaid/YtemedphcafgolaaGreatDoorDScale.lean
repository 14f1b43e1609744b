/- Package digits: the scales 10^18, its square, and so on, walked. -/
import Derived.Test.YtemedphcafgolaaGreatDoorDMem
import Derived.WalkSmall
namespace Go.Proofs.YtemedphcafgolaaGreatDoor
open Go.RowKit Go.Shelf
def sc (k:Nat):Nat:=10 ^ (18*2 ^ k)
theorem sc_succ (k:Nat):sc (k+1)=sc k*sc k:=by
 unfold sc;rw [← Nat.pow_add,Nat.pow_succ]
 congr 1
 omega
theorem sc_zero:sc 0=1000000000000000000:=by kernel_rfl
theorem sc_ge (k:Nat):2 ^ (k+1)≤sc k:=by
 induction k with
 | zero=>rw [sc_zero];decide
 | succ k ih =>
  rw [sc_succ,Nat.pow_succ];refine Nat.mul_le_mul ih ?_;refine Nat.le_trans ?_ ih;rw [Nat.pow_succ]
  have:=Nat.two_pow_pos k
  omega
theorem sc_pos (k:Nat):0<sc k:=Nat.lt_of_lt_of_le (Nat.two_pow_pos _) (sc_ge k)
theorem sc_bl (k:Nat):k<bl (sc k):=by
 have h1:=sc_ge k;have h2:=(bl_bounds (sc_pos k)).2.2;have h3:2 ^ (k+1)<2 ^ bl (sc k):=Nat.lt_of_le_of_lt h1 h2;have h4:=(Nat.pow_lt_pow_iff_right (a:=2) (by omega)).1 h3;omega
def scl (n:Nat):List IV:=(List.range n).map fun i=>(false,fb (sc i))
theorem scl_len (n:Nat):(scl n).length=n:=by simp [scl]
theorem scl_succ (n:Nat):scl (n+1)=scl n++[(false,fb (sc n))]:=by simp [scl,List.range_succ]
theorem scl_get (n i:Nat) (h:i<(scl n).length):(scl n)[i]=(false,fb (sc i)):=by simp [scl]
theorem icells_app:∀ (l m:List IV),icells (l++m)=icells l++icells m
 | [],_=>rfl
 | x::l,m=>by rw [List.cons_append,icells,icells,icells_app l m];rfl
theorem p256 (n:Nat):256 ^ n=2 ^ (8*n):=by rw [Nat.pow_mul]
theorem ownsRow_below {w w' : World} {B:Nat} {e:TypeId} {size n:Nat} {v:Value} {xs:List Value} (h:w.ownsRow B e size v n xs) (hq:Below w.heap.size w w'):w'.ownsRow B e size v n xs:=by
 refine ⟨h.1,?_⟩
 rcases h.2 with h2|⟨g,cap,cur,a,b,c,d⟩
 ·exact .inl h2
 ·refine .inr ⟨g,cap,cur,a,b,?_,d⟩;have hlt:g<w.heap.size:=(Array.getElem?_eq_some_iff.1 c).1;rw [hq.block g hlt];exact c
theorem ownsRow_far2 {w:World} {B b:Nat} {e:TypeId} {size n:Nat} {v:Value} {xs:List Value} (h:w.ownsRow B e size v n xs) (hb:b<B) (i j:Nat) (x y:Value):((w.setCell ⟨b,i,none⟩ x).setCell ⟨b,j,none⟩ y).ownsRow B e size v n xs:=by
 refine ⟨h.1,?_⟩
 rcases h.2 with h2|⟨g,cap,cur,a,b',c,d⟩
 ·exact .inl h2
 ·refine .inr ⟨g,cap,cur,a,b',?_,d⟩;rw [Below.heap_setCell _ _ _ _ (show g≠b by omega),Below.heap_setCell _ _ _ _ (show g≠b by omega)];exact c
theorem sc_mono {i k:Nat} (h:i≤k):sc i≤sc k:=by
 unfold sc;exact Nat.pow_le_pow_right (by omega) (Nat.mul_le_mul_left _ (Nat.pow_le_pow_right (by omega) h))
theorem sc_sizes {i k B:Nat} (h:i≤k) (hk:(fb (sc k)).size≤B):(fb (sc i)).size≤B:=by
 refine Nat.le_trans (fb_size_le (k:=(fb (sc k)).size) ?_) hk;have h1:=num_lt (fb (sc k));rw [num_fb] at h1;exact Nat.lt_of_le_of_lt (sc_mono h) h1
theorem sc_width {k B:Nat} (hk:(fb (sc k)).size≤B):18*2 ^ k≤8*B:=by
 have h1:=num_lt (fb (sc k));rw [num_fb,p256] at h1;have h2:2 ^ (18*2 ^ k)≤sc k:=Nat.pow_le_pow_left (by omega) _;have h3:=(Nat.pow_lt_pow_iff_right (a:=2) (by omega)).1 (Nat.lt_of_le_of_lt h2 h1);omega
def lenS:Value→Nat | .slice _ n _=>n|_=>0
def SCI (w wr:World) (B:Nat) (v:Value) (k:Nat):Prop:=
 (∃ g cap,v=.slice (some ⟨g,0,none⟩) (k+1) cap)∧wr.ownsRow (B+1) 24 2 v (k+1) (icells (scl (k+1)))∧Bk wr B #[.bool false,.string (fb (sc k))]∧Below w.heap.size w wr∧(fb (sc k)).size≤20000∧k≤80000
end Go.Proofs.YtemedphcafgolaaGreatDoor
