/- Bounds of numbers that are added and multiplied; contracts for rows of two and three numbers. -/
import Derived.Test.YtbijggomdpaknaaGreatDoorHA
namespace Go.Proofs.YtbijggomdpaknaaGreatDoor
open Go.RowKit Go.Shelf
def Bnd (x:Dyadic) (B E:Nat):Prop:=∃ z o,x=nv z o (-(E:Int))∧o.size≤B
theorem Bnd.of {m:Bool} {s:ByteArray} {d:Int} {B K:Nat} (E:Nat) (hs:s.size≤B) (hd:-(E:Int)≤d) (hK:d+E≤8*K):Bnd (nv m s d) (B+K) E:=by
 obtain ⟨z,o,h1,h2⟩:=scaled (m:=m) (s:=s) (e:=d) E (B:=B) (K:=K) hs hd hK;exact ⟨z,o,h1,h2⟩
theorem Bnd.add {x y:Dyadic} {B E:Nat} (h:Bnd x B E) (k:Bnd y B E):Bnd (x+y) (B+1) E:=by
 obtain ⟨z,o,rfl,h1⟩:=h;obtain ⟨z2,o2,rfl,h2⟩:=k;obtain ⟨z3,o3,h3,h4⟩:=nv_add_same (m:=z) (n:=z2) (-(E:Int)) h1 h2;exact ⟨z3,o3,h3,h4⟩
theorem Bnd.mono {x:Dyadic} {B E B' : Nat} (h:Bnd x B E) (hB:B≤B'):Bnd x B' E:=by
 obtain ⟨z,o,rfl,h1⟩:=h;exact ⟨z,o,rfl,by omega⟩
theorem Bnd.neg {x:Dyadic} {B E:Nat} (h:Bnd x B E):Bnd (-x) B E:=by
 obtain ⟨z,o,rfl,h1⟩:=h;exact ⟨!z,o,nv_neg _ _ _,h1⟩
theorem Bnd.mul {x y:Dyadic} {B E B' E' : Nat} (h:Bnd x B E) (k:Bnd y B' E'):Bnd (x*y) (B+B') (E+E'):=by
 obtain ⟨z,o,rfl,h1⟩:=h;obtain ⟨z2,o2,rfl,h2⟩:=k;obtain ⟨p,q,hv,hq⟩:=nv_prod z z2 o o2 (-(E:Int)) (-(E' : Int));refine ⟨p,q,?_,by omega⟩;rw [hv]
 congr 1
 omega
theorem Bnd.form {x:Dyadic} {B E:Nat} (h:Bnd x B E) {z:Bool} {o:ByteArray} {e:Int} (hd:df x=nu z o e):o.size≤B∧-(E:Int)≤e∧e≤8*B:=by
 obtain ⟨z2,o2,rfl,h1⟩:=h;obtain ⟨h2,h3⟩:=df_exp hd h1;omega
theorem form_nv {x:Dyadic} {z:Bool} {o:ByteArray} {e:Int} (hd:df x=nu z o e):nv z o e=x:=(df_parts hd).2.2.1
def Ok3 (s:ByteArray) (d:Int):Prop:=s.size≤1000∧-10000≤d∧d≤10000
theorem Bnd.ok {x:Dyadic} {B E:Nat} (h:Bnd x B E) (hB:B≤1000) (hE:E≤10000) {z:Bool} {o:ByteArray} {e:Int} (hd:df x=nu z o e):Ok3 o e:=by
 have:=h.form hd
 unfold Ok3;omega
theorem sumD2 (m n:Bool) (s t:ByteArray) (d e:Int):sumD [(m,s,d),(n,t,e)] 2=nv m s d+nv n t e:=by
 show (0+nv m s d)+nv n t e=_;rw [Dyadic.zero_add]
theorem prodD2 (m n:Bool) (s t:ByteArray) (d e:Int):prodD [(m,s,d),(n,t,e)] 2=nv m s d*nv n t e:=by
 show (1*nv m s d)*nv n t e=_;rw [Dyadic.one_mul]
section
variable {w : World} {g : Nat} {m n p : Bool} {s t u : ByteArray} {d e f : Int} {m' : Bool} {s' : ByteArray} {e' : Int}
theorem use_yadd2 (h1:Ok3 s d) (h2:Ok3 t e) (hl:NAt w (some ⟨g,0,none⟩) [(m,s,d),(n,t,e)]) (hd:df (nv m s d+nv n t e)=nu m' s' e') :
  Calls Tryz.prog 61 #[.slice (some ⟨g,0,none⟩) 2 2] w (Ret (.agg #[.bool m',.string s',.int .i64 e']) w):=
 yadd_any w _ [(m,s,d),(n,t,e)] 2 2 rfl (by omega) (fun x h=>by
  unfold Ok3 at h1 h2;simp at h
  rcases h with rfl|rfl <;> simp only <;> omega) hl m' s' e' (by rw [sumD2];exact hd)
theorem use_ymul2 (h1:Ok3 s d) (h2:Ok3 t e) (hl:NAt w (some ⟨g,0,none⟩) [(m,s,d),(n,t,e)]) (hd:df (nv m s d*nv n t e)=nu m' s' e') :
  Calls Tryz.prog 44 #[.slice (some ⟨g,0,none⟩) 2 2] w (Ret (.agg #[.bool m',.string s',.int .i64 e']) w):=
 ymul_any w g 0 [(m,s,d),(n,t,e)] 2 2 rfl (by omega) (by omega) (by omega) (fun x h=>by
  unfold Ok3 at h1 h2;simp at h
  rcases h with rfl|rfl <;> simp only <;> omega) hl m' s' e' (by rw [prodD2];exact hd)
theorem use_ysub (h1:Ok3 s d) (h2:Ok3 t e) (hd:df (nv m s d-nv n t e)=nu m' s' e'):Calls Tryz.prog 93 #[nu m s d,nu n t e] w (Ret (.agg #[.bool m',.string s',.int .i64 e']) w):=by
 unfold Ok3 at h1 h2;exact ysub_any w m n s t d e (by omega) (by omega) (by omega) (by omega) m' s' e' hd
theorem use_ycmp (h1:Ok3 s d) (h2:Ok3 t e) (c:Int) (hc:dsg (nv m s d-nv n t e)=c):Calls Tryz.prog 31 #[nu m s d,nu n t e] w (Ret (.int .i64 c) w):=by
 unfold Ok3 at h1 h2;exact ycmp_any w m n s t d e (by omega) (by omega) (by omega) (by omega) c hc
end
end Go.Proofs.YtbijggomdpaknaaGreatDoor
