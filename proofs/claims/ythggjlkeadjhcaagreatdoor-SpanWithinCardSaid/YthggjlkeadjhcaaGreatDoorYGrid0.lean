/- Numbers between their Floor and their Ceil; no function is walked in this text. -/
import Derived.Test.YthggjlkeadjhcaaGreatDoorYBnd
namespace Go.Proofs.YthggjlkeadjhcaaGreatDoor
open Go.RowKit Go.Shelf
def ceilD (x:Dyadic) (p:Int):Dyadic:=-((-x).roundDown p)
theorem df_neg {x:Dyadic} {m:Bool} {s:ByteArray} {e c:Int} (h:df x=nu m s e) (hc:sg (wv m s)=c):df (-x)=nu (decide (0<c)) s e:=by
 obtain ⟨h1,h2,h3,h4⟩:=df_parts h;have h5:=(nu_inj h).2.1;subst hc
 cases x with
 | zero =>
  obtain ⟨rfl,rfl,rfl⟩:=nu_inj (show nu false ⟨#[]⟩ 0=nu m s e from h);rfl
 | ofOdd n k hn =>
  have e1:dm (Dyadic.ofOdd n k hn)=n:=rfl;rw [e1] at h1;have hneg:-(Dyadic.ofOdd n k hn)=Dyadic.ofOdd (-n) k (by omega):=rfl;rw [hneg];unfold df;have e2:dm (Dyadic.ofOdd (-n) k (by omega))=-n:=rfl;have e3:de (Dyadic.ofOdd (-n) k (by omega))=de (Dyadic.ofOdd n k hn):=rfl;rw [e2,e3,Int.natAbs_neg,h1,← h2];have h6:fb n.natAbs=s:=h5;rw [h6];unfold nu
  congr 2
  have h7:decide (-n<0)=decide (0<sg n):=by
   rcases sg_cases n with ⟨h8,h9⟩|⟨h8,h9⟩|⟨h8,h9⟩
   ·omega
   ·rw [decide_eq_false (by omega),decide_eq_false (by omega)]
   ·rw [decide_eq_true (by omega),decide_eq_true (by omega)]
  rw [h7]
theorem use_yceil {w:World} {m:Bool} {s:ByteArray} {e p:Int} (hs:s.size≤100000) (he:-1000000≤e∧e≤1000000) (hp:-1000000≤p∧p≤1000000) {z:Bool} {o:ByteArray} {e2:Int} (hd:df (ceilD (nv m s e) p)=nu z o e2) :
  Calls Tryz.prog 83 #[nu m s e,.int .i64 p] w (Ret (.agg #[.bool z,.string o,.int .i64 e2]) w):=by
 obtain ⟨m1,s1,e1,h1⟩:=df_some ((nv (!m) s e).roundDown p);have h2:=df_neg h1 rfl;have h3:ceilD (nv m s e) p=-((nv (!m) s e).roundDown p):=by unfold ceilD;rw [nv_neg]
 rw [h3,h2] at hd;obtain ⟨rfl,rfl,rfl⟩:=nu_inj hd;exact yceil_any w m s e p hs he hp m1 s1 e1 h1 _ rfl
end Go.Proofs.YthggjlkeadjhcaaGreatDoor
