/- The least and the greatest of rows; sums of spans' ends. No function is walked in this text. -/
import Derived.Test.YteofihmlgiepfaaGreatDoorSLong
import Derived.Test.YteofihmlgiepfaaGreatDoorS5
namespace Go.Proofs.YteofihmlgiepfaaGreatDoor
open Go.RowKit Go.Shelf
theorem far_least {l:List NV}:∀ k,0<k→k≤l.length→(∀ i (h:i<l.length),i<k→(farD (-1) l k).toRat≤(nvl l[i]).toRat)∧∃ i,∃ h:i<l.length,i<k∧farD (-1) l k=nvl l[i]
 | 0,h,_=>absurd h (by omega)
 | 1,_,hl=>by
  rw [farD_one (-1) hl];refine ⟨fun i h hi=>?_,0,hl,by omega,rfl⟩;obtain rfl:i=0:=by omega
  exact Rat.le_refl
 | k+2,_,hl=>by
  obtain ⟨h1,i,hi,hik,h2⟩:=far_least (l:=l) (k+1) (by omega) (by omega);rw [farD_succ (-1) (by omega) (show k+1<l.length by omega)];have hd:=dsg_sub_neg (x:=nvl l[k+1]) (y:=farD (-1) l (k+1))
  split
  ·rename_i hc
   have hlt:(nvl l[k+1]).toRat<(farD (-1) l (k+1)).toRat:=hd.1 (by omega);refine ⟨fun j hj hjk=>?_,k+1,by omega,by omega,rfl⟩
   rcases Nat.lt_or_ge j (k+1) with h|h
   ·exact Rat.le_trans (Rat.le_of_lt hlt) (h1 j hj h)
   ·obtain rfl:j=k+1:=by omega
    exact Rat.le_refl
  ·rename_i hc
   have hge:¬ (nvl l[k+1]).toRat<(farD (-1) l (k+1)).toRat:=fun h=>hc (by have:=hd.2 h;omega);refine ⟨fun j hj hjk=>?_,i,hi,by omega,h2⟩
   rcases Nat.lt_or_ge j (k+1) with h|h
   ·exact h1 j hj h
   ·obtain rfl:j=k+1:=by omega
    grind
theorem far_most {l:List NV}:∀ k,0<k→k≤l.length→(∀ i (h:i<l.length),i<k→(nvl l[i]).toRat≤(farD 1 l k).toRat)∧∃ i,∃ h:i<l.length,i<k∧farD 1 l k=nvl l[i]
 | 0,h,_=>absurd h (by omega)
 | 1,_,hl=>by
  rw [farD_one 1 hl];refine ⟨fun i h hi=>?_,0,hl,by omega,rfl⟩;obtain rfl:i=0:=by omega
  exact Rat.le_refl
 | k+2,_,hl=>by
  obtain ⟨h1,i,hi,hik,h2⟩:=far_most (l:=l) (k+1) (by omega) (by omega);rw [farD_succ 1 (by omega) (show k+1<l.length by omega)];have hd:=dsg_sub_pos (x:=nvl l[k+1]) (y:=farD 1 l (k+1))
  split
  ·rename_i hc
   have hlt:(farD 1 l (k+1)).toRat<(nvl l[k+1]).toRat:=hd.1 (by omega);refine ⟨fun j hj hjk=>?_,k+1,by omega,by omega,rfl⟩
   rcases Nat.lt_or_ge j (k+1) with h|h
   ·exact Rat.le_trans (h1 j hj h) (Rat.le_of_lt hlt)
   ·obtain rfl:j=k+1:=by omega
    exact Rat.le_refl
  ·rename_i hc
   have hge:¬ (farD 1 l (k+1)).toRat<(nvl l[k+1]).toRat:=fun h=>hc (by have:=hd.2 h;omega);refine ⟨fun j hj hjk=>?_,i,hi,by omega,h2⟩
   rcases Nat.lt_or_ge j (k+1) with h|h
   ·exact h1 j hj h
   ·obtain rfl:j=k+1:=by omega
    grind
theorem flat_at (l:List SV) (i:Nat) (h:i<l.length):∃ (h1:2*i<(flat l).length) (h2:2*i+1<(flat l).length),(flat l)[2*i]=l[i].1∧(flat l)[2*i+1]=l[i].2:=by
 have hl:=flat_len l;obtain ⟨g1,g2⟩:=flat_get l i h;refine ⟨by omega,by omega,?_,?_⟩
 ·rw [List.getElem?_eq_getElem (by omega),Option.some.injEq] at g1;exact g1
 ·rw [List.getElem?_eq_getElem (by omega),Option.some.injEq] at g2;exact g2
theorem flat_low (l:List SV):farD (-1) (flat l) (2*l.length)=farD (-1) (l.map lowS) l.length:=by
 rcases Nat.eq_zero_or_pos l.length with h0|h0
 ·rw [h0];rfl
 ·have hl:=flat_len l;obtain ⟨a1,i,hi,hik,a2⟩:=far_least (l:=flat l) (2*l.length) (by omega) (by omega);obtain ⟨b1,j,hj,hjk,b2⟩:=far_least (l:=l.map lowS) l.length h0 (by simp);rw [← Dyadic.toRat_inj]
  apply Rat.le_antisymm
  ·rw [b2,List.getElem_map];obtain ⟨h1,h2,e1,e2⟩:=flat_at l j hjk;have c1:=a1 (2*j) h1 (by omega);have c2:=a1 (2*j+1) h2 (by omega);rw [e1] at c1;rw [e2] at c2
   rcases lowN_pick l[j].1 l[j].2 with h|h
   ·rw [show lowS l[j]=l[j].1 from h];exact c1
   ·rw [show lowS l[j]=l[j].2 from h];exact c2
  ·rw [a2];obtain ⟨k,hk⟩:∃ k,i=2*k∨i=2*k+1:=⟨i / 2,by omega⟩;have hkl:k<l.length:=by omega
   have c:=b1 k (by simpa using hkl) hkl;rw [List.getElem_map,show nvl (lowS l[k])=_ from lowN_val _ _] at c;obtain ⟨h1,h2,e1,e2⟩:=flat_at l k hkl;have sp:=dlo_spec (nvl l[k].1) (nvl l[k].2)
   rcases hk with rfl|rfl
   ·rw [e1];exact Rat.le_trans c sp.1
   ·rw [e2];exact Rat.le_trans c sp.2.1
theorem flat_high (l:List SV):farD 1 (flat l) (2*l.length)=farD 1 (l.map highS) l.length:=by
 rcases Nat.eq_zero_or_pos l.length with h0|h0
 ·rw [h0];rfl
 ·have hl:=flat_len l;obtain ⟨a1,i,hi,hik,a2⟩:=far_most (l:=flat l) (2*l.length) (by omega) (by omega);obtain ⟨b1,j,hj,hjk,b2⟩:=far_most (l:=l.map highS) l.length h0 (by simp);rw [← Dyadic.toRat_inj]
  apply Rat.le_antisymm
  ·rw [a2];obtain ⟨k,hk⟩:∃ k,i=2*k∨i=2*k+1:=⟨i / 2,by omega⟩;have hkl:k<l.length:=by omega
   have c:=b1 k (by simpa using hkl) hkl;rw [List.getElem_map,show nvl (highS l[k])=_ from highN_val _ _] at c;obtain ⟨h1,h2,e1,e2⟩:=flat_at l k hkl;have sp:=dhi_spec (nvl l[k].1) (nvl l[k].2)
   rcases hk with rfl|rfl
   ·rw [e1];exact Rat.le_trans sp.1 c
   ·rw [e2];exact Rat.le_trans sp.2.1 c
  ·rw [b2,List.getElem_map];obtain ⟨h1,h2,e1,e2⟩:=flat_at l j hjk;have c1:=a1 (2*j) h1 (by omega);have c2:=a1 (2*j+1) h2 (by omega);rw [e1] at c1;rw [e2] at c2
   rcases highN_pick l[j].1 l[j].2 with h|h
   ·rw [show highS l[j]=l[j].1 from h];exact c1
   ·rw [show highS l[j]=l[j].2 from h];exact c2
theorem sfar_q (w:World) (ad:Option Addr) (l:List SV) (n c:Nat) (hn:l.length=n) (hmax:n≤4611686018427387904) (hl:SAt w ad l) {r:Bool} (hr:farD5 l=r) :
  Calls Tryz.prog 9 #[.slice ad n c] w (Ret (.bool r) w):=by
 refine (sfar_any w ad l n c hn hmax hl).mono ?_;rintro e V ⟨rfl,hq⟩;exact ⟨by rw [hr],hq⟩
theorem far_pair {x y:SV} (h:farD5 [x,y]=false):((x.1.2.1.size≤40∧-300≤x.1.2.2∧x.1.2.2≤300)∧(x.2.2.1.size≤40∧-300≤x.2.2.2∧x.2.2.2≤300)) ∧
  ((y.1.2.1.size≤40∧-300≤y.1.2.2∧y.1.2.2≤300)∧(y.2.2.1.size≤40∧-300≤y.2.2.2∧y.2.2.2≤300)):=by
 have h1:longD 40 300 [x.1,x.2]=false∧longD 40 300 [y.1,y.2]=false:=by
  unfold farD5 at h;simpa using h
 exact ⟨⟨longd_false h1.1 x.1 (by simp),longd_false h1.1 x.2 (by simp)⟩,⟨longd_false h1.2 y.1 (by simp),longd_false h1.2 y.2 (by simp)⟩⟩
def OkF (m:Bool) (s:ByteArray) (d:Int):Prop:=Ok3 s d∧∀ z o e,df (nv m s d)=nu z o e→Ok3 o e
theorem OkF.form {m:Bool} {s:ByteArray} {d:Int} (h:OkF m s d) {z:Bool} {o:ByteArray} {e:Int} (k:df (nv m s d)=nu z o e):Ok3 o e:=h.2 _ _ _ k
theorem OkF.of2 {s:ByteArray} {d:Int} (m:Bool) (h:Ok2 s d):OkF m s d:=⟨h.ok3,fun _ _ _ k=>h.form k⟩
end Go.Proofs.YteofihmlgiepfaaGreatDoor
