/- Facts for there and back (layer 6). No function is walked in this text. -/
import Derived.Test.YtiddgplapodleaaGreatDoorHZ
import Derived.Test.YtiddgplapodleaaGreatDoorHV
namespace Go.Proofs.YtiddgplapodleaaGreatDoor
open Go.RowKit Go.Shelf Go.Lib
def fN (x:NV):NV:=(decide (dm (nvl x)<0),fb (dm (nvl x)).natAbs,de (nvl x))
theorem fN_df (x:NV):df (nvl x)=nu (fN x).1 (fN x).2.1 (fN x).2.2:=rfl
def CloseN (x:NV):Prop:=x.2.1.size≤24∧-32000≤x.2.2∧x.2.2≤32000
theorem close_form {x:NV} (h:CloseN x):(-32768≤de (nvl x)∧de (nvl x)≤32768)∧(fN x).2.1.size≤24:=by
 obtain ⟨h1,h2,h3⟩:=h;obtain ⟨h4,h5⟩:=df_exp (show df (nv x.1 x.2.1 x.2.2)=nu (fN x).1 (fN x).2.1 (fN x).2.2 from fN_df x) h1;have h6:(fN x).2.2=de (nvl x):=rfl;rw [h6] at h4;exact ⟨by omega,h5⟩
theorem numT_size {z:Bool} {o:ByteArray} {x:Int} {q:Nat} (hq:o.size≤q) (hx:-100000≤x∧x≤100000):(numT (wv z o) x).length≤3*q+14:=by
 have h1:(itoa (wv z o)).length≤3*o.size+2:=itoa_size z o rfl;obtain ⟨ze,oe,ke,ve,se⟩:=nmw (z:=x) (k:=3) (by have:(256:Nat) ^ 3=16777216:=rfl;omega);have h2:(itoa (wv ze oe)).length≤3*oe.size+2:=itoa_size ze oe rfl;rw [ve] at h2;unfold numT
 split
 ·simp;omega
 ·simp;omega
theorem own_text (x:NV):(ownB x).data.toList=numT (dm (nvl x)) (de (nvl x)):=by
 unfold ownB;simp
theorem own_short {x:NV} (h:CloseN x):(ownB x).data.toList.length≤100:=by
 obtain ⟨h1,h2⟩:=close_form h;obtain ⟨g1,g2,-⟩:=df_parts (fN_df x);rw [own_text,← g1,← g2];have h3:=numT_size (z:=(fN x).1) h2 (x:=(fN x).2.2) (by rw [g2];omega);omega
theorem det_own {x:Dyadic} {s:ByteArray} {z:Bool} {o:ByteArray} {e:Int} (hs:s.data.toList=numT (dm x) (de x)) (he:-32768≤de x∧de x≤32768) (hd:df x=nu z o e):Det s z o e 0 0:=by
 intro k r z' o' x' p c hP h;obtain ⟨h1,h2,h3⟩:=own_parsed hs he hP h;obtain ⟨g1,g2,g3⟩:=nu_inj (h1.symm.trans hd);exact ⟨g1,g2,g3,h2,h3⟩
theorem row_text (l:List NV):(rowB l).data.toList=Lib.join (l.map fun x=>(ownB x).data.toList) [32]:=by
 unfold rowB;simp
theorem row_cut {l:List NV} (hne:l≠[]):cutP (rowB l).data.toList=l.map fun x=>(ownB x).data.toList:=by
 rw [row_text];refine cutP_join _ (by simpa using hne) fun t ht b hb e=>?_;obtain ⟨x,hx,rfl⟩:=List.mem_map.1 ht;rw [own_text] at hb;subst e;have h:(32:UInt8).toNat=32:=rfl
 rcases numT_byte hb with h1|h1|h1 <;> omega
theorem fate_row {l:List NV} (hne:l≠[]) (h:∀ x∈l,CloseN x):Fate (rowB l) (l.map fN) 0 0:=by
 have hc:=row_cut hne;refine ⟨fun t ht=>?_,fun i hi t ht=>?_,.inl ⟨by rw [hc];simp,rfl⟩⟩
 ·rw [hc] at ht;obtain ⟨x,hx,rfl⟩:=List.mem_map.1 ht
  have:=own_short (h x hx)
  omega
 ·rw [hc] at ht;have hil:i<l.length:=by simpa using hi
  rw [List.getElem?_map,List.getElem?_eq_getElem hil] at ht;have ht2:t.data.toList=numT (dm (nvl l[i])) (de (nvl l[i])):=by
   rw [← own_text];exact (Option.some.inj ht).symm
  rw [List.getElem_map];exact det_own ht2 (close_form (h _ (List.getElem_mem hil))).1 (fN_df _)
theorem row_short {l:List NV} (hl:l.length≤20) (h:∀ x∈l,CloseN x):(rowB l).size≤100000:=by
 have h1:=join_len [32] 100 (l.map fun x=>(ownB x).data.toList) (fun t ht=>by
  obtain ⟨x,hx,rfl⟩:=List.mem_map.1 ht;exact own_short (h x hx))
 have h2:(rowB l).data.toList.length=(rowB l).size:=rfl;rw [row_text] at h2;rw [List.length_map] at h1;have h3:l.length*([32].length+100)≤20*101:=Nat.mul_le_mul hl (Nat.le_refl _);omega
theorem row_some {l:List NV} (hne:l≠[]):(rowB l).toList.isEmpty=false:=by
 cases l with
 | nil=>exact absurd rfl hne
 | cons x l =>
  rw [ByteArray.toList_eq,row_text,List.map_cons,Lib.join_cons,own_text]
  cases hn:numT (dm (nvl x)) (de (nvl x)) with
  | nil=>exact absurd hn (numT_ne _ _)
  | cons a t=>rfl
theorem lit_bounds {l:List UInt8} {k:Nat} {r:Int} {z:Bool} {o:ByteArray} {x p:Int} (hl:l.length≤60) (h:LitAt l k r z o x p 0):o.size≤60∧-40000≤x∧x≤40000:=by
 have main:∀ {A:List UInt8} {B:Int} {m:Bool} {s:ByteArray} {e:Int},isBad A=false→A.length≤60→df (dI (tV A) B)=nu m s e→s.size≤60∧(e=0∨(B≤e∧e≤B+480)):=by
  intro A B m s e hA hlen hd;obtain ⟨z1,o1,-,hv,hs⟩:=tV_named hA hlen;rw [← hv] at hd;obtain ⟨h1,h2⟩:=df_exp (show df (nv z1 o1 B)=nu m s e from hd) hs;exact ⟨h2,by omega⟩
 have t1:(l.take k).length≤60:=by
  rw [List.length_take];omega
 have t2:(l.drop (k+1)).length≤60:=by
  rw [List.length_drop];omega
 unfold LitAt at h
 rcases h with ⟨-,-,-,-,-,h⟩|⟨g1,⟨-,h,-⟩|⟨-,⟨-,-,-,-,-,h⟩|⟨g2,⟨-,⟨e,g3,h⟩,-⟩|⟨-,-,-,-,-,-,h⟩|⟨-,g3,h,-⟩|⟨-,-,-,-,-,-,h⟩⟩⟩⟩
 ·omega
 ·have:=main g1 t1 h
  omega
 ·omega
 ·have h1:=main g2 t2 g3;have h2:=main g1 t1 h;omega
 ·omega
 ·have:=main g1 t1 h
  omega
 ·omega
end Go.Proofs.YtiddgplapodleaaGreatDoor
