/- DyadForms: what its cases have in common. -/
import Derived.Test.YteofihmlgiepfaaGreatDoorHQ
import Derived.Test.YteofihmlgiepfaaGreatDoorHP
namespace Go.Proofs.YteofihmlgiepfaaGreatDoor
open Go.RowKit Go.Shelf
theorem longd_false {most:Nat} {far:Int} {l:List NV} (h:longD most far l=false):∀ x∈l,x.2.1.size≤most∧-far≤x.2.2∧x.2.2≤far:=by
 intro x hx;unfold longD at h
 have:=List.any_eq_false.1 h x hx
 simp at this;omega
theorem size_neg {m:Bool} {s:ByteArray} {e:Int} (h:sg (wv m s)<0):nv (!m) s e=nv false s e:=by
 cases m with
 | true=>rfl
 | false =>
  rcases sg_cases (wv false s) with ⟨_,h2⟩|⟨h1,_⟩|⟨_,h2⟩
  ·omega
  ·rw [wv_false] at h1;omega
  ·omega
theorem size_pos {m:Bool} {s:ByteArray} {e:Int} (h:¬sg (wv m s)<0):nv m s e=nv false s e:=by
 cases m with
 | false=>rfl
 | true =>
  rcases sg_cases (wv true s) with ⟨h1,_⟩|⟨_,h2⟩|⟨h1,_⟩
  ·have h3:num s=0:=by have:=wv_abs true s;omega
   rw [nv_nought h3,nv_nought h3]
  ·omega
  ·rw [wv_true] at h1;omega
end Go.Proofs.YteofihmlgiepfaaGreatDoor
