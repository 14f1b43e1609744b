/- DyadForms: what its cases have in common. -/
import Derived.Test.YtbijggomdpaknaaGreatDoorHQ
import Derived.Test.YtbijggomdpaknaaGreatDoorHP
namespace Go.Proofs.YtbijggomdpaknaaGreatDoor
open Go.RowKit Go.Shelf
theorem size_neg {m:Bool} {s:ByteArray} {e:Int} (h:sg (wv m s)<0):nv (!m) s e=nv false s e:=by
 cases m with
 | true=>rfl
 | false =>
  rcases sg_cases (wv false s) with ⟨_,h2⟩|⟨h1,_⟩|⟨_,h2⟩
  ·omega
  ·rw [wv_false] at h1;omega
  ·omega
theorem size_pos {m:Bool} {s:ByteArray} {e:Int} (h:¬sg (wv m s)<0):nv m s e=nv false s e:=by
 cases m with
 | false=>rfl
 | true =>
  rcases sg_cases (wv true s) with ⟨h1,_⟩|⟨_,h2⟩|⟨h1,_⟩
  ·have h3:num s=0:=by have:=wv_abs true s;omega
   rw [nv_nought h3,nv_nought h3]
  ·omega
  ·rw [wv_true] at h1;omega
end Go.Proofs.YtbijggomdpaknaaGreatDoor
