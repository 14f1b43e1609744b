/- Rows of spans in memory. No function is walked in this text. -/
import Derived.Test.YteofihmlgiepfaaGreatDoorSMem
namespace Go.Proofs.YteofihmlgiepfaaGreatDoor
open Go.RowKit Go.Shelf
abbrev SV:=NV × NV
def SAt (w:World) (ad:Option Addr) (l:List SV):Prop:=∀ i (h:i<l.length),∃ lb lo,ad=some ⟨lb,lo,none⟩∧lb<w.heap.size ∧
 (w.cell? ⟨lb,lo+i*6,none⟩=some (.bool l[i].1.1)∧w.cell? ⟨lb,lo+i*6+1,none⟩=some (.string l[i].1.2.1)∧w.cell? ⟨lb,lo+i*6+2,none⟩=some (.int .i64 l[i].1.2.2)) ∧
 (w.cell? ⟨lb,lo+i*6+3,none⟩=some (.bool l[i].2.1)∧w.cell? ⟨lb,lo+i*6+4,none⟩=some (.string l[i].2.2.1)∧w.cell? ⟨lb,lo+i*6+5,none⟩=some (.int .i64 l[i].2.2.2))
theorem SAt.below {w w' : World} {ad:Option Addr} {l:List SV} (h:SAt w ad l) (hb:Below w.heap.size w w'):SAt w' ad l:=by
 intro i hi;obtain ⟨lb,lo,e,hl,⟨h1,h2,h3⟩,h4,h5,h6⟩:=h i hi;have hsz:=hb.size;exact ⟨lb,lo,e,by omega,⟨by rw [hb.cell hl];exact h1,by rw [hb.cell hl];exact h2,by rw [hb.cell hl];exact h3⟩,by rw [hb.cell hl];exact h4,by rw [hb.cell hl];exact h5,by rw [hb.cell hl];exact h6⟩
theorem SAt.alloc {w:World} {ad:Option Addr} {l:List SV} (h:SAt w ad l) (o:Obj):SAt (w.alloc o) ad l:=h.below ((Below.refl _ _).alloc (Nat.le_refl _) _)
theorem SAt.drew {w:World} {ad:Option Addr} {l:List SV} (h:SAt w ad l):SAt w.drew ad l:=h
def flat:List SV→List NV
 | []=>[]
 | x::l=>x.1::x.2::flat l
theorem flat_len:∀ l:List SV,(flat l).length=2*l.length
 | []=>rfl
 | x::l=>by simp [flat,flat_len l];omega
theorem flat_get:∀ (l:List SV) (i:Nat) (h:i<l.length),(flat l)[2*i]?=some l[i].1∧(flat l)[2*i+1]?=some l[i].2
 | [],i,h=>by simp at h
 | x::l,0,h=>⟨rfl,rfl⟩
 | x::l,i+1,h=>by
  have:=flat_get l i (by simpa using h)
  rw [show 2*(i+1)=2*i+1+1 by omega];exact this
theorem SAt.nums {w:World} {ad:Option Addr} {l:List SV} (h:SAt w ad l):NAt w ad (flat l):=by
 intro j hj;have hl:=flat_len l;obtain ⟨i,hi⟩:∃ i,j=2*i∨j=2*i+1:=⟨j / 2,by omega⟩;have hil:i<l.length:=by omega
 obtain ⟨lb,lo,e,hb,⟨h1,h2,h3⟩,h4,h5,h6⟩:=h i hil;obtain ⟨g1,g2⟩:=flat_get l i hil
 rcases hi with rfl|rfl
 ·rw [List.getElem?_eq_getElem hj,Option.some.injEq] at g1;refine ⟨lb,lo,e,hb,?_⟩;rw [g1,show lo+2*i*3=lo+i*6 by omega];exact ⟨h1,h2,h3⟩
 ·rw [List.getElem?_eq_getElem hj,Option.some.injEq] at g2;refine ⟨lb,lo,e,hb,?_⟩;rw [g2,show lo+(2*i+1)*3=lo+i*6+3 by omega];exact ⟨h4,h5,h6⟩
theorem SAt.of_flat {w:World} {ad:Option Addr} {l:List SV} (h:NAt w ad (flat l)):SAt w ad l:=by
 intro i hil;have hl:=flat_len l;obtain ⟨g1,g2⟩:=flat_get l i hil;have j1:2*i<(flat l).length:=by omega
 have j2:2*i+1<(flat l).length:=by omega
 obtain ⟨lb,lo,e,hb,h1,h2,h3⟩:=h _ j1;obtain ⟨lb',lo',e',_,h4,h5,h6⟩:=h _ j2;rw [e] at e';simp only [Option.some.injEq,Addr.mk.injEq,and_true] at e';obtain ⟨rfl,rfl⟩:=e';rw [List.getElem?_eq_getElem j1,Option.some.injEq] at g1;rw [List.getElem?_eq_getElem j2,Option.some.injEq] at g2;rw [g1,show lo+2*i*3=lo+i*6 by omega] at h1 h2 h3;rw [g2,show lo+(2*i+1)*3=lo+i*6+3 by omega] at h4 h5 h6;exact ⟨lb,lo,e,hb,⟨h1,h2,h3⟩,h4,h5,h6⟩
theorem SAt.new (w:World) (t:TypeId) (l:List SV) (L:Array Value) (hL:L=(ncells (flat l)).toArray):SAt (w.alloc (.cells L t)) (some ⟨w.heap.size,0,none⟩) l:=
 SAt.of_flat (NAt.new w t _ L hL)
end Go.Proofs.YteofihmlgiepfaaGreatDoor
