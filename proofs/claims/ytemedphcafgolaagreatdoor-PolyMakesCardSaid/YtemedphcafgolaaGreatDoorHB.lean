/- Layer 1, laid together: SMem, SRow, SOrd. -/
import Derived.Test.YtemedphcafgolaaGreatDoorYRat
/- Blocks that hold a span (two numbers),rows of numbers that are written,a function's answer out of such a block. No function is walked in this text. -/
namespace Go.Proofs.YtemedphcafgolaaGreatDoor
open Go.RowKit Go.Shelf
def su (m:Bool) (s:ByteArray) (d:Int) (n:Bool) (t:ByteArray) (e:Int):Value:=.agg #[.bool m,.string s,.int .i64 d,.bool n,.string t,.int .i64 e]
def Sk (W:World) (b:Nat) (T:TypeId) (m:Bool) (s:ByteArray) (d:Int) (n:Bool) (t:ByteArray) (e:Int):Prop:=Rw W b T [.bool m,.string s,.int .i64 d,.bool n,.string t,.int .i64 e]
section
variable {W W' : World} {b : Nat} {T : TypeId} {m n : Bool} {s t : ByteArray} {d e : Int}
theorem Sk.lt (h:Sk W b T m s d n t e):b<W.heap.size:=Rw.lt h
theorem Sk.new (w:World) (T:TypeId) (m:Bool) (s:ByteArray) (d:Int) (n:Bool) (t:ByteArray) (e:Int):Sk (w.alloc (.cells #[.bool m,.string s,.int .i64 d,.bool n,.string t,.int .i64 e] T)) w.heap.size T m s d n t e:=Rw.new w _ [.bool m,.string s,.int .i64 d,.bool n,.string t,.int .i64 e]
theorem Sk.alloc (h:Sk W b T m s d n t e) (o:Obj):Sk (W.alloc o) b T m s d n t e:=Rw.alloc h o
theorem Sk.below (h:Sk W b T m s d n t e) (hq:Below W.heap.size W W'):Sk W' b T m s d n t e:=Rw.below h hq (Rw.lt h)
theorem Sk.drew (h:Sk W b T m s d n t e):Sk W.drew b T m s d n t e:=h
theorem Sk.far (h:Sk W b T m s d n t e) {p:Addr} (hp:b≠p.block) (u:Value):Sk (W.setCell p u) b T m s d n t e:=Rw.far h hp u
theorem Sk.fr {W:World} {b:Nat} {T:TypeId} {m:Bool} {s:ByteArray} {d:Int} {n:Bool} {t:ByteArray} {e:Int} (h:Sk W b T m s d n t e) (A k:Nat) (u:Value) (hp:b≠A:=by omega):Sk (W.setCell ⟨A,k,none⟩ u) b T m s d n t e:=h.far (p:=⟨A,k,none⟩) hp u
theorem Sk.cells (h:Sk W b T m s d n t e):W.cell? ⟨b,0,none⟩=some (.bool m)∧W.cell? ⟨b,1,none⟩=some (.string s)∧W.cell? ⟨b,2,none⟩=some (.int .i64 d) ∧
  W.cell? ⟨b,3,none⟩=some (.bool n)∧W.cell? ⟨b,4,none⟩=some (.string t)∧W.cell? ⟨b,5,none⟩=some (.int .i64 e):=
 ⟨Rw.cell h 0,Rw.cell h 1,Rw.cell h 2,Rw.cell h 3,Rw.cell h 4,Rw.cell h 5⟩
theorem Sk.facts (h:Sk W b T m s d n t e):W.cell? ⟨b,0,none⟩=some (.bool m)∧W.cell? ⟨b,1,none⟩=some (.string s)∧W.cell? ⟨b,2,none⟩=some (.int .i64 d) ∧
  W.cell? ⟨b,3,none⟩=some (.bool n)∧W.cell? ⟨b,4,none⟩=some (.string t)∧W.cell? ⟨b,5,none⟩=some (.int .i64 e) ∧
  W.frozen? ⟨b,0,none⟩=false∧W.frozen? ⟨b,1,none⟩=false∧W.frozen? ⟨b,2,none⟩=false∧W.frozen? ⟨b,3,none⟩=false∧W.frozen? ⟨b,4,none⟩=false∧W.frozen? ⟨b,5,none⟩=false:=
 ⟨Rw.cell h 0,Rw.cell h 1,Rw.cell h 2,Rw.cell h 3,Rw.cell h 4,Rw.cell h 5,Rw.frozen h 0,Rw.frozen h 1,Rw.frozen h 2,Rw.frozen h 3,Rw.frozen h 4,Rw.frozen h 5⟩
end
theorem ncells_set:∀ (l:List NV) (i:Nat) (x:NV),ncells (l.set i x)=(((ncells l).set (i*3) (.bool x.1)).set (i*3+1) (.string x.2.1)).set (i*3+2) (.int .i64 x.2.2)
 | [],i,x=>by simp [ncells]
 | y::l,0,x=>rfl
 | y::l,i+1,x=>by
  rw [List.set_cons_succ,ncells,ncells,ncells_set l i x,show (i+1)*3=i*3+1+1+1 by omega];rfl
def Rn (w:World) (g:Nat) (l:List NV):Prop:=∃ T,Rw w g T (ncells l)
section
variable {w w' : World} {g : Nat} {l : List NV}
theorem Rn.lt (h:Rn w g l):g<w.heap.size:=by obtain ⟨_,h⟩:=h;exact h.lt
theorem Rn.alloc (h:Rn w g l) (o:Obj):Rn (w.alloc o) g l:=by obtain ⟨T,h⟩:=h;exact ⟨T,h.alloc o⟩
theorem Rn.below (h:Rn w g l) (hq:Below w.heap.size w w'):Rn w' g l:=by obtain ⟨T,h⟩:=h;exact ⟨T,h.below hq h.lt⟩
theorem Rn.drew (h:Rn w g l):Rn w.drew g l:=h
theorem Rn.far (h:Rn w g l) {p:Addr} (hp:g≠p.block) (u:Value):Rn (w.setCell p u) g l:=by obtain ⟨T,h⟩:=h;exact ⟨T,h.far hp u⟩
theorem Rn.fr {w:World} {g:Nat} {l:List NV} (h:Rn w g l) (A k:Nat) (u:Value) (hp:g≠A:=by omega):Rn (w.setCell ⟨A,k,none⟩ u) g l:=h.far (p:=⟨A,k,none⟩) hp u
theorem Rn.set_ (h:Rn w g l) (i:Nat) (x:NV):Rn (((w.setCell ⟨g,i*3,none⟩ (.bool x.1)).setCell ⟨g,i*3+1,none⟩ (.string x.2.1)).setCell ⟨g,i*3+2,none⟩ (.int .i64 x.2.2)) g (l.set i x):=by
 obtain ⟨T,h⟩:=h;refine ⟨T,?_⟩;rw [ncells_set];exact ((h.set_ _ _).set_ _ _).set_ _ _
theorem Rn.facts (h:Rn w g l) (i:Nat) (hi:i<l.length):w.cell? ⟨g,i*3,none⟩=some (.bool l[i].1)∧w.cell? ⟨g,i*3+1,none⟩=some (.string l[i].2.1)∧w.cell? ⟨g,i*3+2,none⟩=some (.int .i64 l[i].2.2) ∧
  w.frozen? ⟨g,i*3,none⟩=false∧w.frozen? ⟨g,i*3+1,none⟩=false∧w.frozen? ⟨g,i*3+2,none⟩=false:=by
 obtain ⟨T,h⟩:=h;obtain ⟨h1,h2,h3⟩:=ncells_get l i hi;exact ⟨by rw [h.cell];exact h1,by rw [h.cell];exact h2,by rw [h.cell];exact h3,h.frozen _,h.frozen _,h.frozen _⟩
end
theorem Rn.new (w:World) (t:TypeId) (l:List NV) (L:Array Value) (hL:L=(ncells l).toArray):Rn (w.alloc (.cells L t)) w.heap.size l:=by
 subst hL;exact ⟨t,Rw.new w t (ncells l)⟩
abbrev SV:=NV × NV
def SAt (w:World) (ad:Option Addr) (l:List SV):Prop:=∀ i (h:i<l.length),∃ lb lo,ad=some ⟨lb,lo,none⟩∧lb<w.heap.size ∧
 (w.cell? ⟨lb,lo+i*6,none⟩=some (.bool l[i].1.1)∧w.cell? ⟨lb,lo+i*6+1,none⟩=some (.string l[i].1.2.1)∧w.cell? ⟨lb,lo+i*6+2,none⟩=some (.int .i64 l[i].1.2.2)) ∧
 (w.cell? ⟨lb,lo+i*6+3,none⟩=some (.bool l[i].2.1)∧w.cell? ⟨lb,lo+i*6+4,none⟩=some (.string l[i].2.2.1)∧w.cell? ⟨lb,lo+i*6+5,none⟩=some (.int .i64 l[i].2.2.2))
theorem SAt.below {w w' : World} {ad:Option Addr} {l:List SV} (h:SAt w ad l) (hb:Below w.heap.size w w'):SAt w' ad l:=by
 intro i hi;obtain ⟨lb,lo,e,hl,⟨h1,h2,h3⟩,h4,h5,h6⟩:=h i hi;have hsz:=hb.size;exact ⟨lb,lo,e,by omega,⟨by rw [hb.cell hl];exact h1,by rw [hb.cell hl];exact h2,by rw [hb.cell hl];exact h3⟩,by rw [hb.cell hl];exact h4,by rw [hb.cell hl];exact h5,by rw [hb.cell hl];exact h6⟩
theorem SAt.alloc {w:World} {ad:Option Addr} {l:List SV} (h:SAt w ad l) (o:Obj):SAt (w.alloc o) ad l:=h.below ((Below.refl _ _).alloc (Nat.le_refl _) _)
theorem SAt.drew {w:World} {ad:Option Addr} {l:List SV} (h:SAt w ad l):SAt w.drew ad l:=h
def flat:List SV→List NV
 | []=>[]
 | x::l=>x.1::x.2::flat l
theorem flat_len:∀ l:List SV,(flat l).length=2*l.length
 | []=>rfl
 | x::l=>by simp [flat,flat_len l];omega
theorem flat_get:∀ (l:List SV) (i:Nat) (h:i<l.length),(flat l)[2*i]?=some l[i].1∧(flat l)[2*i+1]?=some l[i].2
 | [],i,h=>by simp at h
 | x::l,0,h=>⟨rfl,rfl⟩
 | x::l,i+1,h=>by
  have:=flat_get l i (by simpa using h)
  rw [show 2*(i+1)=2*i+1+1 by omega];exact this
theorem SAt.of_flat {w:World} {ad:Option Addr} {l:List SV} (h:NAt w ad (flat l)):SAt w ad l:=by
 intro i hil;have hl:=flat_len l;obtain ⟨g1,g2⟩:=flat_get l i hil;have j1:2*i<(flat l).length:=by omega
 have j2:2*i+1<(flat l).length:=by omega
 obtain ⟨lb,lo,e,hb,h1,h2,h3⟩:=h _ j1;obtain ⟨lb',lo',e',_,h4,h5,h6⟩:=h _ j2;rw [e] at e';simp only [Option.some.injEq,Addr.mk.injEq,and_true] at e';obtain ⟨rfl,rfl⟩:=e';rw [List.getElem?_eq_getElem j1,Option.some.injEq] at g1;rw [List.getElem?_eq_getElem j2,Option.some.injEq] at g2;rw [g1,show lo+2*i*3=lo+i*6 by omega] at h1 h2 h3;rw [g2,show lo+(2*i+1)*3=lo+i*6+3 by omega] at h4 h5 h6;exact ⟨lb,lo,e,hb,⟨h1,h2,h3⟩,h4,h5,h6⟩
theorem SAt.new (w:World) (t:TypeId) (l:List SV) (L:Array Value) (hL:L=(ncells (flat l)).toArray):SAt (w.alloc (.cells L t)) (some ⟨w.heap.size,0,none⟩) l:=
 SAt.of_flat (NAt.new w t _ L hL)
end Go.Proofs.YtemedphcafgolaaGreatDoor
