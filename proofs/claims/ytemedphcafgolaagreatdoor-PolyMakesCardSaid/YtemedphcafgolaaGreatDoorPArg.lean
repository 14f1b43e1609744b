/- A term, a polynomial among the arguments, and rows of such: opened. -/
import Derived.Test.YtemedphcafgolaaGreatDoorHI
import Derived.Test.YtemedphcafgolaaGreatDoorPA
namespace Go.Proofs.YtemedphcafgolaaGreatDoor
set_option maxRecDepth 100000
open Go.RowKit Go.ChangeShapes Go.WideShapes Go.Deep
theorem term_cells:Tryz.prog.cellsOf 58=4:=by kernel_rfl
theorem poly_cells:Tryz.prog.cellsOf 31=2:=by kernel_rfl
section
variable {H : Type} {enc : TypeId × Value→H} {W : World} {base : Nat} {sp : Nat→Bool} {held : Bool}
def okTV (x:TV):Prop:=x.1.size≤maxLen∧x.2.2.1.size≤maxLen∧(Lit.int .i64 x.2.2.2).wf=true
theorem open_term_cells {fuel:Nat} {c0 c1 c2 c3:Value} {x:DataW H × List MemPlace} (h:DataW.trod enc Tryz.prog W base sp held fuel 58 [c0,c1,c2,c3]=some x) :
  ∃ q:TV,c0=.string q.1∧c1=.bool q.2.1∧c2=.string q.2.2.1∧c3=.int .i64 q.2.2.2∧okTV q:=by
 obtain ⟨y0,y1,k,hx,_,h0,h1⟩:=trod_struct2 Tryz.underlying58 h;simp only [string_cells,num_cells,List.drop_zero,List.take_succ_cons,List.take_zero,List.drop_succ_cons] at h0 h1;obtain ⟨s,e1,rfl,hs⟩:=DataW.trod_string Tryz.underlying9 h0;obtain ⟨m,t,d,rfl,rfl,rfl,_,ht,hw⟩:=open_num_cells h1;simp only [List.cons.injEq,and_true] at e1;exact ⟨(s,m,t,d),e1,rfl,rfl,rfl,hs,ht,hw⟩
theorem open_trow {fuel:Nat} {c0:Value} {x:DataW H × List MemPlace} (hf:DataW.trod enc Tryz.prog W base sp held fuel 22 [c0]=some x) :
  ∃ (ad:Option Addr) (l:List TV) (n c:Nat),c0=.slice ad n c∧l.length=n∧(n≤c∧(ad=none→c=0))∧TAt W ad l∧n≤maxLen∧∀ x∈l,okTV x:=by
 rcases open_slice Tryz.underlying22 hf with ⟨hcs,_⟩|⟨a,len,cap,m,k,D,Pl,hcs,_,hl,hml,hmm,_,hcell⟩
 ·simp only [List.cons.injEq,and_true] at hcs;subst hcs;exact ⟨none,[],0,0,rfl,rfl,⟨Nat.le_refl _,fun _=>rfl⟩,TAt.nil _ _,Nat.zero_le _,fun x h=>by simp at h⟩
 ·simp only [List.cons.injEq,and_true] at hcs;subst hcs;have hlm:len≤m:=by rw [hmm];split <;> omega
  obtain ⟨b,off,spot⟩:=a;have each:∀ i,i<len→∃ q:TV,spot=none∧b<W.heap.size∧W.cell? ⟨b,off+i*4,none⟩=some (.string q.1)∧W.cell? ⟨b,off+i*4+1,none⟩=some (.bool q.2.1)∧W.cell? ⟨b,off+i*4+2,none⟩=some (.string q.2.2.1)∧W.cell? ⟨b,off+i*4+3,none⟩=some (.int .i64 q.2.2.2)∧okTV q:=by
   intro i hi;obtain ⟨cs',h1,h2⟩:=hcell i (by omega);rw [term_cells] at h1;obtain ⟨_,hlen,hc⟩:=World.cells?_some h1
   match cs',hlen with
   | [c0,c1,c2,c3],_ =>
    obtain ⟨q,rfl,rfl,rfl,rfl,hq⟩:=open_term_cells h2;have e0:=hc 0 (by omega);have e1:=hc 1 (by omega);have e2:=hc 2 (by omega);have e3:=hc 3 (by omega);have hspot:spot=none:=by
     obtain ⟨cs0,k1,_⟩:=hcell 0 (by omega);rw [term_cells] at k1;obtain ⟨_,kl,kc⟩:=World.cells?_some k1;have k0:=kc 0 (by omega);rw [List.getElem?_eq_getElem (by omega)] at k0;simpa [Addr.add] using World.cell?_spot k0
    subst hspot;have ea:∀ j:Nat,(⟨b,off,none⟩:Addr).add j=⟨b,off+j,none⟩:=fun j=>by unfold Addr.add;split <;> simp_all
    have eb:∀ p j:Nat,(⟨b,p,none⟩:Addr).add j=⟨b,p+j,none⟩:=fun p j=>by unfold Addr.add;split <;> simp_all
    rw [ea,eb] at e0 e1 e2 e3;exact ⟨q,rfl,World.block_lt_of_cell? W _ e0,by simpa using e0,by simpa using e1,by simpa using e2,by simpa using e3,hq⟩
  obtain ⟨q,hq⟩:=choose_lt each;refine ⟨some ⟨b,off,spot⟩,(List.range len).map q,len,cap,rfl,by simp,⟨hl,fun h=>by cases h⟩,fun i hi=>?_,by omega,fun x hx=>?_⟩
  ·simp at hi;obtain ⟨hs0,hb,h0,h1,h2,h3,_⟩:=hq i hi;refine ⟨b,off,by rw [hs0],hb,?_,?_,?_,?_⟩
   ·simpa using h0
   ·simpa using h1
   ·simpa using h2
   ·simpa using h3
  ·obtain ⟨i,hi,rfl⟩:=List.mem_map.1 hx;exact (hq i (List.mem_range.1 hi)).2.2.2.2.2.2
theorem open_terms {r:Reach} {b0:Nat} {v:Value} {D:DataW H} {ps:List MemPlace} (hval:Value.okWide Tryz.prog W r b0 22 v) (hd:DataW.Trod enc Tryz.prog W base sp held 22 v D ps) :
  ∃ (ad:Option Addr) (l:List TV) (n c:Nat),v=.slice ad n c∧l.length=n∧(n≤c∧(ad=none→c=0))∧TAt W ad l∧n≤maxLen∧∀ x∈l,okTV x:=by
 obtain ⟨a0,len,cap,rfl⟩:=okWide_slice Tryz.underlying22 hval;obtain ⟨fuel,hf⟩:=hd;exact open_trow (c0:=.slice a0 len cap) hf
theorem open_poly_cells {fuel:Nat} {c0 c1:Value} {x:DataW H × List MemPlace} (h:DataW.trod enc Tryz.prog W base sp held fuel 31 [c0,c1]=some x) :
  ∃ (v:Int) (ad:Option Addr) (l:List TV) (n c:Nat),c0=.int .i64 v∧c1=.slice ad n c∧(Lit.int .i64 v).wf=true∧l.length=n∧(n≤c∧(ad=none→c=0))∧TAt W ad l∧n≤maxLen∧∀ x∈l,okTV x:=by
 obtain ⟨y0,y1,k,hx,_,h0,h1⟩:=trod_struct2 Tryz.underlying31 h;simp only [i64_cells,List.drop_zero,List.take_succ_cons,List.take_zero,List.drop_succ_cons] at h0 h1;obtain ⟨v,e2,rfl,hw⟩:=DataW.trod_int Tryz.underlying3 h0;simp only [List.cons.injEq,and_true] at e2;have hk:Tryz.prog.cellsOf 22=1:=by kernel_rfl
 obtain ⟨ad,l,n,c,rfl,h3⟩:=open_trow (c0:=c1) (by simpa [hk] using h1);exact ⟨v,ad,l,n,c,e2,rfl,hw,h3⟩
theorem open_poly {r:Reach} {b0:Nat} {v:Value} {D:DataW H} {ps:List MemPlace} (hval:Value.okWide Tryz.prog W r b0 31 v) (hd:DataW.Trod enc Tryz.prog W base sp held 31 v D ps) :
  ∃ (z:Int) (ad:Option Addr) (l:List TV) (n c:Nat),v=.agg #[.int .i64 z,.slice ad n c]∧(Lit.int .i64 z).wf=true∧l.length=n∧(n≤c∧(ad=none→c=0))∧TAt W ad l∧n≤maxLen∧∀ x∈l,okTV x:=by
 have hu:=Tryz.underlying31;simp only [Value.okWide,hu] at hval;obtain ⟨cs,rfl,h2,_⟩:=hval;obtain ⟨fuel,hf⟩:=hd;rw [poly_cells] at h2;obtain ⟨c0,c1,rfl⟩:∃ c0 c1,cs=#[c0,c1]:=by
  obtain ⟨l⟩:=cs
  match l,h2 with
  | [a,b],_=>exact ⟨a,b,rfl⟩
 obtain ⟨z,ad,l,n,c,rfl,rfl,h3⟩:=open_poly_cells (show DataW.trod enc Tryz.prog W base sp held fuel 31 [c0,c1]=some (D,ps) from hf);exact ⟨z,ad,l,n,c,rfl,h3⟩
end
end Go.Proofs.YtemedphcafgolaaGreatDoor
