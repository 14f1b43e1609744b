/- A box, and a point, among the arguments: opened. -/
import Derived.Test.YtlmckjodahbgbaaGreatDoorHI
namespace Go.Proofs.YtlmckjodahbgbaaGreatDoor
set_option maxRecDepth 100000
open Go.RowKit Go.ChangeShapes Go.WideShapes Go.Deep
section
variable {H : Type} {enc : TypeId × Value→H} {W : World} {base : Nat} {sp : Nat→Bool} {held : Bool}
theorem open_box {r:Reach} {b0:Nat} {v:Value} {D:DataW H} {ps:List MemPlace} (hval:Value.okWide Tryz.prog W r b0 23 v) (hd:DataW.Trod enc Tryz.prog W base sp held 23 v D ps) :
  ∃ (ad:Option Addr) (l:List SV) (n c:Nat),v=.slice ad n c∧l.length=n∧(n≤c∧(ad=none→c=0))∧SAt W ad l∧n≤maxLen∧∀ x∈l,(x.1.2.1.size≤maxLen∧(Lit.int .i64 x.1.2.2).wf=true)∧(x.2.2.1.size≤maxLen∧(Lit.int .i64 x.2.2.2).wf=true):=by
 obtain ⟨a0,len,cap,rfl⟩:=okWide_slice Tryz.underlying23 hval;obtain ⟨fuel,hf⟩:=hd
 rcases open_slice Tryz.underlying23 hf with ⟨hcs,_⟩|⟨a,len',cap',m,k,D,Pl,hcs,_,hl,hml,hmm,_,hcell⟩
 ·simp [Value.cells] at hcs;obtain ⟨rfl,rfl,rfl⟩:=hcs;exact ⟨none,[],0,0,rfl,rfl,⟨Nat.le_refl _,fun _=>rfl⟩,fun i h=>by simp at h,Nat.zero_le _,fun x h=>by simp at h⟩
 ·simp [Value.cells] at hcs;obtain ⟨rfl,rfl,rfl⟩:=hcs;have hlm:len≤m:=by rw [hmm];split <;> omega
  obtain ⟨b,off,spot⟩:=a;have each:∀ i,i<len→∃ q:SV,spot=none∧b<W.heap.size∧(W.cell? ⟨b,off+i*6,none⟩=some (.bool q.1.1)∧W.cell? ⟨b,off+i*6+1,none⟩=some (.string q.1.2.1)∧W.cell? ⟨b,off+i*6+2,none⟩=some (.int .i64 q.1.2.2)) ∧
    (W.cell? ⟨b,off+i*6+3,none⟩=some (.bool q.2.1)∧W.cell? ⟨b,off+i*6+4,none⟩=some (.string q.2.2.1)∧W.cell? ⟨b,off+i*6+5,none⟩=some (.int .i64 q.2.2.2)) ∧
    (q.1.2.1.size≤maxLen∧(Lit.int .i64 q.1.2.2).wf=true)∧(q.2.2.1.size≤maxLen∧(Lit.int .i64 q.2.2.2).wf=true):=by
   intro i hi;obtain ⟨cs',h1,h2⟩:=hcell i (by omega);rw [span_cells] at h1;obtain ⟨_,hlen,hc⟩:=World.cells?_some h1
   match cs',hlen with
   | [c0,c1,c2,c3,c4,c5],_ =>
    obtain ⟨m',s,d,n',t,e,rfl,rfl,rfl,rfl,rfl,rfl,_,hs,ht⟩:=open_span_cells h2;have e0:=hc 0 (by omega);have e1:=hc 1 (by omega);have e2:=hc 2 (by omega);have e3:=hc 3 (by omega);have e4:=hc 4 (by omega);have e5:=hc 5 (by omega);have hspot:spot=none:=by
     obtain ⟨cs0,k1,_⟩:=hcell 0 (by omega);rw [span_cells] at k1;obtain ⟨_,kl,kc⟩:=World.cells?_some k1;have k0:=kc 0 (by omega);rw [List.getElem?_eq_getElem (by omega)] at k0;simpa [Addr.add] using World.cell?_spot k0
    subst hspot;have ea:∀ j:Nat,(⟨b,off,none⟩:Addr).add j=⟨b,off+j,none⟩:=fun j=>by unfold Addr.add;split <;> simp_all
    have eb:∀ p j:Nat,(⟨b,p,none⟩:Addr).add j=⟨b,p+j,none⟩:=fun p j=>by unfold Addr.add;split <;> simp_all
    rw [ea,eb] at e0 e1 e2 e3 e4 e5;exact ⟨((m',s,d),(n',t,e)),rfl,World.block_lt_of_cell? W _ e0,⟨by simpa using e0,by simpa using e1,by simpa using e2⟩,⟨by simpa using e3,by simpa using e4,by simpa using e5⟩,hs,ht⟩
  obtain ⟨q,hq⟩:=choose_lt each;refine ⟨some ⟨b,off,spot⟩,(List.range len).map q,len,cap,rfl,by simp,⟨hl,fun h=>by cases h⟩,fun i hi=>?_,by omega,fun x hx=>?_⟩
  ·simp at hi;obtain ⟨hs0,hb,h0,h1,_⟩:=hq i hi;refine ⟨b,off,by rw [hs0],hb,?_,?_⟩
   ·simpa using h0
   ·simpa using h1
  ·obtain ⟨i,hi,rfl⟩:=List.mem_map.1 hx;exact (hq i (List.mem_range.1 hi)).2.2.2.2
theorem open_point {r:Reach} {b0:Nat} {v:Value} {d:DataW H} {ps:List MemPlace} (hval:Value.okWide Tryz.prog W r b0 25 v) (hd:DataW.Trod enc Tryz.prog W base sp held 25 v d ps) :
  ∃ (ad:Option Addr) (l:List NV) (n c:Nat),v=.slice ad n c∧l.length=n∧(n≤c∧(ad=none→c=0))∧NAt W ad l∧n≤maxLen∧∀ x∈l,x.2.1.size≤maxLen∧(Lit.int .i64 x.2.2).wf=true:=by
 obtain ⟨a0,len,cap,rfl⟩:=okWide_slice Tryz.underlying25 hval;obtain ⟨fuel,hf⟩:=hd
 rcases open_slice Tryz.underlying25 hf with ⟨hcs,_⟩|⟨a,len',cap',m,k,D,Pl,hcs,_,hl,hml,hmm,_,hcell⟩
 ·simp [Value.cells] at hcs;obtain ⟨rfl,rfl,rfl⟩:=hcs;exact ⟨none,[],0,0,rfl,rfl,⟨Nat.le_refl _,fun _=>rfl⟩,fun i h=>by simp at h,Nat.zero_le _,fun x h=>by simp at h⟩
 ·simp [Value.cells] at hcs;obtain ⟨rfl,rfl,rfl⟩:=hcs;have hlm:len≤m:=by rw [hmm];split <;> omega
  obtain ⟨b,off,spot⟩:=a;have each:∀ i,i<len→∃ q:NV,spot=none∧b<W.heap.size∧W.cell? ⟨b,off+i*3,none⟩=some (.bool q.1)∧W.cell? ⟨b,off+i*3+1,none⟩=some (.string q.2.1)∧W.cell? ⟨b,off+i*3+2,none⟩=some (.int .i64 q.2.2)∧q.2.1.size≤maxLen∧(Lit.int .i64 q.2.2).wf=true:=by
   intro i hi;obtain ⟨cs',h1,h2⟩:=hcell i (by omega);rw [num_cells] at h1;obtain ⟨_,hlen,hc⟩:=World.cells?_some h1
   match cs',hlen with
   | [c0,c1,c2],_ =>
    obtain ⟨x,s,e,rfl,rfl,rfl,_,hs,hw⟩:=open_num_cells h2;have e0:=hc 0 (by omega);have e1:=hc 1 (by omega);have e2:=hc 2 (by omega);have hspot:spot=none:=by
     obtain ⟨cs0,k1,_⟩:=hcell 0 (by omega);rw [num_cells] at k1;obtain ⟨_,kl,kc⟩:=World.cells?_some k1;have k0:=kc 0 (by omega);rw [List.getElem?_eq_getElem (by omega)] at k0;simpa [Addr.add] using World.cell?_spot k0
    subst hspot;have ea:∀ j:Nat,(⟨b,off,none⟩:Addr).add j=⟨b,off+j,none⟩:=fun j=>by unfold Addr.add;split <;> simp_all
    have eb:∀ p j:Nat,(⟨b,p,none⟩:Addr).add j=⟨b,p+j,none⟩:=fun p j=>by unfold Addr.add;split <;> simp_all
    rw [ea,eb] at e0 e1 e2;exact ⟨(x,s,e),rfl,World.block_lt_of_cell? W _ e0,by simpa using e0,by simpa using e1,by simpa using e2,hs,hw⟩
  obtain ⟨q,hq⟩:=choose_lt each;refine ⟨some ⟨b,off,spot⟩,(List.range len).map q,len,cap,rfl,by simp,⟨hl,fun h=>by cases h⟩,fun i hi=>?_,by omega,fun x hx=>?_⟩
  ·simp at hi;obtain ⟨hs0,hb,h0,h1,h2,_⟩:=hq i hi;refine ⟨b,off,by rw [hs0],hb,?_,?_,?_⟩
   ·simpa using h0
   ·simpa using h1
   ·simpa using h2
  ·obtain ⟨i,hi,rfl⟩:=List.mem_map.1 hx;exact (hq i (List.mem_range.1 hi)).2.2.2.2.2
end
end Go.Proofs.YtlmckjodahbgbaaGreatDoor
