/- Layer 1, laid together: YArg, SArg. -/
import Derived.Test.YtemedphcafgolaaGreatDoorHB
/- A number of three cells among the arguments,and a row of such: opened and shut. -/
namespace Go.Proofs.YtemedphcafgolaaGreatDoor
set_option maxRecDepth 100000
open Go.RowKit Go.ChangeShapes Go.WideShapes Go.Deep
theorem num_cells:Tryz.prog.cellsOf 26=3:=by kernel_rfl
theorem i64_cells:Tryz.prog.cellsOf 3=1:=by kernel_rfl
theorem three_of {cs:Array Value} (h:cs.size=3):∃ c0 c1 c2,cs=#[c0,c1,c2]:=by
 obtain ⟨l⟩:=cs
 match l,h with
 | [a,b,c],_=>exact ⟨a,b,c,rfl⟩
section
variable {H : Type} {enc : TypeId × Value→H} {W : World} {base : Nat} {sp : Nat→Bool} {held : Bool}
theorem open_num_cells {fuel:Nat} {c0 c1 c2:Value} {x:DataW H × List MemPlace} (h:DataW.trod enc Tryz.prog W base sp held fuel 26 [c0,c1,c2]=some x) :
  ∃ (m:Bool) (s:ByteArray) (e:Int),c0=.bool m∧c1=.string s∧c2=.int .i64 e∧x=(.agg [.agg [.lit (.bool m),.lit (.string s.data.toList)],.lit (.int .i64 e)],[])∧s.size≤maxLen∧(Lit.int .i64 e).wf=true:=by
 obtain ⟨y0,y1,n,hx,_,h0,h1⟩:=trod_struct2 Tryz.underlying26 h;simp only [int_cells,i64_cells,List.drop_zero,List.take_succ_cons,List.take_zero,List.drop_succ_cons] at h0 h1;obtain ⟨z0,z1,k,hz,_,g0,g1⟩:=trod_struct2 Tryz.underlying24 h0;simp only [bool_cells,string_cells,List.drop_zero,List.take_succ_cons,List.take_zero,List.drop_succ_cons] at g0 g1;obtain ⟨b,e0,rfl⟩:=DataW.trod_bool Tryz.underlying4 g0;obtain ⟨s,e1,rfl,hs⟩:=DataW.trod_string Tryz.underlying9 g1;obtain ⟨e,e2,rfl,hw⟩:=DataW.trod_int Tryz.underlying3 h1;simp only [List.cons.injEq,and_true] at e0 e1 e2;exact ⟨b,s,e,e0,e1,e2,by rw [hx,hz];rfl,hs,hw⟩
theorem open_num {r:Reach} {b0:Nat} {v:Value} {d:DataW H} {ps:List MemPlace} (hval:Value.okWide Tryz.prog W r b0 26 v) (hd:DataW.Trod enc Tryz.prog W base sp held 26 v d ps) :
  ∃ (m:Bool) (s:ByteArray) (e:Int),v=nu m s e∧d=.agg [.agg [.lit (.bool m),.lit (.string s.data.toList)],.lit (.int .i64 e)]∧ps=[]∧s.size≤maxLen∧(Lit.int .i64 e).wf=true:=by
 have hu:=Tryz.underlying26;simp only [Value.okWide,hu] at hval;obtain ⟨cs,rfl,h2,_⟩:=hval;obtain ⟨fuel,hf⟩:=hd;rw [num_cells] at h2;obtain ⟨c0,c1,c2,rfl⟩:=three_of h2;obtain ⟨m,s,e,rfl,rfl,rfl,hx,hs,hw⟩:=open_num_cells (show DataW.trod enc Tryz.prog W base sp held fuel 26 [c0,c1,c2]=some (d,ps) from hf);simp only [Prod.mk.injEq] at hx;exact ⟨m,s,e,rfl,hx.1,hx.2,hs,hw⟩
theorem shut_num {m:Bool} {s:ByteArray} {e:Int} (hs:s.size≤maxLen) (hw:(Lit.int .i64 e).wf=true) :
  DataW.Trod enc Tryz.prog W base sp held 26 (nu m s e) (.agg [.agg [.lit (.bool m),.lit (.string s.data.toList)],.lit (.int .i64 e)]) []:=by
 refine ⟨1+1+1,?_⟩;refine trod_struct2_mk Tryz.underlying26 (by rw [num_cells];rfl) (y0:=(.agg [.lit (.bool m),.lit (.string s.data.toList)],[])) (y1:=(.lit (.int .i64 e),[])) ?_ ?_
 ·refine trod_struct2_mk Tryz.underlying24 (by rw [int_cells];rfl) (y0:=(.lit (.bool m),[])) (y1:=(.lit (.string s.data.toList),[])) ?_ ?_
  ·simp [nu,Value.cells,bool_cells,int_cells,DataW.trod,Tryz.underlying4]
  ·simp [nu,Value.cells,string_cells,int_cells,DataW.trod,Tryz.underlying9,hs]
 ·simp [nu,Value.cells,i64_cells,DataW.trod,Tryz.underlying3,hw]
def intOfV:Value→Int | .int _ n=>n|_=>0
theorem open_nums {r:Reach} {b0:Nat} {v:Value} {d:DataW H} {ps:List MemPlace} (hval:Value.okWide Tryz.prog W r b0 130 v) (hd:DataW.Trod enc Tryz.prog W base sp held 130 v d ps) :
  ∃ (ad:Option Addr) (l:List NV) (n c:Nat),v=.slice ad n c∧l.length=n∧(n≤c∧(ad=none→c=0))∧NAt W ad l∧n≤maxLen∧∀ x∈l,x.2.1.size≤maxLen∧(Lit.int .i64 x.2.2).wf=true:=by
 obtain ⟨a0,len,cap,rfl⟩:=okWide_slice Tryz.underlying130 hval;obtain ⟨fuel,hf⟩:=hd
 rcases open_slice Tryz.underlying130 hf with ⟨hcs,_⟩|⟨a,len',cap',m,k,D,Pl,hcs,_,hl,hml,hmm,_,hcell⟩
 ·simp [Value.cells] at hcs;obtain ⟨rfl,rfl,rfl⟩:=hcs;exact ⟨none,[],0,0,rfl,rfl,⟨Nat.le_refl _,fun _=>rfl⟩,fun i h=>by simp at h,Nat.zero_le _,fun x h=>by simp at h⟩
 ·simp [Value.cells] at hcs;obtain ⟨rfl,rfl,rfl⟩:=hcs;have hlm:len≤m:=by rw [hmm];split <;> omega
  obtain ⟨b,off,spot⟩:=a;have each:∀ i,i<len→∃ q:NV,spot=none∧b<W.heap.size∧W.cell? ⟨b,off+i*3,none⟩=some (.bool q.1)∧W.cell? ⟨b,off+i*3+1,none⟩=some (.string q.2.1)∧W.cell? ⟨b,off+i*3+2,none⟩=some (.int .i64 q.2.2)∧q.2.1.size≤maxLen∧(Lit.int .i64 q.2.2).wf=true:=by
   intro i hi;obtain ⟨cs',h1,h2⟩:=hcell i (by omega);rw [num_cells] at h1;obtain ⟨_,hlen,hc⟩:=World.cells?_some h1
   match cs',hlen with
   | [c0,c1,c2],_ =>
    obtain ⟨x,s,e,rfl,rfl,rfl,_,hs,hw⟩:=open_num_cells h2;have e0:=hc 0 (by omega);have e1:=hc 1 (by omega);have e2:=hc 2 (by omega);have hspot:spot=none:=by
     obtain ⟨cs0,k1,_⟩:=hcell 0 (by omega);rw [num_cells] at k1;obtain ⟨_,kl,kc⟩:=World.cells?_some k1;have k0:=kc 0 (by omega);rw [List.getElem?_eq_getElem (by omega)] at k0;simpa [Addr.add] using World.cell?_spot k0
    subst hspot;have ea:∀ j:Nat,(⟨b,off,none⟩:Addr).add j=⟨b,off+j,none⟩:=fun j=>by unfold Addr.add;split <;> simp_all
    have eb:∀ p j:Nat,(⟨b,p,none⟩:Addr).add j=⟨b,p+j,none⟩:=fun p j=>by unfold Addr.add;split <;> simp_all
    rw [ea,eb] at e0 e1 e2;exact ⟨(x,s,e),rfl,World.block_lt_of_cell? W _ e0,by simpa using e0,by simpa using e1,by simpa using e2,hs,hw⟩
  obtain ⟨q,hq⟩:=choose_lt each;refine ⟨some ⟨b,off,spot⟩,(List.range len).map q,len,cap,rfl,by simp,⟨hl,fun h=>by cases h⟩,fun i hi=>?_,by omega,fun x hx=>?_⟩
  ·simp at hi;obtain ⟨hs0,hb,h0,h1,h2,_⟩:=hq i hi;refine ⟨b,off,by rw [hs0],hb,?_,?_,?_⟩
   ·simpa using h0
   ·simpa using h1
   ·simpa using h2
  ·obtain ⟨i,hi,rfl⟩:=List.mem_map.1 hx;exact (hq i (List.mem_range.1 hi)).2.2.2.2.2
end
theorem six_of {cs:Array Value} (h:cs.size=6):∃ c0 c1 c2 c3 c4 c5,cs=#[c0,c1,c2,c3,c4,c5]:=by
 obtain ⟨l⟩:=cs
 match l,h with
 | [a,b,c,d,e,f],_=>exact ⟨a,b,c,d,e,f,rfl⟩
section
variable {H : Type} {enc : TypeId × Value→H} {W : World} {base : Nat} {sp : Nat→Bool} {held : Bool}
theorem trod_num {m:Bool} {s:ByteArray} {e:Int} (hs:s.size≤maxLen) (hw:(Lit.int .i64 e).wf=true) :
  DataW.trod enc Tryz.prog W base sp held (1+1+1) 26 [.bool m,.string s,.int .i64 e]=some (.agg [.agg [.lit (.bool m),.lit (.string s.data.toList)],.lit (.int .i64 e)],[]):=by
 refine trod_struct2_mk Tryz.underlying26 (by rw [num_cells];rfl) (y0:=(.agg [.lit (.bool m),.lit (.string s.data.toList)],[])) (y1:=(.lit (.int .i64 e),[])) ?_ ?_
 ·refine trod_struct2_mk Tryz.underlying24 (by rw [int_cells];rfl) (y0:=(.lit (.bool m),[])) (y1:=(.lit (.string s.data.toList),[])) ?_ ?_
  ·simp [bool_cells,int_cells,DataW.trod,Tryz.underlying4]
  ·simp [string_cells,int_cells,DataW.trod,Tryz.underlying9,hs]
 ·simp [i64_cells,DataW.trod,Tryz.underlying3,hw]
end
end Go.Proofs.YtemedphcafgolaaGreatDoor
