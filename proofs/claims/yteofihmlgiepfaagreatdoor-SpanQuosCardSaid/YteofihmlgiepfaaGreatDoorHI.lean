/- Layer 1, laid together: YArg, SArg. -/
import Derived.Test.YteofihmlgiepfaaGreatDoorHB
/- A number of three cells among the arguments,and a row of such: opened and shut. -/
namespace Go.Proofs.YteofihmlgiepfaaGreatDoor
set_option maxRecDepth 100000
open Go.RowKit Go.ChangeShapes Go.WideShapes Go.Deep
theorem num_cells:Tryz.prog.cellsOf 25=3:=by kernel_rfl
theorem i64_cells:Tryz.prog.cellsOf 3=1:=by kernel_rfl
theorem three_of {cs:Array Value} (h:cs.size=3):∃ c0 c1 c2,cs=#[c0,c1,c2]:=by
 obtain ⟨l⟩:=cs
 match l,h with
 | [a,b,c],_=>exact ⟨a,b,c,rfl⟩
section
variable {H : Type} {enc : TypeId × Value→H} {W : World} {base : Nat} {sp : Nat→Bool} {held : Bool}
theorem open_num_cells {fuel:Nat} {c0 c1 c2:Value} {x:DataW H × List MemPlace} (h:DataW.trod enc Tryz.prog W base sp held fuel 25 [c0,c1,c2]=some x) :
  ∃ (m:Bool) (s:ByteArray) (e:Int),c0=.bool m∧c1=.string s∧c2=.int .i64 e∧x=(.agg [.agg [.lit (.bool m),.lit (.string s.data.toList)],.lit (.int .i64 e)],[])∧s.size≤maxLen∧(Lit.int .i64 e).wf=true:=by
 obtain ⟨y0,y1,n,hx,_,h0,h1⟩:=trod_struct2 Tryz.underlying25 h;simp only [int_cells,i64_cells,List.drop_zero,List.take_succ_cons,List.take_zero,List.drop_succ_cons] at h0 h1;obtain ⟨z0,z1,k,hz,_,g0,g1⟩:=trod_struct2 Tryz.underlying23 h0;simp only [bool_cells,string_cells,List.drop_zero,List.take_succ_cons,List.take_zero,List.drop_succ_cons] at g0 g1;obtain ⟨b,e0,rfl⟩:=DataW.trod_bool Tryz.underlying4 g0;obtain ⟨s,e1,rfl,hs⟩:=DataW.trod_string Tryz.underlying9 g1;obtain ⟨e,e2,rfl,hw⟩:=DataW.trod_int Tryz.underlying3 h1;simp only [List.cons.injEq,and_true] at e0 e1 e2;exact ⟨b,s,e,e0,e1,e2,by rw [hx,hz];rfl,hs,hw⟩
theorem open_num {r:Reach} {b0:Nat} {v:Value} {d:DataW H} {ps:List MemPlace} (hval:Value.okWide Tryz.prog W r b0 25 v) (hd:DataW.Trod enc Tryz.prog W base sp held 25 v d ps) :
  ∃ (m:Bool) (s:ByteArray) (e:Int),v=nu m s e∧d=.agg [.agg [.lit (.bool m),.lit (.string s.data.toList)],.lit (.int .i64 e)]∧ps=[]∧s.size≤maxLen∧(Lit.int .i64 e).wf=true:=by
 have hu:=Tryz.underlying25;simp only [Value.okWide,hu] at hval;obtain ⟨cs,rfl,h2,_⟩:=hval;obtain ⟨fuel,hf⟩:=hd;rw [num_cells] at h2;obtain ⟨c0,c1,c2,rfl⟩:=three_of h2;obtain ⟨m,s,e,rfl,rfl,rfl,hx,hs,hw⟩:=open_num_cells (show DataW.trod enc Tryz.prog W base sp held fuel 25 [c0,c1,c2]=some (d,ps) from hf);simp only [Prod.mk.injEq] at hx;exact ⟨m,s,e,rfl,hx.1,hx.2,hs,hw⟩
theorem shut_num {m:Bool} {s:ByteArray} {e:Int} (hs:s.size≤maxLen) (hw:(Lit.int .i64 e).wf=true) :
  DataW.Trod enc Tryz.prog W base sp held 25 (nu m s e) (.agg [.agg [.lit (.bool m),.lit (.string s.data.toList)],.lit (.int .i64 e)]) []:=by
 refine ⟨1+1+1,?_⟩;refine trod_struct2_mk Tryz.underlying25 (by rw [num_cells];rfl) (y0:=(.agg [.lit (.bool m),.lit (.string s.data.toList)],[])) (y1:=(.lit (.int .i64 e),[])) ?_ ?_
 ·refine trod_struct2_mk Tryz.underlying23 (by rw [int_cells];rfl) (y0:=(.lit (.bool m),[])) (y1:=(.lit (.string s.data.toList),[])) ?_ ?_
  ·simp [nu,Value.cells,bool_cells,int_cells,DataW.trod,Tryz.underlying4]
  ·simp [nu,Value.cells,string_cells,int_cells,DataW.trod,Tryz.underlying9,hs]
 ·simp [nu,Value.cells,i64_cells,DataW.trod,Tryz.underlying3,hw]
end
theorem span_cells:Tryz.prog.cellsOf 27=6:=by kernel_rfl
theorem six_of {cs:Array Value} (h:cs.size=6):∃ c0 c1 c2 c3 c4 c5,cs=#[c0,c1,c2,c3,c4,c5]:=by
 obtain ⟨l⟩:=cs
 match l,h with
 | [a,b,c,d,e,f],_=>exact ⟨a,b,c,d,e,f,rfl⟩
section
variable {H : Type} {enc : TypeId × Value→H} {W : World} {base : Nat} {sp : Nat→Bool} {held : Bool}
theorem open_span_cells {fuel:Nat} {c0 c1 c2 c3 c4 c5:Value} {x:DataW H × List MemPlace} (h:DataW.trod enc Tryz.prog W base sp held fuel 27 [c0,c1,c2,c3,c4,c5]=some x) :
  ∃ (m:Bool) (s:ByteArray) (d:Int) (n:Bool) (t:ByteArray) (e:Int),c0=.bool m∧c1=.string s∧c2=.int .i64 d∧c3=.bool n∧c4=.string t∧c5=.int .i64 e∧x=(.agg [.agg [.agg [.lit (.bool m),.lit (.string s.data.toList)],.lit (.int .i64 d)],.agg [.agg [.lit (.bool n),.lit (.string t.data.toList)],.lit (.int .i64 e)]],[])∧(s.size≤maxLen∧(Lit.int .i64 d).wf=true)∧(t.size≤maxLen∧(Lit.int .i64 e).wf=true):=by
 obtain ⟨y0,y1,k,hx,_,h0,h1⟩:=trod_struct2 Tryz.underlying27 h;simp only [num_cells,List.drop_zero,List.take_succ_cons,List.take_zero,List.drop_succ_cons] at h0 h1;obtain ⟨m,s,d,rfl,rfl,rfl,hz,hs,hw⟩:=open_num_cells h0;obtain ⟨n,t,e,rfl,rfl,rfl,hz2,hs2,hw2⟩:=open_num_cells h1;exact ⟨m,s,d,n,t,e,rfl,rfl,rfl,rfl,rfl,rfl,by rw [hx,hz,hz2];rfl,⟨hs,hw⟩,hs2,hw2⟩
theorem open_span {r:Reach} {b0:Nat} {v:Value} {D:DataW H} {ps:List MemPlace} (hval:Value.okWide Tryz.prog W r b0 27 v) (hd:DataW.Trod enc Tryz.prog W base sp held 27 v D ps) :
  ∃ (m:Bool) (s:ByteArray) (d:Int) (n:Bool) (t:ByteArray) (e:Int),v=su m s d n t e∧D=.agg [.agg [.agg [.lit (.bool m),.lit (.string s.data.toList)],.lit (.int .i64 d)],.agg [.agg [.lit (.bool n),.lit (.string t.data.toList)],.lit (.int .i64 e)]]∧ps=[]∧(s.size≤maxLen∧(Lit.int .i64 d).wf=true)∧(t.size≤maxLen∧(Lit.int .i64 e).wf=true):=by
 have hu:=Tryz.underlying27;simp only [Value.okWide,hu] at hval;obtain ⟨cs,rfl,h2,_⟩:=hval;obtain ⟨fuel,hf⟩:=hd;rw [span_cells] at h2;obtain ⟨c0,c1,c2,c3,c4,c5,rfl⟩:=six_of h2;obtain ⟨m,s,d,n,t,e,rfl,rfl,rfl,rfl,rfl,rfl,hx,hs,ht⟩:=open_span_cells (show DataW.trod enc Tryz.prog W base sp held fuel 27 [c0,c1,c2,c3,c4,c5]=some (D,ps) from hf);simp only [Prod.mk.injEq] at hx;exact ⟨m,s,d,n,t,e,rfl,hx.1,hx.2,hs,ht⟩
theorem trod_num {m:Bool} {s:ByteArray} {e:Int} (hs:s.size≤maxLen) (hw:(Lit.int .i64 e).wf=true) :
  DataW.trod enc Tryz.prog W base sp held (1+1+1) 25 [.bool m,.string s,.int .i64 e]=some (.agg [.agg [.lit (.bool m),.lit (.string s.data.toList)],.lit (.int .i64 e)],[]):=by
 refine trod_struct2_mk Tryz.underlying25 (by rw [num_cells];rfl) (y0:=(.agg [.lit (.bool m),.lit (.string s.data.toList)],[])) (y1:=(.lit (.int .i64 e),[])) ?_ ?_
 ·refine trod_struct2_mk Tryz.underlying23 (by rw [int_cells];rfl) (y0:=(.lit (.bool m),[])) (y1:=(.lit (.string s.data.toList),[])) ?_ ?_
  ·simp [bool_cells,int_cells,DataW.trod,Tryz.underlying4]
  ·simp [string_cells,int_cells,DataW.trod,Tryz.underlying9,hs]
 ·simp [i64_cells,DataW.trod,Tryz.underlying3,hw]
theorem shut_span {m:Bool} {s:ByteArray} {d:Int} {n:Bool} {t:ByteArray} {e:Int} (hs:s.size≤maxLen) (hw:(Lit.int .i64 d).wf=true) (ht:t.size≤maxLen) (hv:(Lit.int .i64 e).wf=true) :
  DataW.Trod enc Tryz.prog W base sp held 27 (su m s d n t e) (.agg [.agg [.agg [.lit (.bool m),.lit (.string s.data.toList)],.lit (.int .i64 d)],.agg [.agg [.lit (.bool n),.lit (.string t.data.toList)],.lit (.int .i64 e)]]) []:=by
 refine ⟨1+1+1+1,?_⟩;refine trod_struct2_mk Tryz.underlying27 (by rw [span_cells];rfl) (y0:=(.agg [.agg [.lit (.bool m),.lit (.string s.data.toList)],.lit (.int .i64 d)],[])) (y1:=(.agg [.agg [.lit (.bool n),.lit (.string t.data.toList)],.lit (.int .i64 e)],[])) ?_ ?_
 ·simp only [su,Value.cells,num_cells,List.drop_zero,List.take_succ_cons,List.take_zero];exact trod_num hs hw
 ·simp only [su,Value.cells,num_cells,List.drop_succ_cons,List.drop_zero,List.take_succ_cons,List.take_zero];exact trod_num ht hv
end
end Go.Proofs.YteofihmlgiepfaaGreatDoor
