/- Layer 1, laid together: P1, P1T. -/
import Derived.Test.YtemedphcafgolaaGreatDoorPA
import Derived.Test.YtemedphcafgolaaGreatDoorHA
/- Package poly: the small ones,walked. -/
namespace Go.Proofs.YtemedphcafgolaaGreatDoor
set_option maxRecDepth 100000
set_option maxHeartbeats 1600000
open Go.RowKit Go.Shelf Go.Lib
theorem loopE (bs:ByteArray):∀ (i:Nat) (r:List UInt8),i≤bs.size→ByteArray.toList.loop bs i r=r.reverse++bs.data.toList.drop i:=by
 intro i r h
 induction hn:bs.size-i generalizing i r with
 | zero =>
  unfold ByteArray.toList.loop
  have:¬ i<bs.size:=by omega
  rw [if_neg this];have e:bs.data.toList.drop i=[]:=List.drop_eq_nil_of_le (by show bs.data.size≤i;have:bs.data.size=bs.size:=rfl;omega);rw [e,List.append_nil]
 | succ n ih =>
  unfold ByteArray.toList.loop;have hi:i<bs.size:=by omega
  rw [if_pos hi,ih (i+1) _ (by omega) (by omega)];have e:bs.data.toList.drop i=bs.get! i::bs.data.toList.drop (i+1):=by
   have hl:i<bs.data.toList.length:=hi;rw [List.drop_eq_getElem_cons hl]
   congr 1
   show _=bs.data[i]!;rw [getElem!_pos bs.data i hi];rfl
  rw [e,List.reverse_cons,List.append_assoc];rfl
theorem toListE (bs:ByteArray):bs.toList=bs.data.toList:=by
 unfold ByteArray.toList;rw [loopE bs 0 [] (Nat.zero_le _)];rfl
theorem isvars_any (w:World) (v:Int) (o:Bool) (ho:decide (0≤v∧v≤12)=o):Calls Tryz.prog 35 #[.int .i64 v] w (fun e w'=>e=.returned (.bool o)∧w=w'):=by
 have HO:=Lib.hid ho;clear ho;go_enter Tryz.func35,Tryz.ntmps35
 by_cases h0:0≤v
 ·go_wp2;go_ret;exact ⟨by rw [← HO.out];simp [h0],rfl⟩
 ·have e1:o=false:=by rw [← HO.out];simp [h0]
  subst e1;go_wp2;go_ret;exact ⟨rfl,rfl⟩
theorem lower_any (w:World) (a b:TV):Calls Tryz.prog 61 #[.agg #[.string a.1,.bool a.2.1,.string a.2.2.1,.int .i64 a.2.2.2],.agg #[.string b.1,.bool b.2.1,.string b.2.2.1,.int .i64 b.2.2.2]] w (Ret (.bool (Op.bytesLess a.1.data.toList b.1.data.toList)) w):=by
 go_enter Tryz.func61,Tryz.ntmps61;go_wp2;go_ret;rw [← toListE,← toListE];exact ⟨rfl,((Below.refl _ _).alloc (Nat.le_refl _) _).alloc (by simp) _⟩
theorem alone_any (w:World) (a:TV):Calls Tryz.prog 40 #[.agg #[.string a.1,.bool a.2.1,.string a.2.2.1,.int .i64 a.2.2.2]] w (fun e w'=>∃ ad c,e=.returned (.slice ad 1 c)∧1≤c∧TAt w' ad [a]∧Below w.heap.size w w'):=by
 go_enter Tryz.func40,Tryz.ntmps40;go_wp2;go_ret;refine ⟨_,_,rfl,Nat.le_refl _,?_,((Below.refl _ _).alloc (Nat.le_refl _) _).alloc (by simp) _⟩;have h:=TAt.new (w.alloc (.cells #[.string a.1,.bool a.2.1,.string a.2.2.1,.int .i64 a.2.2.2] 58)) 58 [a] _ rfl;rw [World.size_alloc] at h;exact h
theorem plin_store_row {P:Program} {ops:Array Oper} {o:Oper} {a:Act} {w:World} {K:Act→World→Prop} {Q:Exit→Act→World→Prop} (hw:Region.wanted o (yielded ops a.tmps)=true) (ty:TypeId) (x y:Operand) (ho:o.op=.store ty x y)
  (g:Nat) (cells:Array Value) (hx:a.eval x=.pointer (some ⟨g,0,none⟩)) (hy:a.eval y=.agg cells) (t:TypeId) (old:Array Value) (hg:w.heap[g]?=some (.cells old t (0,0))) (hi:(P.info? ty).map (·.size)=some cells.size)
  (hold:old.size=cells.size) (h1:cells.all (·.oneCell')=true) (h:K (a.put o.dst undef) (w.setRow g cells)) :
  if Region.wanted o (yielded ops a.tmps)=true then Oper.wp P o a w K Q else K (a.put o.dst undef) w:=by
 rw [if_pos hw];exact wp_store_row ty x y ho g cells hx hy t old hg hi hold h1 h
theorem tblk3 (w:World) (a b c:TV):Tk (((w.alloc (.cells #[.string a.1,.bool a.2.1,.string a.2.2.1,.int .i64 a.2.2.2] 58)).alloc (.cells #[.string b.1,.bool b.2.1,.string b.2.2.1,.int .i64 b.2.2.2] 58)).alloc (.cells #[.string c.1,.bool c.2.1,.string c.2.2.1,.int .i64 c.2.2.2] 58)) w.heap.size a ∧
  Tk (((w.alloc (.cells #[.string a.1,.bool a.2.1,.string a.2.2.1,.int .i64 a.2.2.2] 58)).alloc (.cells #[.string b.1,.bool b.2.1,.string b.2.2.1,.int .i64 b.2.2.2] 58)).alloc (.cells #[.string c.1,.bool c.2.1,.string c.2.2.1,.int .i64 c.2.2.2] 58)) (w.heap.size+1) b ∧
  Tk (((w.alloc (.cells #[.string a.1,.bool a.2.1,.string a.2.2.1,.int .i64 a.2.2.2] 58)).alloc (.cells #[.string b.1,.bool b.2.1,.string b.2.2.1,.int .i64 b.2.2.2] 58)).alloc (.cells #[.string c.1,.bool c.2.1,.string c.2.2.1,.int .i64 c.2.2.2] 58)) (w.heap.size+2) c ∧
  Below w.heap.size w (((w.alloc (.cells #[.string a.1,.bool a.2.1,.string a.2.2.1,.int .i64 a.2.2.2] 58)).alloc (.cells #[.string b.1,.bool b.2.1,.string b.2.2.1,.int .i64 b.2.2.2] 58)).alloc (.cells #[.string c.1,.bool c.2.1,.string c.2.2.1,.int .i64 c.2.2.2] 58)):=by
 refine ⟨((Tk.new w a.1 a.2.1 a.2.2.1 a.2.2.2).alloc _).alloc _,?_,?_,(((Below.refl _ _).alloc (Nat.le_refl _) _).alloc (by simp) _).alloc (by simp;omega) _⟩
 ·have h:=(Tk.new (w.alloc (.cells #[.string a.1,.bool a.2.1,.string a.2.2.1,.int .i64 a.2.2.2] 58)) b.1 b.2.1 b.2.2.1 b.2.2.2).alloc (.cells #[.string c.1,.bool c.2.1,.string c.2.2.1,.int .i64 c.2.2.2] 58);rw [World.size_alloc] at h;exact h
 ·have h:=Tk.new ((w.alloc (.cells #[.string a.1,.bool a.2.1,.string a.2.2.1,.int .i64 a.2.2.2] 58)).alloc (.cells #[.string b.1,.bool b.2.1,.string b.2.2.1,.int .i64 b.2.2.2] 58)) c.1 c.2.1 c.2.2.1 c.2.2.2;rw [World.size_alloc,World.size_alloc] at h;exact h
theorem sum_two (x y:NV):sumD [x,y] 2=nvl x+nvl y:=by
 show (0+nvl x)+nvl y=_;rw [Dyadic.zero_add]
theorem ptogether_any (w:World) (a b:TV) (ha:a.2.2.1.size≤10000∧-100000≤a.2.2.2∧a.2.2.2≤100000) (hb' : b.2.2.1.size≤10000∧-100000≤b.2.2.2∧b.2.2.2≤100000) (m:Bool) (s:ByteArray) (d:Int) (hd:df (nvl a.2+nvl b.2)=nu m s d) :
  Calls Tryz.prog 62 #[.agg #[.string a.1,.bool a.2.1,.string a.2.2.1,.int .i64 a.2.2.2],.agg #[.string b.1,.bool b.2.1,.string b.2.2.1,.int .i64 b.2.2.2]] w (Ret (.agg #[.string a.1,.bool m,.string s,.int .i64 d]) w):=by
 obtain ⟨hA,hB,hR,hb⟩:=tblk3 w a b (⟨#[]⟩,false,⟨#[]⟩,0);obtain ⟨ta,ma,sa,da⟩:=a;obtain ⟨tb,mb,sb,db⟩:=b;simp only at hA hB hR hb ha hb' hd;have hc:∀ x∈[(ma,sa,da),(mb,sb,db)],x.2.1.size≤10000∧-100000≤x.2.2∧x.2.2≤100000:=fun x h=>by
  rcases List.mem_cons.1 h with rfl|h
  ·exact ha
  ·rcases List.mem_singleton.1 h with rfl
   exact hb'
 have HD:=Lib.hid (And.intro hc ((congrArg df (sum_two (ma,sa,da) (mb,sb,db))).trans hd));clear hd hc ha hb';go_enter Tryz.func62,Tryz.ntmps62;go_wp2_with fail;generalize (((w.alloc (.cells #[.string ta,.bool ma,.string sa,.int .i64 da] 58)).alloc (.cells #[.string tb,.bool mb,.string sb,.int .i64 db] 58)).alloc (.cells #[.string ⟨#[]⟩,.bool false,.string ⟨#[]⟩,.int .i64 0] 58))=W0 at *;generalize hP2:w.heap.size+1+1=P2 at *;generalize hP1:w.heap.size+1=P1 at *;have hPs:w.heap.size≤P2:=by omega
 replace hA:Rw W0 w.heap.size 58 [.string ta,.bool ma,.string sa,.int .i64 da]:=hA;replace hB:Rw W0 P1 58 [.string tb,.bool mb,.string sb,.int .i64 db]:=hB;replace hR:Rw W0 P2 58 [.string ⟨#[]⟩,.bool false,.string ⟨#[]⟩,.int .i64 0]:=hR;refine region_segs (n:=10) #[false,false,false,false,false,false,false,false,false,false] (by kernel_rfl) (by kernel_rfl) (by kernel_rfl) ?_;intro fu hf;refine ls 10 [0,1,2,3,4,5,6,7,8] 8 (fun L ac Wn=>∃ l0 l1 l2 l3 l4 l5 l6 l7:Bool,L=#[l0,l1,l2,l3,l4,l5,l6,l7,false,false]∧∃ g11:Nat,ac={tmps:=#[.agg #[.string ta,.bool ma,.string sa,.int .i64 da],.agg #[.string tb,.bool mb,.string sb,.int .i64 db],.pointer (some ⟨w.heap.size,0,none⟩),.pointer (some ⟨P1,0,none⟩),.pointer (some ⟨P2,0,none⟩),sel l0 (.pointer (some ⟨w.heap.size,0,none⟩)) (undef),sel l1 (.string ta) (undef),sel l2 (.pointer (some { block:=w.heap.size,off:=1 })) (undef),sel l3 (.agg #[.bool ma,.string sa,.int .i64 da]) (undef),sel l4 (.pointer (some { block:=P1,off:=1 })) (undef),sel l5 (.agg #[.bool mb,.string sb,.int .i64 db]) (undef),sel l6 (.slice (some ⟨g11,0,none⟩) 2 2) (undef),sel l7 (.agg #[.bool m,.string s,.int .i64 d]) (undef),undef],defers:=[] }∧Below (w.heap.size) w Wn∧(Rw Wn (w.heap.size) 58 [.string ta,.bool ma,.string sa,.int .i64 da])∧(Rw Wn P1 58 [.string tb,.bool mb,.string sb,.int .i64 db])∧(Rw Wn P2 58 [.string ⟨#[]⟩,.bool false,.string ⟨#[]⟩,.int .i64 0])∧(On l6→Off l7→NAt Wn (some ⟨g11,0,none⟩) [(ma,sa,da),(mb,sb,db)])) hf ?_ ?_ ?_ ?_
 ·exact ⟨false,false,false,false,false,false,false,false,by kernel_rfl,0,by kernel_rfl,hb.drew,hA.drew,hB.drew,hR.drew,(fun h _=>not_ft h)⟩
 ·rintro L ac Wn ⟨l0,l1,l2,l3,l4,l5,l6,l7,rfl,_⟩
  kernel_rfl
 ·refine (seg_all (b:=8) [0,1,2,3,4,5,6,7] ?_:∀ j∈[0,1,2,3,4,5,6,7,8],j≠8→_);refine lc [] [1] ?_ ?_
  ·rintro L ac Wn ⟨l0,l1,l2,l3,l4,l5,l6,l7,rfl,hI⟩ rfl - ⟨rfl,-⟩ Kc hK;simp only [sel_f] at hI;obtain ⟨g11,rfl,hb,hA,hB,hR,hW6⟩:=hI;refine ly (.pointer (some ⟨w.heap.size,0,none⟩)) ?_;exact hK.out _ _ ⟨true,false,l2,l3,l4,l5,l6,l7,by kernel_rfl,g11,by kernel_rfl,hb,hA,hB,hR,(fun z0 z1=>(hW6 z0 z1))⟩
  refine lc [0] [] ?_ ?_
  ·rintro L ac Wn ⟨l0,l1,l2,l3,l4,l5,l6,l7,rfl,hI⟩ rfl ⟨rfl,-⟩ - Kc hK;simp only [sel_t,sel_f] at hI;obtain ⟨g11,rfl,hb,hA,hB,hR,hW6⟩:=hI;have q0:=(hA).cell 0;have f0:=(hA).frozen 0;have q1:=(hA).cell 1;have f1:=(hA).frozen 1;have q2:=(hA).cell 2;have f2:=(hA).frozen 2;have q3:=(hA).cell 3;have f3:=(hA).frozen 3;simp only [List.getElem?_cons_zero,List.getElem?_cons_succ] at q0 q1 q2 q3;refine ly (.string ta) ?_;exact hK.out _ _ ⟨true,true,l2,l3,l4,l5,l6,l7,by kernel_rfl,g11,by kernel_rfl,hb,hA,hB,hR,(fun z0 z1=>(hW6 z0 z1))⟩
  refine lc [] [3,6,7] ?_ ?_
  ·rintro L ac Wn ⟨l0,l1,l2,l3,l4,l5,l6,l7,rfl,hI⟩ rfl - ⟨rfl,rfl,rfl,-⟩ Kc hK;simp only [sel_f] at hI;obtain ⟨g11,rfl,hb,hA,hB,hR,hW6⟩:=hI;refine ly (.pointer (some { block:=w.heap.size,off:=1 })) ?_;exact hK.out _ _ ⟨l0,l1,true,false,l4,l5,false,false,by kernel_rfl,g11,by kernel_rfl,hb,hA,hB,hR,(fun h _=>not_ft h)⟩
  refine lc [2] [6,7] ?_ ?_
  ·rintro L ac Wn ⟨l0,l1,l2,l3,l4,l5,l6,l7,rfl,hI⟩ rfl ⟨rfl,-⟩ ⟨rfl,rfl,-⟩ Kc hK;simp only [sel_t,sel_f] at hI;obtain ⟨g11,rfl,hb,hA,hB,hR,hW6⟩:=hI;have q0:=(hA).cell 0;have f0:=(hA).frozen 0;have q1:=(hA).cell 1;have f1:=(hA).frozen 1;have q2:=(hA).cell 2;have f2:=(hA).frozen 2;have q3:=(hA).cell 3;have f3:=(hA).frozen 3;simp only [List.getElem?_cons_zero,List.getElem?_cons_succ] at q0 q1 q2 q3;refine ly (.agg #[.bool ma,.string sa,.int .i64 da]) ?_;exact hK.out _ _ ⟨l0,l1,true,true,l4,l5,false,false,by kernel_rfl,g11,by kernel_rfl,hb,hA,hB,hR,(fun h _=>not_ft h)⟩
  refine lc [] [5,6,7] ?_ ?_
  ·rintro L ac Wn ⟨l0,l1,l2,l3,l4,l5,l6,l7,rfl,hI⟩ rfl - ⟨rfl,rfl,rfl,-⟩ Kc hK;simp only [sel_f] at hI;obtain ⟨g11,rfl,hb,hA,hB,hR,hW6⟩:=hI;refine ly (.pointer (some { block:=P1,off:=1 })) ?_;exact hK.out _ _ ⟨l0,l1,l2,l3,true,false,false,false,by kernel_rfl,g11,by kernel_rfl,hb,hA,hB,hR,(fun h _=>not_ft h)⟩
  refine lc [4] [6,7] ?_ ?_
  ·rintro L ac Wn ⟨l0,l1,l2,l3,l4,l5,l6,l7,rfl,hI⟩ rfl ⟨rfl,-⟩ ⟨rfl,rfl,-⟩ Kc hK;simp only [sel_t,sel_f] at hI;obtain ⟨g11,rfl,hb,hA,hB,hR,hW6⟩:=hI;have q0:=(hB).cell 0;have f0:=(hB).frozen 0;have q1:=(hB).cell 1;have f1:=(hB).frozen 1;have q2:=(hB).cell 2;have f2:=(hB).frozen 2;have q3:=(hB).cell 3;have f3:=(hB).frozen 3;simp only [List.getElem?_cons_zero,List.getElem?_cons_succ] at q0 q1 q2 q3;refine ly (.agg #[.bool mb,.string sb,.int .i64 db]) ?_;exact hK.out _ _ ⟨l0,l1,l2,l3,true,true,false,false,by kernel_rfl,g11,by kernel_rfl,hb,hA,hB,hR,(fun h _=>not_ft h)⟩
  refine lc [2,3,4,5] [7] ?_ ?_
  ·rintro L ac Wn ⟨l0,l1,l2,l3,l4,l5,l6,l7,rfl,hI⟩ rfl ⟨rfl,rfl,rfl,rfl,-⟩ ⟨rfl,-⟩ Kc hK;simp only [sel_t,sel_f] at hI;obtain ⟨g11,rfl,hb,hA,hB,hR,hW6⟩:=hI;go_simp;exact hK.out _ _ ⟨l0,l1,true,true,true,true,true,false,by kernel_rfl,_,by kernel_rfl,(hb.alloc hb.size _),(hA.alloc _),(hB.alloc _),(hR.alloc _),(fun _ _=>NAt.new _ _ _ _ rfl)⟩
  refine ln [2,3,4,5,6] [] ?_;rintro L ac Wn ⟨l0,l1,l2,l3,l4,l5,l6,l7,rfl,hI⟩ rfl ⟨rfl,rfl,rfl,rfl,rfl,-⟩ - Kc hK;simp only [sel_t,sel_f] at hI;obtain ⟨g11,rfl,hb,hA,hB,hR,hW6⟩:=hI;go_simp;go_fit (yadd_any _ _ [(ma,sa,da),(mb,sb,db)] 2 2 rfl (by omega) HD.out.1 (hW6 rfl rfl) m s d HD.out.2);rintro e V ⟨rfl,hq⟩;exact hK.out _ _ ⟨l0,l1,true,true,true,true,true,true,by kernel_rfl,g11,by kernel_rfl,(below_next hb hq),(hA.below hq (hA).lt),(hB.below hq (hB).lt),(hR.below hq (hR).lt),(fun _ h=>not_tf h)⟩
 refine bo [0,1,2,3,4,5,6,7] ?_;rintro L ac Wn ⟨l0,l1,l2,l3,l4,l5,l6,l7,rfl,hI⟩ ⟨rfl,rfl,rfl,rfl,rfl,rfl,rfl,rfl,-⟩ Kc hK;simp only [sel_t] at hI;obtain ⟨g11,rfl,hb,hA,hB,hR,hW6⟩:=hI;clear hW6;refine ly (.agg #[.string ta,.bool m,.string s,.int .i64 d]) ?_;refine hK.out _ _ (fun fu hf=>?_);clear hK Kc;refine ls 10 [9] 9 (fun L ac Wn=>L=#[true,true,true,true,true,true,true,true,true,false]∧ac={tmps:=#[.agg #[.string ta,.bool ma,.string sa,.int .i64 da],.agg #[.string tb,.bool mb,.string sb,.int .i64 db],.pointer (some ⟨w.heap.size,0,none⟩),.pointer (some ⟨P1,0,none⟩),.pointer (some ⟨P2,0,none⟩),.pointer (some ⟨w.heap.size,0,none⟩),.string ta,.pointer (some { block:=w.heap.size,off:=1 }),.agg #[.bool ma,.string sa,.int .i64 da],.pointer (some { block:=P1,off:=1 }),.agg #[.bool mb,.string sb,.int .i64 db],.slice (some ⟨g11,0,none⟩) 2 2,.agg #[.bool m,.string s,.int .i64 d],.agg #[.string ta,.bool m,.string s,.int .i64 d]],defers:=[] }∧Below (w.heap.size) w Wn∧(Rw Wn (w.heap.size) 58 [.string ta,.bool ma,.string sa,.int .i64 da])∧(Rw Wn P1 58 [.string tb,.bool mb,.string sb,.int .i64 db])∧(Rw Wn P2 58 [.string ⟨#[]⟩,.bool false,.string ⟨#[]⟩,.int .i64 0])) hf ?_ ?_ ?_ ?_
 ·exact ⟨by kernel_rfl,by kernel_rfl,hb,hA,hB,hR⟩
 ·rintro L ac Wn ⟨rfl,_⟩
  kernel_rfl
 ·exact (seg_all (b:=9) [] lin_nil:∀ j∈[9],j≠9→_)
 refine bo [] ?_;rintro L ac Wn ⟨rfl,hI⟩ - Kc hK;obtain ⟨rfl,hb,hA,hB,hR⟩:=hI;refine plin_store_row rfl 58 _ _ rfl P2 #[.string ta,.bool m,.string s,.int .i64 d] rfl rfl 58 _ hR infoT1 rfl (by kernel_rfl) ?_;have hR2:=setRow_heap Wn P2 _ #[.string ta,.bool m,.string s,.int .i64 d] _ _ hR;replace hb:=below_setRow hb hPs #[.string ta,.bool m,.string s,.int .i64 d];refine hK.out _ _ (fun fu hf=>wpAnyH_done (by kernel_rfl) ?_ _);clear hK Kc hf;go_wp2;exact ret_term (x:=(ta,m,s,d)) rfl rfl hR2 ⟨rfl,hb⟩
end Go.Proofs.YtemedphcafgolaaGreatDoor
