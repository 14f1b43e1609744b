/- Layer 1, laid together: Y9, Y12, YOrd, Y13, Y14. -/
import Derived.Test.YtemedphcafgolaaGreatDoorHS
import Derived.Test.YtemedphcafgolaaGreatDoorHL
/- Package dyad: two numbers on one scale,walked. -/
namespace Go.Proofs.YtemedphcafgolaaGreatDoor
set_option maxRecDepth 100000
set_option maxHeartbeats 3200000
open Go.RowKit Go.Shelf
def cntV (m:Bool) (s:ByteArray) (e E:Int) (z:Bool) (o:ByteArray):Prop:=
 if e=E then z=m∧o=s else if num s=0 then z=false∧o=⟨#[]⟩ else wf (shiftI (wv m s) (e-E))=wi z o
theorem count_zero (w:World) (m:Bool) (s:ByteArray) (e E:Int) (hne:e≠E) (hs:s.size≤100000) (h0:num s=0) (k:Int) (hk:IntKind.i64.wrap (e-E)=k) (hk2:-9223372036854775808≤k) :
  Calls Tryz.prog 115 #[.agg #[.int .i64 E],nu m s e] w (Ret (.agg #[.bool false,.string ⟨#[]⟩]) w):=by
 have hb0:(e == E)=false:=by rw [beq_eq_false_iff_ne];exact hne
 have HZ:=Lib.hid h0;clear h0;unfold nu;go_enter Tryz.func115,Tryz.ntmps115;go_wp2_with fail;obtain ⟨hR,hb⟩:=sblkI w E m false s ⟨#[]⟩ e;generalize (((w.alloc (.cells #[.int .i64 E] 96)).alloc (.cells #[.bool m,.string s,.int .i64 e] 26)).alloc (.cells #[.bool false,.string ⟨#[]⟩] 24))=W0 at *;refine (wshift_zero _ m s k (by omega) hk2 HZ.out).mono ?_;rintro e W ⟨rfl,hq⟩;replace hb:=below_next hb hq;replace hR:=hR.below hq;clear hq;obtain ⟨hR0,hR1,hR2,hR3⟩:=hR.facts;go_wp2;exact ret_whole rfl rfl (hR.set_ _ _) ⟨rfl,below_set2 hb (by omega) _ _ _ _⟩
theorem count_any (w:World) (m:Bool) (s:ByteArray) (e E:Int) (hs:s.size≤100000) (he:-1000000≤e∧e≤1000000) (hE:E=maxI∧num s=0∨(-1000000≤E∧E≤1000000∧e-E≤1000000)) (z:Bool) (o:ByteArray) (h:cntV m s e E z o) :
  Calls Tryz.prog 115 #[.agg #[.int .i64 E],nu m s e] w (Ret (.agg #[.bool z,.string o]) w):=by
 unfold cntV at h
 by_cases h1:e=E
 ·rw [if_pos h1] at h;obtain ⟨rfl,rfl⟩:=h;rw [← h1];exact count_same w z o e
 ·rw [if_neg h1] at h
  by_cases h0:num s=0
  ·rw [if_pos h0] at h;obtain ⟨rfl,rfl⟩:=h;exact count_zero w m s e E h1 hs h0 _ rfl (by rw [IntKind.wrap_i64];omega)
  ·rw [if_neg h0] at h
   rcases hE with ⟨_,h2⟩|⟨h2,h3,h4⟩
   ·exact absurd h2 h0
   ·exact count_else w m s e E h1 hs he ⟨h2,h3⟩ h4 z o h
theorem low_two {m n:Bool} {s t:ByteArray} {d e E:Int} (hd0:-400000≤d∧d≤400000) (he:-400000≤e∧e≤400000) (h:lowF [(m,s,d),(n,t,e)] 2=E) :
  (E=maxI∧num s=0∨(-1000000≤E∧E≤1000000∧d-E≤1000000))∧(E=maxI∧num t=0∨(-1000000≤E∧E≤1000000∧e-E≤1000000)):=by
 have h' : (if wv n t=0 then (if wv m s=0 then maxI else min maxI d) else min (if wv m s=0 then maxI else min maxI d) e)=E:=h;have ha:=wv_abs m s;have hb:=wv_abs n t;unfold maxI at *
 by_cases h1:wv m s=0
 ·rw [if_pos h1] at h'
  by_cases h2:wv n t=0
  ·rw [if_pos h2] at h';omega
  ·rw [if_neg h2] at h';omega
 ·rw [if_neg h1] at h'
  by_cases h2:wv n t=0
  ·rw [if_pos h2] at h';omega
  ·rw [if_neg h2] at h';omega
theorem infoP5:(Tryz.prog.info? 98).map (·.size)=some 5:=by kernel_rfl
theorem ret_pair {fn:Func} {p u:Tmp} {tmps:Array Value} {W:World} {r:Nat} {x0 x1 x2 x3 x4 v:Value} {Q:Ending→World→Prop} (h:fn.results=#[.cell p 98,.tmp u]) (hp:tmps.getD p undef=.pointer (some ⟨r,0,none⟩)) (hu:tmps.getD u undef=v)
  (h1:Rw W r 98 [x0,x1,x2,x3,x4]) (hQ:Q (.returned (.tuple #[.agg #[x0,x1,x2,x3,x4],v])) W):bodyPost Tryz.prog fn Q Exit.ret {tmps:=tmps,defers:=[] } W:=by
 refine bodyPost_ret (v:=.tuple #[.agg #[x0,x1,x2,x3,x4],v]) ?_ rfl hQ;have hp' : tmps[p]?.getD undef=.pointer (some ⟨r,0,none⟩):=by simpa using hp
 have hu' : tmps[u]?.getD undef=v:=by simpa using hu
 have e1:=run_loadVar_row (P:=Tryz.prog) W r _ 98 #[x0,x1,x2,x3,x4] _ _ h1 Tryz.underlying98 rfl infoP5;simp [results,h,hp',hu',asAddr,e1]
theorem paired_num (w:World) (m n:Bool) (s t:ByteArray) (d e:Int) (hs:s.size≤100000) (ht:t.size≤100000) (hd0:-400000≤d∧d≤400000) (he:-400000≤e∧e≤400000) (E:Int) (hE:lowF [(m,s,d),(n,t,e)] 2=E) (z1 z2:Bool) (o1 o2:ByteArray) (h1:cntV m s d E z1 o1) (h2:cntV n t e E z2 o2) :
  Calls Tryz.prog 86 #[nu m s d,nu n t e] w (Ret (.tuple #[.agg #[.int .i64 E,.bool z1,.string o1,.bool z2,.string o2],.bool true]) w):=by
 have HZ:=Lib.hid (And.intro hE (And.intro h1 h2));clear hE h1 h2;unfold nu;go_enter Tryz.func86,Tryz.ntmps86;go_wp2_with fail;obtain ⟨hA,hB,hb⟩:=nblk2 w m n s t d e;have hsz:((w.alloc (.cells #[.bool m,.string s,.int .i64 d] 26)).alloc (.cells #[.bool n,.string t,.int .i64 e] 26)).heap.size=w.heap.size+1+1:=by rw [World.size_alloc,World.size_alloc]
 generalize ((w.alloc (.cells #[.bool m,.string s,.int .i64 d] 26)).alloc (.cells #[.bool n,.string t,.int .i64 e] 26))=W2 at *;have hP:=Rw.new W2 98 [.int .i64 0,.bool false,.string ⟨#[]⟩,.bool false,.string ⟨#[]⟩];rw [hsz] at hP;replace hA:=hA.alloc (.cells #[.int .i64 0,.bool false,.string ⟨#[]⟩,.bool false,.string ⟨#[]⟩] 98);replace hB:=hB.alloc (.cells #[.int .i64 0,.bool false,.string ⟨#[]⟩,.bool false,.string ⟨#[]⟩] 98);replace hb:=hb.alloc (by omega) (.cells #[.int .i64 0,.bool false,.string ⟨#[]⟩,.bool false,.string ⟨#[]⟩] 98);have hsz3:(W2.alloc (.cells #[.int .i64 0,.bool false,.string ⟨#[]⟩,.bool false,.string ⟨#[]⟩] 98)).heap.size=w.heap.size+1+1+1:=by rw [World.size_alloc,hsz]
 have hP' : Rw (W2.alloc (.cells #[.int .i64 0,.bool false,.string ⟨#[]⟩,.bool false,.string ⟨#[]⟩] 98)) (w.heap.size+1+1) 98 [.int .i64 0,.bool false,.string ⟨#[]⟩,.bool false,.string ⟨#[]⟩]:=hP;clear hP;generalize (W2.alloc (.cells #[.int .i64 0,.bool false,.string ⟨#[]⟩,.bool false,.string ⟨#[]⟩] 98))=W3 at *;have hrow:=NAt.new W3 26 [(m,s,d),(n,t,e)] #[.bool m,.string s,.int .i64 d,.bool n,.string t,.int .i64 e] rfl;rw [hsz3] at hrow;have hP:=hP'.alloc (.cells #[.bool m,.string s,.int .i64 d,.bool n,.string t,.int .i64 e] 26);replace hA:=hA.alloc (.cells #[.bool m,.string s,.int .i64 d,.bool n,.string t,.int .i64 e] 26);replace hB:=hB.alloc (.cells #[.bool m,.string s,.int .i64 d,.bool n,.string t,.int .i64 e] 26);replace hb:=hb.alloc (by omega) (.cells #[.bool m,.string s,.int .i64 d,.bool n,.string t,.int .i64 e] 26);clear hP' hsz hsz3;generalize (W3.alloc (.cells #[.bool m,.string s,.int .i64 d,.bool n,.string t,.int .i64 e] 26))=W4 at *;refine (shared_any W4 _ [(m,s,d),(n,t,e)] 2 2 rfl (by omega) (fun x h=>by simp at h;rcases h with h|h <;> (rw [h];exact ⟨by assumption,by simp only;omega,by simp only;omega⟩)) hrow E HZ.out.1).mono ?_;rintro e5 W5 ⟨rfl,hq⟩;replace hb:=below_next hb hq;replace hA:=hA.below hq;replace hB:=hB.below hq;replace hP:=hP.below hq hP.lt;clear hq hrow;obtain ⟨hE1,hE2⟩:=low_two hd0 he HZ.out.1;have HE:=Lib.hid (And.intro hE1 hE2);clear hE1 hE2;go_wp2_with fail;have hP5:=hP.lt;replace hA:=(hA.alloc (.cells #[.int .i64 E] 96))
 replace hB:=(hB.alloc (.cells #[.int .i64 E] 96));replace hP:=(hP.alloc (.cells #[.int .i64 E] 96));have hC:=Rw.new W5 96 [.int .i64 E];have hb5:=hb.size;replace hb:=(hb.alloc hb5 (.cells #[.int .i64 E] 96));have hC' : Rw (W5.alloc (.cells #[.int .i64 E] 96)) W5.heap.size 96 [.int .i64 E]:=hC;clear hC;generalize (W5.alloc (.cells #[.int .i64 E] 96))=W6 at *;generalize W5.heap.size=Q at *
 refine region_lin (n:=10) [0,1,2,3,4,5,6,7,8,9] (fun L ac Wn=>∃ l0 l1 l2 l3 l4 l5 l6 l7 l8 l9:Bool,L=#[l0,l1,l2,l3,l4,l5,l6,l7,l8,l9]∧ac={tmps:=#[.agg #[.bool m,.string s,.int .i64 d],.agg #[.bool n,.string t,.int .i64 e],.pointer (some ⟨w.heap.size,0,none⟩),.pointer (some ⟨w.heap.size+1,0,none⟩),.pointer (some ⟨w.heap.size+1+1,0,none⟩),sel l9 (.bool true) (.bool false),.pointer (some ⟨Q,0,none⟩),.bool true,.tuple #[.agg #[.int .i64 E],.bool true],.agg #[.bool m,.string s,.int .i64 d],.agg #[.bool n,.string t,.int .i64 e],.slice (some ⟨w.heap.size+1+1+1,0,none⟩) 2 2,.tuple #[.agg #[.int .i64 E],.bool true],.agg #[.int .i64 E],.bool true,.bool true,.bool false,undef,sel l0 (.agg #[.int .i64 E]) (undef),sel l1 (.agg #[.int .i64 E]) (undef),sel l2 (.agg #[.bool m,.string s,.int .i64 d]) (undef),sel l3 (.agg #[.bool z1,.string o1]) (undef),sel l4 (.agg #[.int .i64 E]) (undef),sel l5 (.agg #[.bool n,.string t,.int .i64 e]) (undef),sel l6 (.agg #[.bool z2,.string o2]) (undef),sel l7 (.agg #[.int .i64 E,.bool z1,.string o1,.bool z2,.string o2]) (undef)],defers:=[] }∧Below (w.heap.size) w Wn∧(Nk Wn (w.heap.size) m s d)∧(Nk Wn (w.heap.size+1) n t e)∧(Rw Wn Q 96 [.int .i64 E])∧(Off l8→Rw Wn (w.heap.size+1+1) 98 [.int .i64 0,.bool false,.string ⟨#[]⟩,.bool false,.string ⟨#[]⟩])∧(On l8→Rw Wn (w.heap.size+1+1) 98 [.int .i64 E,.bool z1,.string o1,.bool z2,.string o2])) (by kernel_rfl) (by kernel_rfl) (by kernel_rfl) (by kernel_rfl) ?_ ?_ ?_
 ·exact ⟨false,false,false,false,false,false,false,false,false,false,by kernel_rfl,by kernel_rfl,hb.drew,hA.drew,hB.drew,hC',(fun _=>hP),(fun h=>not_ft h)⟩
 ·refine lc [] [7,8,9] ?_ ?_
  ·rintro L ac Wn ⟨l0,l1,l2,l3,l4,l5,l6,l7,l8,l9,rfl,hI⟩ rfl - ⟨rfl,rfl,rfl,-⟩ Kc hK;simp only [sel_f] at hI;obtain ⟨rfl,hb,hA,hB,hC,hP,hP'⟩:=hI;have q0:=(hC).cell 0;have f0:=(hC).frozen 0;simp only [List.getElem?_cons_zero] at q0;refine lin_yield (.agg #[.int .i64 E]) rfl (by go_simp;first|done|with_reducible rfl) ?_;exact hK.out _ _ ⟨true,l1,l2,l3,l4,l5,l6,false,false,false,by kernel_rfl,by kernel_rfl,hb,hA,hB,hC,(fun z0=>(hP z0)),(fun h=>not_ft h)⟩
  refine lc [] [3,6,7,8,9] ?_ ?_
  ·rintro L ac Wn ⟨l0,l1,l2,l3,l4,l5,l6,l7,l8,l9,rfl,hI⟩ rfl - ⟨rfl,rfl,rfl,rfl,rfl,-⟩ Kc hK;simp only [sel_f] at hI;obtain ⟨rfl,hb,hA,hB,hC,hP,hP'⟩:=hI;have q0:=(hC).cell 0;have f0:=(hC).frozen 0;simp only [List.getElem?_cons_zero] at q0;refine lin_yield (.agg #[.int .i64 E]) rfl (by go_simp;first|done|with_reducible rfl) ?_;exact hK.out _ _ ⟨l0,true,l2,false,l4,l5,false,false,false,false,by kernel_rfl,by kernel_rfl,hb,hA,hB,hC,(fun z0=>(hP z0)),(fun h=>not_ft h)⟩
  refine lc [] [3,6,7,8,9] ?_ ?_
  ·rintro L ac Wn ⟨l0,l1,l2,l3,l4,l5,l6,l7,l8,l9,rfl,hI⟩ rfl - ⟨rfl,rfl,rfl,rfl,rfl,-⟩ Kc hK;simp only [sel_f] at hI;obtain ⟨rfl,hb,hA,hB,hC,hP,hP'⟩:=hI;obtain ⟨q0,q1,q2,q3,q4,q5⟩:=(hA).facts;refine lin_yield (.agg #[.bool m,.string s,.int .i64 d]) rfl (by go_simp;first|done|with_reducible rfl) ?_;exact hK.out _ _ ⟨l0,l1,true,false,l4,l5,false,false,false,false,by kernel_rfl,by kernel_rfl,hb,hA,hB,hC,(fun z0=>(hP z0)),(fun h=>not_ft h)⟩
  refine lc [1,2] [6,7,8,9] ?_ ?_
  ·rintro L ac Wn ⟨l0,l1,l2,l3,l4,l5,l6,l7,l8,l9,rfl,hI⟩ rfl ⟨rfl,rfl,-⟩ ⟨rfl,rfl,rfl,rfl,-⟩ Kc hK;simp only [sel_t,sel_f] at hI;obtain ⟨rfl,hb,hA,hB,hC,hP,hP'⟩:=hI;go_simp;go_fit (count_any _ m s d E (by omega) (by omega) HE.out.1 z1 o1 HZ.out.2.1);rintro e V ⟨rfl,hq⟩;exact hK.out _ _ ⟨l0,true,true,true,l4,l5,false,false,false,false,by kernel_rfl,by kernel_rfl,(below_next hb hq),(hA.below hq),(hB.below hq),(hC.below hq (hC).lt),(fun z0=>(hP z0).below hq ((hP z0)).lt),(fun h=>not_ft h)⟩
  refine lc [] [6,7,8,9] ?_ ?_
  ·rintro L ac Wn ⟨l0,l1,l2,l3,l4,l5,l6,l7,l8,l9,rfl,hI⟩ rfl - ⟨rfl,rfl,rfl,rfl,-⟩ Kc hK;simp only [sel_f] at hI;obtain ⟨rfl,hb,hA,hB,hC,hP,hP'⟩:=hI;have q0:=(hC).cell 0;have f0:=(hC).frozen 0;simp only [List.getElem?_cons_zero] at q0;refine lin_yield (.agg #[.int .i64 E]) rfl (by go_simp;first|done|with_reducible rfl) ?_;exact hK.out _ _ ⟨l0,l1,l2,l3,true,l5,false,false,false,false,by kernel_rfl,by kernel_rfl,hb,hA,hB,hC,(fun z0=>(hP z0)),(fun h=>not_ft h)⟩
  refine lc [] [6,7,8,9] ?_ ?_
  ·rintro L ac Wn ⟨l0,l1,l2,l3,l4,l5,l6,l7,l8,l9,rfl,hI⟩ rfl - ⟨rfl,rfl,rfl,rfl,-⟩ Kc hK;simp only [sel_f] at hI;obtain ⟨rfl,hb,hA,hB,hC,hP,hP'⟩:=hI;obtain ⟨q0,q1,q2,q3,q4,q5⟩:=(hB).facts;refine lin_yield (.agg #[.bool n,.string t,.int .i64 e]) rfl (by go_simp;first|done|with_reducible rfl) ?_;exact hK.out _ _ ⟨l0,l1,l2,l3,l4,true,false,false,false,false,by kernel_rfl,by kernel_rfl,hb,hA,hB,hC,(fun z0=>(hP z0)),(fun h=>not_ft h)⟩
  refine lc [1,2,3,4,5] [7,8,9] ?_ ?_
  ·rintro L ac Wn ⟨l0,l1,l2,l3,l4,l5,l6,l7,l8,l9,rfl,hI⟩ rfl ⟨rfl,rfl,rfl,rfl,rfl,-⟩ ⟨rfl,rfl,rfl,-⟩ Kc hK;simp only [sel_t,sel_f] at hI;obtain ⟨rfl,hb,hA,hB,hC,hP,hP'⟩:=hI;go_simp;go_fit (count_any _ n t e E (by omega) (by omega) HE.out.2 z2 o2 HZ.out.2.2);rintro e V ⟨rfl,hq⟩;exact hK.out _ _ ⟨l0,true,true,true,true,true,true,false,false,false,by kernel_rfl,by kernel_rfl,(below_next hb hq),(hA.below hq),(hB.below hq),(hC.below hq (hC).lt),(fun z0=>(hP z0).below hq ((hP z0)).lt),(fun h=>not_ft h)⟩
  refine lc [0,1,2,3,4,5,6] [8,9] ?_ ?_
  ·rintro L ac Wn ⟨l0,l1,l2,l3,l4,l5,l6,l7,l8,l9,rfl,hI⟩ rfl ⟨rfl,rfl,rfl,rfl,rfl,rfl,rfl,-⟩ ⟨rfl,rfl,-⟩ Kc hK;simp only [sel_t,sel_f] at hI;obtain ⟨rfl,hb,hA,hB,hC,hP,hP'⟩:=hI;refine lin_yield (.agg #[.int .i64 E,.bool z1,.string o1,.bool z2,.string o2]) rfl (by go_simp;first|done|with_reducible rfl) ?_;exact hK.out _ _ ⟨true,true,true,true,true,true,true,true,false,false,by kernel_rfl,by kernel_rfl,hb,hA,hB,hC,(fun z0=>(hP z0)),(fun h=>not_ft h)⟩
  refine lc [0,1,2,3,4,5,6,7] [9] ?_ ?_
  ·rintro L ac Wn ⟨l0,l1,l2,l3,l4,l5,l6,l7,l8,l9,rfl,hI⟩ rfl ⟨rfl,rfl,rfl,rfl,rfl,rfl,rfl,rfl,-⟩ ⟨rfl,-⟩ Kc hK;simp only [sel_t,sel_f] at hI;obtain ⟨rfl,hb,hA,hB,hC,hP,hP'⟩:=hI;have q0:=(hP rfl).cell 0;have f0:=(hP rfl).frozen 0;have q1:=(hP rfl).cell 1;have f1:=(hP rfl).frozen 1;have q2:=(hP rfl).cell 2;have f2:=(hP rfl).frozen 2;have q3:=(hP rfl).cell 3;have f3:=(hP rfl).frozen 3;have q4:=(hP rfl).cell 4;have f4:=(hP rfl).frozen 4;simp only [List.getElem?_cons_zero,List.getElem?_cons_succ] at q0 q1 q2 q3 q4;go_simp
   exact hK.out _ _ ⟨true,true,true,true,true,true,true,true,true,false,by kernel_rfl,by kernel_rfl,(((((hb.setCell (by show w.heap.size≤w.heap.size+1+1;omega) _).setCell (by show w.heap.size≤w.heap.size+1+1;omega) _).setCell (by show w.heap.size≤w.heap.size+1+1;omega) _).setCell (by show w.heap.size≤w.heap.size+1+1;omega) _).setCell (by show w.heap.size≤w.heap.size+1+1;omega) _),((((((hA).far (by show w.heap.size≠w.heap.size+1+1;omega) _).far (by show w.heap.size≠w.heap.size+1+1;omega) _).far (by show w.heap.size≠w.heap.size+1+1;omega) _).far (by show w.heap.size≠w.heap.size+1+1;omega) _).far (by show w.heap.size≠w.heap.size+1+1;omega) _),((((((hB).far (by show w.heap.size+1≠w.heap.size+1+1;omega) _).far (by show w.heap.size+1≠w.heap.size+1+1;omega) _).far (by show w.heap.size+1≠w.heap.size+1+1;omega) _).far (by show w.heap.size+1≠w.heap.size+1+1;omega) _).far (by show w.heap.size+1≠w.heap.size+1+1;omega) _),((((((hC).far (by show Q≠w.heap.size+1+1;omega) _).far (by show Q≠w.heap.size+1+1;omega) _).far (by show Q≠w.heap.size+1+1;omega) _).far (by show Q≠w.heap.size+1+1;omega) _).far (by show Q≠w.heap.size+1+1;omega) _),(fun h=>not_tf h),(fun _=>(((((hP rfl).set_ 0 _).set_ 1 _).set_ 2 _).set_ 3 _).set_ 4 _)⟩
  refine ln [0,1,2,3,4,5,6,7,8] [] ?_;rintro L ac Wn ⟨l0,l1,l2,l3,l4,l5,l6,l7,l8,l9,rfl,hI⟩ rfl ⟨rfl,rfl,rfl,rfl,rfl,rfl,rfl,rfl,rfl,-⟩ - Kc hK;simp only [sel_t,sel_f] at hI;obtain ⟨rfl,hb,hA,hB,hC,hP,hP'⟩:=hI;refine lin_yield (.bool true) rfl (by go_simp;first|done|with_reducible rfl) ?_;exact hK.out _ _ ⟨true,true,true,true,true,true,true,true,true,true,by kernel_rfl,by kernel_rfl,hb,hA,hB,hC,(fun h=>not_tf h),(fun z0=>(hP' z0))⟩
 ·intro L ac Wn hI hall;obtain ⟨l0,l1,l2,l3,l4,l5,l6,l7,l8,l9,rfl,hI⟩:=hI;obtain ⟨rfl,rfl,rfl,rfl,rfl,rfl,rfl,rfl,rfl,rfl,-⟩:l0=true∧l1=true∧l2=true∧l3=true∧l4=true∧l5=true∧l6=true∧l7=true∧l8=true∧l9=true∧True:=hall;simp only [sel_t] at hI;obtain ⟨rfl,hb,hA,hB,hC,hP,hP'⟩:=hI;clear hP;replace hP':=hP' rfl;go_wp2;exact ret_pair rfl rfl rfl hP' ⟨rfl,hb⟩
theorem cmpbits_ge (w:World) (m n:Bool) (s t:ByteArray) (d e:Int) (hs:s.size≤1000000) (ht:t.size≤1000000) (hd0:-1000000≤d∧d≤1000000) (he:-1000000≤e∧e≤1000000) (h:e≤d) (c:Int) (hc:sg ((bl (num s)+d:Int)-(bl (num t)+e))=c) :
  Calls Tryz.prog 85 #[nu m s d,nu n t e] w (Ret (.int .i64 c) w):=by
 have hlt:decide (d<e)=false:=decide_eq_false (by omega);obtain ⟨g,hg⟩:∃ g:Nat,d-e=g:=⟨(d-e).toNat,by omega⟩;have hgw:IntKind.u64.wrap (IntKind.u64.wrap d-IntKind.u64.wrap e)=(g:Int):=by
  simp only [IntKind.wrap,IntKind.bits,IntKind.signed];simp;omega
 obtain ⟨ls,hls⟩:∃ x:Nat,bl (num s)=x:=⟨_,rfl⟩;obtain ⟨lt,hlt2⟩:∃ x:Nat,bl (num t)=x:=⟨_,rfl⟩;have b1:=bl_size hs;have b2:=bl_size ht;rw [hls] at b1 hc;rw [hlt2] at b2 hc;have HL:=Lib.hid (And.intro hls hlt2);have HC:=Lib.hid (And.intro hc hg);have hgb:g≤2000000:=by omega
 clear hls hlt2 hc hg hd0 he h;unfold nu;go_enter Tryz.func85,Tryz.ntmps85;go_wp2_with fail;obtain ⟨hA,hB,hb⟩:=nblk2 w m n s t d e;generalize ((w.alloc (.cells #[.bool m,.string s,.int .i64 d] 26)).alloc (.cells #[.bool n,.string t,.int .i64 e] 26))=W0 at *;refine (use_len _ t (lt:Int) (by omega) (by rw [HL.out.2])).mono ?_;rintro e1 W ⟨rfl,hq⟩;replace hb:=below_next hb hq;replace hA:=hA.below hq;clear hq hB hlt;obtain ⟨hA0,hA1,hA2⟩:=hA.cells;have hlw:IntKind.u64.wrap (lt:Int)=(lt:Int):=by
  simp only [IntKind.wrap,IntKind.bits,IntKind.signed];simp;omega
 have hgi:IntKind.i64.wrap (g:Int)=(g:Int):=by rw [IntKind.wrap_i64];omega
 have hsum:IntKind.i64.wrap ((ls:Int)+g)=(ls:Int)+g:=by rw [IntKind.wrap_i64];omega
 by_cases hgt:lt<g
 ·have hgt2:decide ((lt:Int)<(g:Int))=true:=decide_eq_true (by omega);have hc1:c=1:=by
   obtain ⟨h1,h2⟩:=HC.out;rw [← h1]
   rcases sg_cases ((ls:Int)+d-(lt+e)) with ⟨h3,h4⟩|⟨h3,h4⟩|⟨h3,h4⟩ <;> omega
  subst hc1;go_wp2;go_ret;exact ⟨rfl,hb⟩
 ·have hgt2:decide ((lt:Int)<(g:Int))=false:=decide_eq_false (by omega);go_wp2_with fail;refine (use_len _ s (ls:Int) (by omega) (by rw [HL.out.1])).mono ?_;rintro e2 V ⟨rfl,hq⟩;replace hb:=below_next hb hq;clear hq hA hA0 hA1 hA2;go_wp2_with fail;refine (Tryz.cmp_Compare_int ((ls:Int)+g) lt _).mono ?_;rintro e3 V' ⟨rfl,rfl⟩;have hcc:Lib.compareInt ((ls:Int)+g) lt=c:=by
   obtain ⟨h1,h2⟩:=HC.out;rw [← h1];unfold Lib.compareInt
   rcases sg_cases ((ls:Int)+d-(lt+e)) with ⟨h3,h4⟩|⟨h3,h4⟩|⟨h3,h4⟩
   ·rw [if_neg (by omega),if_neg (by omega),h4]
   ·rw [if_pos (by omega),h4]
   ·rw [if_neg (by omega),if_pos (by omega),h4]
  rw [hcc];go_wp2;go_ret;exact ⟨rfl,hb⟩
theorem cmpbits_any (w:World) (m n:Bool) (s t:ByteArray) (d e:Int) (hs:s.size≤1000000) (ht:t.size≤1000000) (hd0:-1000000≤d∧d≤1000000) (he:-1000000≤e∧e≤1000000) (c:Int) (hc:sg ((bl (num s)+d:Int)-(bl (num t)+e))=c) :
  Calls Tryz.prog 85 #[nu m s d,nu n t e] w (Ret (.int .i64 c) w):=by
 by_cases h:e≤d
 ·exact cmpbits_ge w m n s t d e hs ht hd0 he h c hc
 ·have hlt:decide (d<e)=true:=decide_eq_true (by omega);have hc2:sg ((bl (num t)+e:Int)-(bl (num s)+d))=-c:=by
   rw [← hc]
   rcases sg_cases ((bl (num s)+d:Int)-(bl (num t)+e)) with ⟨h3,h4⟩|⟨h3,h4⟩|⟨h3,h4⟩ <;> rcases sg_cases ((bl (num t)+e:Int)-(bl (num s)+d)) with ⟨h5,h6⟩|⟨h5,h6⟩|⟨h5,h6⟩ <;> omega
  have hcb:-1≤c∧c≤1:=by
   rw [← hc]
   rcases sg_cases ((bl (num s)+d:Int)-(bl (num t)+e)) with ⟨h3,h4⟩|⟨h3,h4⟩|⟨h3,h4⟩ <;> omega
  have hneg:IntKind.i64.wrap (- -c)=c:=by rw [IntKind.wrap_i64];omega
  have HC:=Lib.hid hc2;clear hc hc2;unfold nu;go_enter Tryz.func85,Tryz.ntmps85;go_wp2_with fail;obtain ⟨hA,hB,hb⟩:=nblk2 w m n s t d e;generalize ((w.alloc (.cells #[.bool m,.string s,.int .i64 d] 26)).alloc (.cells #[.bool n,.string t,.int .i64 e] 26))=W0 at *;refine (cmpbits_ge _ n m t s e d (by omega) (by omega) (by omega) (by omega) (by omega) (-c) HC.out).mono ?_;rintro e1 W ⟨rfl,hq⟩;replace hb:=below_next hb hq;go_wp2;go_ret;exact ⟨rfl,hb⟩
def dsg (x:Dyadic):Int:=sg (dm x)
theorem dsg_form {x:Dyadic} {m:Bool} {s:ByteArray} {e:Int} (h:df x=nu m s e):sg (wv m s)=dsg x:=by rw [(df_parts h).1];rfl
theorem dsg_of (z p:Int):dsg (.ofIntWithPrec z p)=sg z:=by
 by_cases hz:z=0
 ·subst hz;rfl
 ·have h:=df_of (-p) hz;rw [Int.neg_neg] at h;rw [← dsg_form h,sI_fb];have h1:0<z.natAbs / 2 ^ tz z.natAbs:=by
   obtain ⟨t,j,ht⟩:=tz_ex (n:=z.natAbs) (by omega);have htz:tz z.natAbs=t:=by rw [ht,tz_of]
   rw [htz];have hq:z.natAbs / 2 ^ t=2*j+1:=by
    have h2:0<2 ^ t:=Nat.two_pow_pos t;rw [ht,Nat.mul_comm];exact Nat.mul_div_cancel _ h2
   rw [hq];omega
  generalize z.natAbs / 2 ^ tz z.natAbs=A at h1;unfold sI sg
  by_cases hn:z<0
  ·rw [decide_eq_true hn];simp;omega
  ·rw [decide_eq_false hn];simp;omega
theorem sgn_nv (m:Bool) (s:ByteArray) (e:Int):dsg (nv m s e)=sg (wv m s):=dsg_of _ _
theorem nv_at {m:Bool} {s:ByteArray} {d E:Int} (h:E≤d):nv m s d=.ofIntWithPrec (wv m s*((2 ^ (d-E).toNat:Nat):Int)) (-E):=by
 obtain ⟨k,hk⟩:∃ k:Nat,d=E+k:=⟨(d-E).toNat,by omega⟩;rw [show (d-E).toNat=k by omega];rw [← Dyadic.toRat_inj,nv_toRat,Dyadic.toRat_ofIntWithPrec_eq_mul_two_pow,Int.neg_neg,hk,Rat.intCast_mul,Rat.zpow_add (by decide),Rat.zpow_natCast];have h2:(((2 ^ k:Nat):Int):Rat)=2 ^ k:=by
  rw [Rat.intCast_natCast,Rat.natCast_pow];rfl
 rw [h2]
 grind
theorem of_sub (a b p:Int):Dyadic.ofIntWithPrec a p - .ofIntWithPrec b p=.ofIntWithPrec (a-b) p:=by
 rw [← Dyadic.toRat_inj,Dyadic.toRat_sub,Dyadic.toRat_ofIntWithPrec_eq_mul_two_pow,Dyadic.toRat_ofIntWithPrec_eq_mul_two_pow,Dyadic.toRat_ofIntWithPrec_eq_mul_two_pow,Rat.intCast_sub]
 grind
theorem of_add (a b p:Int):Dyadic.ofIntWithPrec a p+.ofIntWithPrec b p=.ofIntWithPrec (a+b) p:=by
 rw [← Dyadic.toRat_inj,Dyadic.toRat_add,Dyadic.toRat_ofIntWithPrec_eq_mul_two_pow,Dyadic.toRat_ofIntWithPrec_eq_mul_two_pow,Dyadic.toRat_ofIntWithPrec_eq_mul_two_pow,Rat.intCast_add]
 grind
theorem sg_scale (z:Int) (k:Nat):sg (z*((2 ^ k:Nat):Int))=sg z:=by
 have h:(0:Int)<((2 ^ k:Nat):Int):=Int.ofNat_lt.2 (Nat.two_pow_pos k)
 rcases sg_cases z with ⟨h1,h2⟩|⟨h1,h2⟩|⟨h1,h2⟩
 ·rw [h1,Int.zero_mul]
 ·have:=Int.mul_neg_of_neg_of_pos h1 h
  rcases sg_cases (z*((2 ^ k:Nat):Int)) with ⟨h3,h4⟩|⟨h3,h4⟩|⟨h3,h4⟩ <;> omega
 ·have:=Int.mul_pos h1 h
  rcases sg_cases (z*((2 ^ k:Nat):Int)) with ⟨h3,h4⟩|⟨h3,h4⟩|⟨h3,h4⟩ <;> omega
theorem wv_scale (m:Bool) (s:ByteArray) (k:Nat):wv m s*((2 ^ k:Nat):Int)=sI m (num s*2 ^ k):=by
 unfold wv sI
 cases m <;> simp [Int.natCast_mul,Int.neg_mul]
theorem cmp_signs {m n:Bool} {s t:ByteArray} {d e:Int} (h:sg (wv m s)≠sg (wv n t)):dsg (nv m s d-nv n t e)=if sg (wv m s)<sg (wv n t) then -1 else 1:=by
 rw [nv_at (show min d e≤d by omega),nv_at (show min d e≤e by omega),of_sub,dsg_of];rw [← sg_scale (wv m s) (d-min d e).toNat,← sg_scale (wv n t) (e-min d e).toNat] at h ⊢;exact sg_less h
theorem cmp_tops {m n:Bool} {s t:ByteArray} {d e:Int} (h:sg (wv m s)=sg (wv n t)) (hb:sg ((bl (num s)+d:Int)-(bl (num t)+e))≠0):dsg (nv m s d-nv n t e)=sg (wv m s)*sg ((bl (num s)+d:Int)-(bl (num t)+e)):=by
 rw [nv_at (show min d e≤d by omega),nv_at (show min d e≤e by omega),of_sub,dsg_of];generalize hj:(d-min d e).toNat=j;generalize hk:(e-min d e).toNat=k;have h' : sg (sI m (num s*2 ^ j))=sg (sI n (num t*2 ^ k)):=by rw [← wv_scale,← wv_scale,sg_scale,sg_scale];exact h
 have hm:sg (wv m s)=sg (sI m (num s*2 ^ j)):=by rw [← wv_scale,sg_scale]
 rw [wv_scale,wv_scale,sg_same _ _ _ _ h',hm]
 by_cases h0:sg (sI m (num s*2 ^ j))=0
 ·rw [h0,Int.zero_mul,Int.zero_mul]
 ·congr 1
  have hs:0<num s:=by
   rcases Nat.eq_zero_or_pos (num s) with h1|h1
   ·rw [h1,Nat.zero_mul] at h0;exact absurd (by unfold sI sg;cases m <;> rfl) h0
   ·exact h1
  have ht:0<num t:=by
   rcases Nat.eq_zero_or_pos (num t) with h1|h1
   ·rw [h1,Nat.zero_mul] at h';rw [h'] at h0;exact absurd (by unfold sI sg;cases n <;> rfl) h0
   ·exact h1
  have e1:=bl_shl hs j;have e2:=bl_shl ht k
  rcases sg_cases ((bl (num s)+d:Int)-(bl (num t)+e)) with ⟨h1,h2⟩|⟨h1,h2⟩|⟨h1,h2⟩
  ·exact absurd h2 hb
  ·have h3:=bl_gt (a:=num t*2 ^ k) (b:=num s*2 ^ j) (by omega);rw [h2]
   rcases cmpN_cases (num s*2 ^ j) (num t*2 ^ k) with ⟨h4,h5⟩|⟨h4,h5⟩|⟨h4,h5⟩ <;> omega
  ·have h3:=bl_gt (a:=num s*2 ^ j) (b:=num t*2 ^ k) (by omega);rw [h2]
   rcases cmpN_cases (num s*2 ^ j) (num t*2 ^ k) with ⟨h4,h5⟩|⟨h4,h5⟩|⟨h4,h5⟩ <;> omega
theorem cmp_scale {x y:Dyadic} {m n:Bool} {s t:ByteArray} {E:Int} (hx:nv m s E=x) (hy:nv n t E=y):dsg (x-y)=sg (wv m s-wv n t):=by
 rw [← hx,← hy];unfold nv;rw [of_sub,dsg_of]
theorem wf_nought {z:Bool} {o:ByteArray} (h:wf (wv z o)=wi z o) (h0:num o=0):z=false∧o=⟨#[]⟩:=by
 have h1:wv z o=0:=by have:=wv_abs z o;omega
 rw [h1] at h;have h2:wf 0=wi false ⟨#[]⟩:=by kernel_rfl
 rw [h2] at h;obtain ⟨h3,h4⟩:=wi_inj h.symm;exact ⟨h3,h4⟩
theorem low_le {m n:Bool} {s t:ByteArray} {d e E:Int} (h:lowF [(m,s,d),(n,t,e)] 2=E):(num s≠0→E≤d)∧(num t≠0→E≤e):=by
 have h' : (if wv n t=0 then (if wv m s=0 then maxI else min maxI d) else min (if wv m s=0 then maxI else min maxI d) e)=E:=h;have ha:=wv_abs m s;have hb:=wv_abs n t;unfold maxI at *
 by_cases h1:wv m s=0
 ·rw [if_pos h1] at h'
  by_cases h2:wv n t=0
  ·rw [if_pos h2] at h';omega
  ·rw [if_neg h2] at h';omega
 ·rw [if_neg h1] at h'
  by_cases h2:wv n t=0
  ·rw [if_pos h2] at h';omega
  ·rw [if_neg h2] at h';omega
theorem cnt_ex {m:Bool} {s:ByteArray} {d E:Int} {B K:Nat} (hs:s.size≤B) (hE:num s≠0→E≤d∧d-E≤8*K):∃ z o,cntV m s d E z o∧nv z o E=nv m s d∧o.size≤B+K:=by
 unfold cntV
 by_cases h1:d=E
 ·exact ⟨m,s,by rw [if_pos h1];exact ⟨rfl,rfl⟩,by rw [h1],by omega⟩
 ·by_cases h2:num s=0
  ·refine ⟨false,⟨#[]⟩,by rw [if_neg h1,if_pos h2];exact ⟨rfl,rfl⟩,?_,by show 0≤_;omega⟩;have h3:wv m s=0:=by have:=wv_abs m s;omega
   unfold nv;rw [h3,show wv false ⟨#[]⟩=0 by kernel_rfl];rfl
  ·obtain ⟨h3,h4⟩:=hE h2;obtain ⟨k,hk⟩:∃ k:Nat,d-E=k:=⟨(d-E).toNat,by omega⟩;have hsz:(shiftI (wv m s) (d-E)).natAbs<256 ^ (B+K):=by
    unfold shiftI;rw [if_pos (by omega),Int.natAbs_mul,wv_abs,Int.natAbs_natCast,Nat.pow_add,show (d-E).toNat=k by omega];have g1:num s<256 ^ B:=lt_size hs;have g2:2 ^ k≤256 ^ K:=by
     rw [show (256:Nat)=2 ^ 8 from rfl,← Nat.pow_mul];exact Nat.pow_le_pow_right (by omega) (by omega)
    exact Nat.mul_lt_mul_of_lt_of_le g1 g2 (Nat.pow_pos (by decide))
   obtain ⟨z,o,ez,vz,sz⟩:=nmw hsz;refine ⟨z,o,by rw [if_neg h1,if_neg h2];exact ez,?_,sz⟩;rw [nv_at (show E≤d from h3),nv_of _ ez];unfold shiftI;rw [if_pos (by omega)]
theorem nv_nought {m:Bool} {s:ByteArray} {e:Int} (h:num s=0):nv m s e=0:=by
 have h3:wv m s=0:=by have:=wv_abs m s;omega
 unfold nv;rw [h3];rfl
theorem made_nought (w:World) (e:Int):Calls Tryz.prog 71 #[wi false ⟨#[]⟩,.int .i64 e] w (Ret (nu false ⟨#[]⟩ 0) w):=by
 unfold wi nu;go_enter Tryz.func71,Tryz.ntmps71;go_wp2_with fail;obtain ⟨hA,hR,hb⟩:=iblkN w false false ⟨#[]⟩ ⟨#[]⟩ 0;generalize ((w.alloc (.cells #[.bool false,.string ⟨#[]⟩] 24)).alloc (.cells #[.bool false,.string ⟨#[]⟩,.int .i64 0] 26))=W0 at *;refine (use_zeros _ ⟨#[]⟩ 0 (by decide) (by kernel_rfl)).mono ?_;rintro e W ⟨rfl,hq⟩;replace hb:=below_next hb hq;replace hA:=hA.below hq;replace hR:=hR.below hq;clear hq;obtain ⟨hA0,hA1⟩:=hA.cells;go_wp2_with fail;refine (moved_zero _ false e 0 ⟨#[]⟩ (by kernel_rfl)).mono ?_;rintro e V ⟨rfl,hq⟩;replace hb:=below_next hb hq;replace hR:=hR.below hq;clear hq;obtain ⟨hR0,hR1,hR2,hR3,hR4,hR5⟩:=hR.facts;go_wp2;exact ret_num rfl rfl (hR.set3 _ _ _) ⟨rfl,below_set3 hb (by omega) _ _ _ _ _ _⟩
theorem num_nought (w:World) (E:Int):Calls Tryz.prog 118 #[.agg #[.int .i64 E],wi false ⟨#[]⟩] w (Ret (nu false ⟨#[]⟩ 0) w):=by
 unfold wi nu;go_enter Tryz.func118,Tryz.ntmps118;go_wp2_with fail;obtain ⟨hR,hb⟩:=sblkN w E false false ⟨#[]⟩ ⟨#[]⟩ 0;generalize (((w.alloc (.cells #[.int .i64 E] 96)).alloc (.cells #[.bool false,.string ⟨#[]⟩] 24)).alloc (.cells #[.bool false,.string ⟨#[]⟩,.int .i64 0] 26))=W0 at *;refine (made_nought _ E).mono ?_;rintro e W ⟨rfl,hq⟩;replace hb:=below_next hb hq;replace hR:=hR.below hq;clear hq;unfold nu;obtain ⟨hR0,hR1,hR2,hR3,hR4,hR5⟩:=hR.facts;go_wp2;exact ret_num rfl rfl (hR.set3 _ _ _) ⟨rfl,below_set3 hb (by omega) _ _ _ _ _ _⟩
theorem num_both (w:World) (z:Bool) (o:ByteArray) (E:Int) (hwf:wf (wv z o)=wi z o) (hs:o.size≤1000000) (he:num o=0∨(-100000000000000≤E∧E≤100000000000000)) (m' : Bool) (s' : ByteArray) (e' : Int) (hd:df (nv z o E)=nu m' s' e') :
  Calls Tryz.prog 118 #[.agg #[.int .i64 E],.agg #[.bool z,.string o]] w (Ret (.agg #[.bool m',.string s',.int .i64 e']) w):=by
 rcases he with h0|he
 ·rw [nv_nought h0] at hd;obtain ⟨rfl,rfl⟩:=wf_nought hwf h0;obtain ⟨rfl,rfl,rfl⟩:=nu_inj (show nu false ⟨#[]⟩ 0=nu m' s' e' from hd);exact num_nought w E
 ·exact num_any w z o E hwf hs he m' s' e' hd
theorem sg_three (z:Int):-1≤sg z∧sg z≤1:=by
 rcases sg_cases z with ⟨_,h⟩|⟨_,h⟩|⟨_,h⟩ <;> omega
theorem sg_sg {a b:Int} (ha:-1≤a∧a≤1) (hb:-1≤b∧b≤1):IntKind.i64.wrap (a*b)=a*b:=by
 rw [IntKind.wrap_i64];have h1:a=-1∨a=0∨a=1:=by omega
 have h2:b=-1∨b=0∨b=1:=by omega
 rcases h1 with rfl|rfl|rfl <;> rcases h2 with rfl|rfl|rfl <;> decide
theorem ycmp_any (w:World) (m n:Bool) (s t:ByteArray) (d e:Int) (hs:s.size≤50000) (ht:t.size≤50000) (hd0:-100000≤d∧d≤100000) (he:-100000≤e∧e≤100000) (c:Int) (hc:dsg (nv m s d-nv n t e)=c) :
  Calls Tryz.prog 57 #[nu m s d,nu n t e] w (Ret (.int .i64 c) w):=by
 obtain ⟨c1,h1⟩:∃ c1,sg (wv m s)=c1:=⟨_,rfl⟩;obtain ⟨c2,h2⟩:∃ c2,sg (wv n t)=c2:=⟨_,rfl⟩;have r1:=sg_three (wv m s);have r2:=sg_three (wv n t);rw [h1] at r1;rw [h2] at r2;have HG:=Lib.hid (And.intro h1 h2)
 by_cases hne:c1=c2
 ·subst hne;have hsg:(c1 == c1)=true:=by simp
  obtain ⟨B,hB⟩:∃ B,sg ((bl (num s)+d:Int)-(bl (num t)+e))=B:=⟨_,rfl⟩;have r3:=sg_three ((bl (num s)+d:Int)-(bl (num t)+e));rw [hB] at r3;have hmul:=sg_sg r1 r3
  by_cases hb0:B=0
  ·subst hb0;obtain ⟨E,hE⟩:∃ E,lowF [(m,s,d),(n,t,e)] 2=E:=⟨_,rfl⟩;obtain ⟨g1,g2⟩:=low_two (by omega) (by omega) hE;obtain ⟨g3,g4⟩:=low_le hE;have hlow:-100000≤E∨(num s=0∧num t=0):=by
    have h' : (if wv n t=0 then (if wv m s=0 then maxI else min maxI d) else min (if wv m s=0 then maxI else min maxI d) e)=E:=hE;unfold maxI at h'
    split at h' <;> split at h' <;> omega
   obtain ⟨z1,o1,k1,v1,s1⟩:=cnt_ex (m:=m) (s:=s) (d:=d) (E:=E) (B:=50000) (K:=50000) hs (fun h=>⟨g3 h,by omega⟩);obtain ⟨z2,o2,k2,v2,s2⟩:=cnt_ex (m:=n) (s:=t) (d:=e) (E:=E) (B:=50000) (K:=50000) ht (fun h=>⟨g4 h,by omega⟩);rw [cmp_scale v1 v2] at hc;have HZ:=Lib.hid (And.intro hB (And.intro hE (And.intro k1 (And.intro k2 hc))));clear h1 h2 hB hE k1 k2 hc v1 v2 g1 g2 g3 g4 hlow r2 r3 hmul;unfold nu;go_enter Tryz.func57,Tryz.ntmps57;go_wp2_with fail;obtain ⟨hA,hB,hb⟩:=nblk2 w m n s t d e;generalize ((w.alloc (.cells #[.bool m,.string s,.int .i64 d] 26)).alloc (.cells #[.bool n,.string t,.int .i64 e] 26))=W0 at *;refine (ysign_any _ m s d (by omega) c1 HG.out.1).mono ?_;rintro e1 W ⟨rfl,hq⟩;replace hb:=below_next hb hq;replace hA:=hA.below hq;replace hB:=hB.below hq;clear hq;obtain ⟨hB0,hB1,hB2⟩:=hB.cells;go_wp2_with fail;refine (ysign_any _ n t e (by omega) c1 HG.out.2).mono ?_;rintro e2 W' ⟨rfl,hq⟩;replace hb:=below_next hb hq;replace hA:=hA.below hq;replace hB:=hB.below hq;clear hq hB0 hB1 hB2;obtain ⟨hA0,hA1,hA2⟩:=hA.cells;obtain ⟨hB0,hB1,hB2⟩:=hB.cells;go_wp2_with fail;refine (cmpbits_any _ m n s t d e (by omega) (by omega) (by omega) (by omega) 0 HZ.out.1).mono ?_;rintro e3 V ⟨rfl,hq⟩;replace hb:=below_next hb hq;replace hA:=hA.below hq;replace hB:=hB.below hq;clear hq hA0 hA1 hA2 hB0 hB1 hB2;obtain ⟨hA0,hA1,hA2⟩:=hA.cells;obtain ⟨hB0,hB1,hB2⟩:=hB.cells;go_wp2_with fail
   refine (paired_num _ m n s t d e (by omega) (by omega) (by omega) (by omega) E HZ.out.2.1 z1 z2 o1 o2 HZ.out.2.2.1 HZ.out.2.2.2.1).mono ?_;rintro e5 V1 ⟨rfl,hq⟩;replace hb:=below_next hb hq;clear hq hA hB hA0 hA1 hA2 hB0 hB1 hB2;go_wp2_with fail;replace hb:=hb.alloc hb.size (.cells #[.int .i64 E,.bool z1,.string o1,.bool z2,.string o2] 98);refine (wcmp_any _ z1 z2 o1 o2 (by omega) (by omega) c HZ.out.2.2.2.2).mono ?_;rintro e6 V2 ⟨rfl,hq⟩;replace hb:=below_next hb hq;clear hq;go_wp2;go_ret;exact ⟨rfl,hb⟩
  ·have hb1:(B == 0)=false:=by rw [beq_eq_false_iff_ne];exact hb0
   rw [cmp_tops (by rw [h1,h2]) (by rw [hB];exact hb0),h1,hB] at hc;have HZ:=Lib.hid (And.intro hB hc);clear h1 h2 hB hc r2 r3;unfold nu;go_enter Tryz.func57,Tryz.ntmps57;go_wp2_with fail;obtain ⟨hA,hB,hb⟩:=nblk2 w m n s t d e;generalize ((w.alloc (.cells #[.bool m,.string s,.int .i64 d] 26)).alloc (.cells #[.bool n,.string t,.int .i64 e] 26))=W0 at *;refine (ysign_any _ m s d (by omega) c1 HG.out.1).mono ?_;rintro e1 W ⟨rfl,hq⟩;replace hb:=below_next hb hq;replace hA:=hA.below hq;replace hB:=hB.below hq;clear hq;obtain ⟨hB0,hB1,hB2⟩:=hB.cells;go_wp2_with fail;refine (ysign_any _ n t e (by omega) c1 HG.out.2).mono ?_;rintro e2 W' ⟨rfl,hq⟩;replace hb:=below_next hb hq;replace hA:=hA.below hq;replace hB:=hB.below hq;clear hq hB0 hB1 hB2;obtain ⟨hA0,hA1,hA2⟩:=hA.cells;obtain ⟨hB0,hB1,hB2⟩:=hB.cells;go_wp2_with fail;refine (cmpbits_any _ m n s t d e (by omega) (by omega) (by omega) (by omega) B HZ.out.1).mono ?_;rintro e3 V ⟨rfl,hq⟩;replace hb:=below_next hb hq;clear hq hA hB hA0 hA1 hA2 hB0 hB1 hB2;go_wp2;go_ret;exact ⟨by rw [HZ.out.2];rfl,hb⟩
 ·have hsg:(c1 == c2)=false:=by rw [beq_eq_false_iff_ne];exact hne
  rw [cmp_signs (by rw [h1,h2];exact hne),h1,h2] at hc;have HZ:=Lib.hid hc;clear h1 h2 hc;unfold nu;go_enter Tryz.func57,Tryz.ntmps57;go_wp2_with fail;obtain ⟨hA,hB,hb⟩:=nblk2 w m n s t d e;generalize ((w.alloc (.cells #[.bool m,.string s,.int .i64 d] 26)).alloc (.cells #[.bool n,.string t,.int .i64 e] 26))=W0 at *;refine (ysign_any _ m s d (by omega) c1 HG.out.1).mono ?_;rintro e1 W ⟨rfl,hq⟩;replace hb:=below_next hb hq;replace hB:=hB.below hq;clear hq;obtain ⟨hB0,hB1,hB2⟩:=hB.cells;go_wp2_with fail;refine (ysign_any _ n t e (by omega) c2 HG.out.2).mono ?_;rintro e2 W' ⟨rfl,hq⟩;replace hb:=below_next hb hq;clear hq hB0 hB1 hB2 hA hB;go_wp2_with fail;refine (Tryz.cmp_Compare_int c1 c2 _).mono ?_;rintro e3 V' ⟨rfl,rfl⟩;have hcc:Lib.compareInt c1 c2=c:=by
   have h1:=HZ.out;rw [← h1];unfold Lib.compareInt
   by_cases hl:c1<c2
   ·rw [if_pos hl,if_pos hl]
   ·rw [if_neg hl,if_neg hl,if_pos (by omega)]
  rw [hcc];go_wp2;go_ret;exact ⟨rfl,hb⟩
end Go.Proofs.YtemedphcafgolaaGreatDoor
