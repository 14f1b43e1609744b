/- The document's answer for spans: Hull, Meet; walked. -/
import Derived.Test.YteofihmlgiepfaaGreatDoorSR1
import Derived.Test.YteofihmlgiepfaaGreatDoorSFar
import Derived.Test.YteofihmlgiepfaaGreatDoorS6
namespace Go.Proofs.YteofihmlgiepfaaGreatDoor
set_option maxRecDepth 100000
set_option maxHeartbeats 3200000
open Go.RowKit Go.Shelf
theorem ncells_app:∀ (l m:List NV),ncells (l++m)=ncells l++ncells m
 | [],_=>rfl
 | x::l,m=>by rw [List.cons_append,ncells,ncells,ncells_app l m];rfl
theorem flat_app:∀ (l m:List SV),flat (l++m)=flat l++flat m
 | [],_=>rfl
 | x::l,m=>by rw [List.cons_append,flat,flat,flat_app l m];rfl
theorem flat_mem {l:List SV} {y:NV} (h:y∈flat l):∃ x∈l,y=x.1∨y=x.2:=by
 induction l with
 | nil=>cases h
 | cons x l ih =>
  rw [flat] at h;simp only [List.mem_cons] at h
  rcases h with h|h|h
  ·exact ⟨x,by simp,.inl h⟩
  ·exact ⟨x,by simp,.inr h⟩
  ·obtain ⟨z,hz,h⟩:=ih h;exact ⟨z,by simp [hz],h⟩
theorem own_nums {w:World} {B n:Nat} {v:Value} {l:List NV} (hn:l.length=n) (h:w.ownsRow B 25 3 v n (ncells l)):∃ od oc,v=.slice od n oc∧NAt w od l:=by
 rcases h.2 with ⟨rfl,rfl⟩|⟨g,cap,cur,rfl,_,hg,hc,_,_,_⟩
 ·obtain rfl:l=[]:=List.eq_nil_of_length_eq_zero hn;exact ⟨none,0,rfl,fun i hi=>by simp at hi⟩
 ·refine ⟨some ⟨g,0,none⟩,cap,rfl,fun i hi=>?_⟩;have hcell:=h.cells (g:=g) rfl;have hgt:=ncells_get l i hi;have ea:∀ j:Nat,(⟨g,0,none⟩:Addr).add j=⟨g,0+j,none⟩:=fun j=>by unfold Addr.add;split <;> simp_all
  have h1:=hcell _ _ hgt.1;have h2:=hcell _ _ hgt.2.1;have h3:=hcell _ _ hgt.2.2;rw [ea] at h1 h2 h3;exact ⟨g,0,rfl,World.block_lt_of_cell? w _ h1,h1,by rw [Nat.add_assoc];exact h2,by rw [Nat.add_assoc];exact h3⟩
theorem two_nums {w:World} {g:Nat} {x y:NV} (h:NAt w (some ⟨g,0,none⟩) [x,y]):∀ j u,(ncells [x,y])[j]?=some u→w.cell? ((⟨g,0,none⟩:Addr).add j)=some u:=by
 intro j u hj;have ea:∀ j:Nat,(⟨g,0,none⟩:Addr).add j=⟨g,0+j,none⟩:=fun j=>by unfold Addr.add;split <;> simp_all
 obtain ⟨lb,lo,e,_,h1,h2,h3⟩:=h 0 (by simp);obtain ⟨lb',lo',e',_,h4,h5,h6⟩:=h 1 (by simp);obtain ⟨rfl,rfl⟩:g=lb∧0=lo:=by simpa using e
 obtain ⟨rfl,rfl⟩:g=lb'∧0=lo':=by simpa using e'
 rw [ea]
 match j with
 | 0=>simp [ncells] at hj;subst hj;simpa using h1
 | 1=>simp [ncells] at hj;subst hj;simpa using h2
 | 2=>simp [ncells] at hj;subst hj;simpa using h3
 | 3=>simp [ncells] at hj;subst hj;simpa using h4
 | 4=>simp [ncells] at hj;subst hj;simpa using h5
 | 5=>simp [ncells] at hj;subst hj;simpa using h6
 | j+6=>simp [ncells] at hj
theorem one_cells (l:List NV):∀ u∈ncells l,u.oneCell'=true:=by
 induction l with
 | nil=>intro u h;cases h
 | cons x l ih =>
  intro u h;rw [ncells] at h;simp only [List.mem_cons] at h
  rcases h with rfl|rfl|rfl|h
  ·rfl
  ·rfl
  ·rfl
  ·exact ih u h
theorem infoN5:(Tryz.prog.info? 25).map (fun i=>(i.zero,i.size,i.bytes))=some (some (.agg #[.bool false,.string ⟨#[]⟩,.int .i64 0]),3,32):=by kernel_rfl
theorem lin_op {P:Program} {ops:Array Oper} {Q:Exit→Act→World→Prop} {o:Oper} {a:Act} {w:World} {K:Act→World→Prop} (h:Region.wanted o (yielded ops a.tmps)=true) (hk:Oper.wp P o a w K Q) :
  if Region.wanted o (yielded ops a.tmps)=true then Oper.wp P o a w K Q else K (a.put o.dst undef) w:=by
 rw [if_pos h];exact hk
def RSH (w wr:World) (l:List SV) (k:Nat) (v:Value):Prop:=
 wr.ownsRow (w.heap.size+1) 25 3 v (2*k) (ncells (flat (l.take k)))∧Sk wr w.heap.size 27 false ⟨#[]⟩ 0 false ⟨#[]⟩ 0∧Below w.heap.size w wr
theorem rshull_any (w:World) (ad:Option Addr) (l:List SV) (n c:Nat) (hn:l.length=n) (hmax:n≤100) (hl:SAt w ad l) (hs:∀ x∈l,(x.1.2.1.size≤500∧-5000≤x.1.2.2∧x.1.2.2≤5000)∧(x.2.2.1.size≤500∧-5000≤x.2.2.2∧x.2.2.2≤5000)) (z3:Bool) (o3:ByteArray) (e3:Int) (h3:df (farD (-1) (l.map lowS) n)=nu z3 o3 e3) (z4:Bool) (o4:ByteArray) (e4:Int) (h4:df (farD 1 (l.map highS) n)=nu z4 o4 e4) :
  Calls Tryz.prog 16 #[.slice ad n c] w (Ret (.agg #[.bool z3,.string o3,.int .i64 e3,.bool z4,.string o4,.int .i64 e4]) w):=by
 obtain ⟨i0,hi0,hz0,hz1,hz2⟩:=info_parts infoN5;have hfl:∀ y∈flat l,y.2.1.size≤500∧-5000≤y.2.2∧y.2.2≤5000:=by
  intro y hy;obtain ⟨x,hx,h|h⟩:=flat_mem hy
  ·rw [h];exact (hs x hx).1
  ·rw [h];exact (hs x hx).2
 have f3:df (farD (-1) (flat l) (2*n))=nu z3 o3 e3:=by rw [← h3,← hn,flat_low]
 have f4:df (farD 1 (flat l) (2*n))=nu z4 o4 e4:=by rw [← h4,← hn,flat_high]
 have HN:=Lib.hid (And.intro hn (And.intro hfl (And.intro f3 f4)));have HI:=Lib.hid (And.intro hi0 (And.intro hz0 (And.intro hz1 hz2)));clear hn hs h3 h4 hfl f3 f4 hi0 hz0 hz1 hz2;go_enter Tryz.func16,Tryz.ntmps16;go_wp2_with fail;have hR:=Sk.new w 27 false ⟨#[]⟩ 0 false ⟨#[]⟩ 0;have hb:=(Below.refl w.heap.size w).alloc (Nat.le_refl _) (.cells #[.bool false,.string ⟨#[]⟩,.int .i64 0,.bool false,.string ⟨#[]⟩,.int .i64 0] 27);generalize (w.alloc (.cells #[.bool false,.string ⟨#[]⟩,.int .i64 0,.bool false,.string ⟨#[]⟩,.int .i64 0] 27))=W0 at *;have hJ0:RSH w W0 l 0 (.slice none 0 0):=⟨⟨rfl,.inl ⟨rfl,rfl⟩⟩,hR,hb⟩;clear hR hb
 go_loopw [3,4] (fun v i wr=>∃ k:Nat,k≤n∧i=.int .i64 k∧RSH w wr l k v) (fun _ i _=>n-intY i)
 case atStart=>exact ⟨0,Nat.zero_le _,rfl,hJ0⟩
 case round =>
  clear hJ0;obtain ⟨k,hk,rfl,hO,hR,hb⟩:=hrel
  by_cases hlt:k<n
  ·have hkl:k<l.length:=by rw [HN.out.1];exact hlt
   obtain ⟨lb,lo,rfl,hlb,⟨c0,c1,c2⟩,c3,c4,c5⟩:=hl k hkl;obtain ⟨⟨⟨m1,s1,d1⟩,n1,t1,e1⟩,hx⟩:∃ x:SV,l[k]=x:=⟨_,rfl⟩;have htk:flat (l.take (k+1))=flat (l.take k)++[(m1,s1,d1),(n1,t1,e1)]:=by
    rw [List.take_succ_eq_append_getElem hkl,hx,flat_app];rfl
   rw [hx] at c0 c1 c2 c3 c4 c5;simp only at c0 c1 c2 c3 c4 c5;have HT:=Lib.hid htk;clear hx htk;have r0:=c0;replace c0:wr.cell? ⟨lb,lo+k*6,none⟩=some (.bool m1):=by rw [hb.cell hlb];exact c0
   have r1:=c1;replace c1:wr.cell? ⟨lb,lo+k*6+1,none⟩=some (.string s1):=by rw [hb.cell hlb];exact c1
   have r2:=c2;replace c2:wr.cell? ⟨lb,lo+k*6+2,none⟩=some (.int .i64 d1):=by rw [hb.cell hlb];exact c2
   have r3:=c3;replace c3:wr.cell? ⟨lb,lo+k*6+3,none⟩=some (.bool n1):=by rw [hb.cell hlb];exact c3
   have r4:=c4;replace c4:wr.cell? ⟨lb,lo+k*6+4,none⟩=some (.string t1):=by rw [hb.cell hlb];exact c4
   have r5:=c5;replace c5:wr.cell? ⟨lb,lo+k*6+5,none⟩=some (.int .i64 e1):=by rw [hb.cell hlb];exact c5
   go_wp2_with fail;clear c0 c1 c2 c3 c4 c5;refine region_segs (n:=14) #[false,false,false,false,false,false,false,false,false,false,false,false,false,false] (by kernel_rfl) (by kernel_rfl) (by kernel_rfl) ?_;intro fu hf;refine ls 14 [0,1,2,3,4,5,6,7,8,9,10,11,12] 12 (fun L ac Wn=>∃ l0 l1 l2 l3 l4 l5 l6 l7 l8 l9 l10 l11:Bool,L=#[l0,l1,l2,l3,l4,l5,l6,l7,l8,l9,l10,l11,false,false]∧∃ g22:Nat,ac={tmps:=#[.slice (some { block:=lb,off:=lo }) n c,undef,.pointer (some ⟨w.heap.size,0,none⟩),u3,.int .i64 ↑k,.int .i64 ↑k,.slice (some { block:=lb,off:=lo }) n c,.int .i64 ↑n,.bool true,u9,u10,sel l0 (u3) (u11),sel l1 (.slice (some { block:=lb,off:=lo }) n c) (u12),sel l2 (.int .i64 ↑k) (u13),sel l3 (.pointer (some { block:=lb,off:=lo+k*6 })) (u14),sel l4 (.pointer (some { block:=lb,off:=lo+k*6 })) (u15),sel l5 (.agg #[.bool m1,.string s1,.int .i64 d1]) (u16),sel l6 (.slice (some { block:=lb,off:=lo }) n c) (u17),sel l7 (.int .i64 ↑k) (u18),sel l8 (.pointer (some { block:=lb,off:=lo+k*6 })) (u19),sel l9 (.pointer (some { block:=lb,off:=lo+k*6+3 })) (u20),sel l10 (.agg #[.bool n1,.string t1,.int .i64 e1]) (u21),sel l11 (.slice (some ⟨g22,0,none⟩) 2 2) (u22),u23,undef,undef],defers:=[] }∧Below (w.heap.size) w Wn∧(World.ownsRow Wn (w.heap.size+1) 25 3 u3 (2*k) (ncells (flat (l.take k))))∧(Sk Wn (w.heap.size) 27 false ⟨#[]⟩ 0 false ⟨#[]⟩ 0)∧(On l11→NAt Wn (some ⟨g22,0,none⟩) [(m1,s1,d1),(n1,t1,e1)])) hf ?_ ?_ ?_ ?_
   ·exact ⟨false,false,false,false,false,false,false,false,false,false,false,false,by kernel_rfl,0,by kernel_rfl,hb.drew,hO,hR.drew,(fun h=>not_ft h)⟩
   ·rintro L ac Wn ⟨l0,l1,l2,l3,l4,l5,l6,l7,l8,l9,l10,l11,rfl,_⟩
    kernel_rfl
   ·refine (seg_all (b:=12) [0,1,2,3,4,5,6,7,8,9,10,11] ?_:∀ j∈[0,1,2,3,4,5,6,7,8,9,10,11,12],j≠12→_);refine lc [] [] ?_ ?_
    ·rintro L ac Wn ⟨l0,l1,l2,l3,l4,l5,l6,l7,l8,l9,l10,l11,rfl,hI⟩ rfl - - Kc hK;simp only [sel_f] at hI;obtain ⟨g22,rfl,hb,hO,hR,hW11⟩:=hI;refine ly (u3) ?_;exact hK.out _ _ ⟨true,l1,l2,l3,l4,l5,l6,l7,l8,l9,l10,l11,by kernel_rfl,g22,by kernel_rfl,hb,hO,hR,(fun z0=>(hW11 z0))⟩
    refine lc [] [3,4,5,11] ?_ ?_
    ·rintro L ac Wn ⟨l0,l1,l2,l3,l4,l5,l6,l7,l8,l9,l10,l11,rfl,hI⟩ rfl - ⟨rfl,rfl,rfl,rfl,-⟩ Kc hK;simp only [sel_f] at hI;obtain ⟨g22,rfl,hb,hO,hR,hW11⟩:=hI;refine ly (.slice (some { block:=lb,off:=lo }) n c) ?_;exact hK.out _ _ ⟨l0,true,l2,false,false,false,l6,l7,l8,l9,l10,false,by kernel_rfl,g22,by kernel_rfl,hb,hO,hR,(fun h=>not_ft h)⟩
    refine lc [] [3,4,5,11] ?_ ?_
    ·rintro L ac Wn ⟨l0,l1,l2,l3,l4,l5,l6,l7,l8,l9,l10,l11,rfl,hI⟩ rfl - ⟨rfl,rfl,rfl,rfl,-⟩ Kc hK;simp only [sel_f] at hI;obtain ⟨g22,rfl,hb,hO,hR,hW11⟩:=hI;refine ly (.int .i64 ↑k) ?_;exact hK.out _ _ ⟨l0,l1,true,false,false,false,l6,l7,l8,l9,l10,false,by kernel_rfl,g22,by kernel_rfl,hb,hO,hR,(fun h=>not_ft h)⟩
    refine lc [1,2] [4,5,11] ?_ ?_
    ·rintro L ac Wn ⟨l0,l1,l2,l3,l4,l5,l6,l7,l8,l9,l10,l11,rfl,hI⟩ rfl ⟨rfl,rfl,-⟩ ⟨rfl,rfl,rfl,-⟩ Kc hK;simp only [sel_t,sel_f] at hI;obtain ⟨g22,rfl,hb,hO,hR,hW11⟩:=hI;refine ly (.pointer (some { block:=lb,off:=lo+k*6 })) ?_;exact hK.out _ _ ⟨l0,true,true,true,false,false,l6,l7,l8,l9,l10,false,by kernel_rfl,g22,by kernel_rfl,hb,hO,hR,(fun h=>not_ft h)⟩
    refine lc [1,2,3] [5,11] ?_ ?_
    ·rintro L ac Wn ⟨l0,l1,l2,l3,l4,l5,l6,l7,l8,l9,l10,l11,rfl,hI⟩ rfl ⟨rfl,rfl,rfl,-⟩ ⟨rfl,rfl,-⟩ Kc hK;simp only [sel_t,sel_f] at hI;obtain ⟨g22,rfl,hb,hO,hR,hW11⟩:=hI;refine ly (.pointer (some { block:=lb,off:=lo+k*6 })) ?_;exact hK.out _ _ ⟨l0,true,true,true,true,false,l6,l7,l8,l9,l10,false,by kernel_rfl,g22,by kernel_rfl,hb,hO,hR,(fun h=>not_ft h)⟩
    refine lc [1,2,3,4] [11] ?_ ?_
    ·rintro L ac Wn ⟨l0,l1,l2,l3,l4,l5,l6,l7,l8,l9,l10,l11,rfl,hI⟩ rfl ⟨rfl,rfl,rfl,rfl,-⟩ ⟨rfl,-⟩ Kc hK;simp only [sel_t,sel_f] at hI;obtain ⟨g22,rfl,hb,hO,hR,hW11⟩:=hI;have w0:Wn.cell? ⟨lb,lo+k*6,none⟩=some (.bool m1):=by rw [hb.cell hlb];exact r0
     have w1:Wn.cell? ⟨lb,lo+k*6+1,none⟩=some (.string s1):=by rw [hb.cell hlb];exact r1
     have w2:Wn.cell? ⟨lb,lo+k*6+2,none⟩=some (.int .i64 d1):=by rw [hb.cell hlb];exact r2
     refine ly (.agg #[.bool m1,.string s1,.int .i64 d1]) ?_;exact hK.out _ _ ⟨l0,true,true,true,true,true,l6,l7,l8,l9,l10,false,by kernel_rfl,g22,by kernel_rfl,hb,hO,hR,(fun h=>not_ft h)⟩
    refine lc [] [8,9,10,11] ?_ ?_
    ·rintro L ac Wn ⟨l0,l1,l2,l3,l4,l5,l6,l7,l8,l9,l10,l11,rfl,hI⟩ rfl - ⟨rfl,rfl,rfl,rfl,-⟩ Kc hK;simp only [sel_f] at hI;obtain ⟨g22,rfl,hb,hO,hR,hW11⟩:=hI;refine ly (.slice (some { block:=lb,off:=lo }) n c) ?_;exact hK.out _ _ ⟨l0,l1,l2,l3,l4,l5,true,l7,false,false,false,false,by kernel_rfl,g22,by kernel_rfl,hb,hO,hR,(fun h=>not_ft h)⟩
    refine lc [] [8,9,10,11] ?_ ?_
    ·rintro L ac Wn ⟨l0,l1,l2,l3,l4,l5,l6,l7,l8,l9,l10,l11,rfl,hI⟩ rfl - ⟨rfl,rfl,rfl,rfl,-⟩ Kc hK;simp only [sel_f] at hI;obtain ⟨g22,rfl,hb,hO,hR,hW11⟩:=hI;refine ly (.int .i64 ↑k) ?_;exact hK.out _ _ ⟨l0,l1,l2,l3,l4,l5,l6,true,false,false,false,false,by kernel_rfl,g22,by kernel_rfl,hb,hO,hR,(fun h=>not_ft h)⟩
    refine lc [6,7] [9,10,11] ?_ ?_
    ·rintro L ac Wn ⟨l0,l1,l2,l3,l4,l5,l6,l7,l8,l9,l10,l11,rfl,hI⟩ rfl ⟨rfl,rfl,-⟩ ⟨rfl,rfl,rfl,-⟩ Kc hK;simp only [sel_t,sel_f] at hI;obtain ⟨g22,rfl,hb,hO,hR,hW11⟩:=hI;refine ly (.pointer (some { block:=lb,off:=lo+k*6 })) ?_;exact hK.out _ _ ⟨l0,l1,l2,l3,l4,l5,true,true,true,false,false,false,by kernel_rfl,g22,by kernel_rfl,hb,hO,hR,(fun h=>not_ft h)⟩
    refine lc [6,7,8] [10,11] ?_ ?_
    ·rintro L ac Wn ⟨l0,l1,l2,l3,l4,l5,l6,l7,l8,l9,l10,l11,rfl,hI⟩ rfl ⟨rfl,rfl,rfl,-⟩ ⟨rfl,rfl,-⟩ Kc hK;simp only [sel_t,sel_f] at hI;obtain ⟨g22,rfl,hb,hO,hR,hW11⟩:=hI;refine ly (.pointer (some { block:=lb,off:=lo+k*6+3 })) ?_;exact hK.out _ _ ⟨l0,l1,l2,l3,l4,l5,true,true,true,true,false,false,by kernel_rfl,g22,by kernel_rfl,hb,hO,hR,(fun h=>not_ft h)⟩
    refine lc [6,7,8,9] [11] ?_ ?_
    ·rintro L ac Wn ⟨l0,l1,l2,l3,l4,l5,l6,l7,l8,l9,l10,l11,rfl,hI⟩ rfl ⟨rfl,rfl,rfl,rfl,-⟩ ⟨rfl,-⟩ Kc hK;simp only [sel_t,sel_f] at hI;obtain ⟨g22,rfl,hb,hO,hR,hW11⟩:=hI;have w3:Wn.cell? ⟨lb,lo+k*6+3,none⟩=some (.bool n1):=by rw [hb.cell hlb];exact r3
     have w4:Wn.cell? ⟨lb,lo+k*6+4,none⟩=some (.string t1):=by rw [hb.cell hlb];exact r4
     have w5:Wn.cell? ⟨lb,lo+k*6+5,none⟩=some (.int .i64 e1):=by rw [hb.cell hlb];exact r5
     refine ly (.agg #[.bool n1,.string t1,.int .i64 e1]) ?_;exact hK.out _ _ ⟨l0,l1,l2,l3,l4,l5,true,true,true,true,true,false,by kernel_rfl,g22,by kernel_rfl,hb,hO,hR,(fun h=>not_ft h)⟩
    refine ln [1,2,3,4,5,6,7,8,9,10] [] ?_;rintro L ac Wn ⟨l0,l1,l2,l3,l4,l5,l6,l7,l8,l9,l10,l11,rfl,hI⟩ rfl ⟨rfl,rfl,rfl,rfl,rfl,rfl,rfl,rfl,rfl,rfl,-⟩ - Kc hK;simp only [sel_t,sel_f] at hI;obtain ⟨g22,rfl,hb,hO,hR,hW11⟩:=hI;go_simp;exact hK.out _ _ ⟨l0,true,true,true,true,true,true,true,true,true,true,true,by kernel_rfl,_,by kernel_rfl,(hb.alloc hb.size _),(hO.alloc _),(hR.alloc _),(fun _=>NAt.new _ _ _ _ rfl)⟩
   refine bo [0,1,2,3,4,5,6,7,8,9,10,11] ?_;rintro L ac Wn ⟨l0,l1,l2,l3,l4,l5,l6,l7,l8,l9,l10,l11,rfl,hI⟩ ⟨rfl,rfl,rfl,rfl,rfl,rfl,rfl,rfl,rfl,rfl,rfl,rfl,-⟩ Kc hK;simp only [sel_t] at hI;obtain ⟨g22,rfl,hb,hO,hR,hW11⟩:=hI;replace hW11:=hW11 rfl;refine lin_op rfl ?_;have hnew:=two_nums hW11;refine wp_append_own _ (.tmp 11) (.tmp 22) 51 rfl (w.heap.size+1) 25 i0 (.agg #[.bool false,.string ⟨#[]⟩,.int .i64 0]) 3 32 Tryz.underlying51 HI.out.1 HI.out.2.1 HI.out.2.2.1 HI.out.2.2.2 rfl (by decide) u3 (2*k) (ncells (flat (l.take k))) rfl hO ⟨g22,0,none⟩ 2 2 (ncells [(m1,s1,d1),(n1,t1,e1)]) rfl rfl hnew (one_cells _) (by unfold maxLen;omega) (by omega) (by have:=hb.size;have:=hR.lt;omega) ?_;intro v' V hown' hgrow _;clear hnew hW11;have hRn:Sk V w.heap.size 27 false ⟨#[]⟩ 0 false ⟨#[]⟩ 0:=Rw.grown hR hgrow (fun e=>by have:=(hO.lt w.heap.size e.symm).1;omega);have hbn:Below w.heap.size w V:=hb.grown hgrow hb.size (fun j hj=>by have:=(hO.lt j hj).1;omega);replace hO:=hown';replace hR:=hRn;replace hb:=hbn;refine hK.out _ _ (fun fu hf=>?_);clear hK Kc
   refine ls 14 [13] 13 (fun L ac Wn=>L=#[true,true,true,true,true,true,true,true,true,true,true,true,true,false]∧ac={tmps:=#[.slice (some { block:=lb,off:=lo }) n c,undef,.pointer (some ⟨w.heap.size,0,none⟩),u3,.int .i64 ↑k,.int .i64 ↑k,.slice (some { block:=lb,off:=lo }) n c,.int .i64 ↑n,.bool true,u9,u10,u3,.slice (some { block:=lb,off:=lo }) n c,.int .i64 ↑k,.pointer (some { block:=lb,off:=lo+k*6 }),.pointer (some { block:=lb,off:=lo+k*6 }),.agg #[.bool m1,.string s1,.int .i64 d1],.slice (some { block:=lb,off:=lo }) n c,.int .i64 ↑k,.pointer (some { block:=lb,off:=lo+k*6 }),.pointer (some { block:=lb,off:=lo+k*6+3 }),.agg #[.bool n1,.string t1,.int .i64 e1],.slice (some ⟨g22,0,none⟩) 2 2,v',undef,undef],defers:=[] }∧Below (w.heap.size) w Wn∧(World.ownsRow Wn (w.heap.size+1) 25 3 v' (2*k+2) (ncells (flat (l.take k))++ncells [(m1,s1,d1),(n1,t1,e1)]))∧(Sk Wn (w.heap.size) 27 false ⟨#[]⟩ 0 false ⟨#[]⟩ 0)) hf ?_ ?_ ?_ ?_
   ·exact ⟨by kernel_rfl,by kernel_rfl,hb,hO,hR⟩
   ·rintro L ac Wn ⟨rfl,_⟩
    kernel_rfl
   ·exact (seg_all (b:=13) [] lin_nil:∀ j∈[13],j≠13→_)
   refine bo [] ?_;rintro L ac Wn ⟨rfl,hI⟩ - Kc hK;obtain ⟨rfl,hb,hO,hR⟩:=hI;refine ly (v') ?_;refine hK.out _ _ (fun fu hf=>wpAnyH_done (by kernel_rfl) ?_ _);clear hK Kc hf;have hJ:RSH w Wn l (k+1) v':=by
    refine ⟨?_,hR,hb⟩;rw [HT.out,ncells_app,show 2*(k+1)=2*k+2 by omega];exact hO
   have HJ:=Lib.hid hJ;clear hJ hO hR hb;go_wp2;go_roundw
   case rel=>exact ⟨k+1,by omega,by simp,HJ.out⟩
   case measure=>simp [intY];omega
  ·have hkn:k=n:=by omega
   subst hkn;rw [List.take_of_length_le (by rw [HN.out.1];omega)] at hO;obtain ⟨od,oc,rfl,hrow⟩:=own_nums (by rw [flat_len,HN.out.1]) hO;clear hO;go_wp2_with fail;refine (rsof_wide _ od (flat l) (2*k) oc (by rw [flat_len,HN.out.1]) (by omega) hrow HN.out.2.1 z3 o3 e3 HN.out.2.2.1 z4 o4 e4 HN.out.2.2.2).mono ?_;rintro e' V ⟨rfl,hq⟩;replace hb:=below_next hb hq;replace hR:=hR.below hq;clear hq;obtain ⟨hR0,hR1,hR2,hR3,hR4,hR5,hR6,hR7,hR8,hR9,hR10,hR11⟩:=hR.facts;go_wp2;exact ret_span rfl rfl (hR.set6 _ _ _ _ _ _) ⟨rfl,below_set6 hb (by omega) _ _ _ _ _ _⟩
theorem form_b {m:Bool} {s:ByteArray} {d:Int} (h:s.size≤200∧-1000≤d∧d≤1000) {z:Bool} {o:ByteArray} {e:Int} (k:df (nv m s d)=nu z o e):o.size≤200∧-1000≤e∧e≤2600:=by
 have:=df_exp k h.1
 omega
end Go.Proofs.YteofihmlgiepfaaGreatDoor
