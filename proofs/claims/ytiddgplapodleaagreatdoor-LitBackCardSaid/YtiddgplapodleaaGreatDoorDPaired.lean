/- Package digits: neighbours joined, walked. -/
import Derived.Test.YtiddgplapodleaaGreatDoorAb
import Derived.Test.YtiddgplapodleaaGreatDoorG7
namespace Go.Proofs.YtiddgplapodleaaGreatDoor
set_option maxRecDepth 100000
set_option maxHeartbeats 4000000
open Go.RowKit Go.Shelf
attribute [local go_sem] Oper.semAt_some
def pv (s:Nat) (l:List Nat) (x:Nat):Nat:=(pairN s l).getD (min x ((l.length+1) / 2-1)) 0
theorem pv_two (s:Nat) (l:List Nat) (x k:Nat) (hk:min x ((l.length+1) / 2-1)=k) (h:2*k+1<l.length):pv s l x=l[2*k]+s*l[2*k+1]:=by
 unfold pv;rw [hk,← List.getElem_eq_getD (h:=by rw [pairN_len];omega)];exact pairN_two s l k h _
theorem pv_one (s:Nat) (l:List Nat) (x k:Nat) (hk:min x ((l.length+1) / 2-1)=k) (h:2*k+1=l.length):pv s l x=l[2*k]'(by omega):=by
 unfold pv;rw [hk,← List.getElem_eq_getD (h:=by rw [pairN_len];omega)];exact pairN_one s l k h _
theorem pv_all (s:Nat) (l:List Nat):((List.range ((l.length+1) / 2)).map fun x=>np (pv s l x))=(pairN s l).map np:=by
 apply List.ext_getElem
 ·simp [pairN_len]
 ·intro i h1 h2;simp only [List.length_map,List.length_range] at h1;simp only [List.getElem_map,List.getElem_range];unfold pv;rw [show min i ((l.length+1) / 2-1)=i by omega,← List.getElem_eq_getD (h:=by rw [pairN_len];omega)]
def PI (w:World) (s Hb:Nat) (l:List Nat) (pre:List Nat) (W:World):Prop:=
 (∃ v,W.ownsRow (w.heap.size+1) 26 2 v pre.length (icells (pre.map fun x=>np (pv s l x)))∧Rw W Hb 67 [v]∧Bk W w.heap.size #[.bool false,.string (fb s)])∧Below w.heap.size w W
theorem ownsRow_obj {W W' : World} {B n:Nat} {e:TypeId} {size:Nat} {v:Value} {xs:List Value} {row:Option Nat} (h:W.ownsRow B e size v n xs) (hg:W.grownBy W' row) (hr:∀ r,row=some r→∃ o:Obj,W.heap[r]?=some o∧o.isCells=false):W'.ownsRow B e size v n xs:=by
 refine h.kept hg ?_
 rcases h.2 with ⟨rfl,_⟩|⟨g,cap,cur,rfl,_,hgg,_⟩
 ·exact .inl rfl
 ·refine .inr (fun e=>?_);obtain ⟨o,ho,hc⟩:=hr g e.symm;rw [hgg] at ho
  injection ho with ho
  subst ho;simp [Obj.isCells] at hc
theorem bk_obj {W W' : World} {k:Nat} {cs:Array Value} {row:Option Nat} (h:Bk W k cs) (hg:W.grownBy W' row) (hr:∀ r,row=some r→∃ o:Obj,W.heap[r]?=some o∧o.isCells=false):Bk W' k cs:=by
 have h' : Rw W k 26 cs.toList:=h;exact rw_own h' hg hr
theorem PI.own (w:World) (s Hb:Nat) (l:List Nat) (B:Nat) (hB:w.heap.size≤B):OwnFrom B (PI w s Hb l):=
 OwnFrom.and (Own.from (fun _ _ _ _ hs hg hr=>by obtain ⟨v,a,b,c⟩:=hs;exact ⟨v,ownsRow_obj a hg hr,rw_own b hg hr,bk_obj c hg hr⟩) _) (ownFrom_below (Nat.le_refl _) hB)
theorem make_ints (W:World) (B n:Nat) (c:Int) (hc:c=(n:Int)) (hmax:n≤100000) (hB:B≤W.heap.size) :
  ∃ w',(Instr.makeSlice 67 (.int .i64 0) (.int .i64 c)).run Tryz.prog W=.ok (.slice (some ⟨W.heap.size,0,none⟩) 0 n) w'∧w'.ownsRow B 26 2 (.slice (some ⟨W.heap.size,0,none⟩) 0 n) 0 []∧W.grownBy w' none:=by
 subst hc;obtain ⟨i,hi,hz,hs,hb⟩:=info_parts infoI4;exact run_make_own (P:=Tryz.prog) W B 67 26 i _ 2 Tryz.underlying67 hi hz hs .i64 .i64 n (by rw [hb];omega) (by unfold maxLen;omega) hB
theorem np_cells {W:World} {g:Nat} {l:List Nat} (h:IAt W (some ⟨g,0,none⟩) (l.map np)) (i:Nat) (hi:i<l.length):g<W.heap.size∧W.cell? ⟨g,i*2,none⟩=some (.bool false)∧W.cell? ⟨g,i*2+1,none⟩=some (.string (fb l[i])):=by
 obtain ⟨lb,lo,e,hl,h1,h2⟩:=h i (by simpa using hi);simp only [Option.some.injEq,Addr.mk.injEq,and_true] at e;obtain ⟨rfl,rfl⟩:=e;simp only [Nat.zero_add,List.getElem_map,np] at h1 h2;exact ⟨hl,h1,h2⟩
def P6 (w:World) (so:ByteArray) (g o:Nat) (y:ByteArray) (W:World):Prop:=
 Below w.heap.size w W∧(W.cell? ⟨w.heap.size,0,none⟩=some (.bool false)∧W.cell? ⟨w.heap.size,1,none⟩=some (.string so))∧(W.cell? ⟨g,o,none⟩=some (.bool false)∧W.cell? ⟨g,o+1,none⟩=some (.string y))
theorem P6.below {w W W' : World} {so y:ByteArray} {g o:Nat} (h:P6 w so g o y W) (hq:Below W.heap.size W W'):P6 w so g o y W':=by
 obtain ⟨h1,⟨h2,h3⟩,h4,h5⟩:=h;refine ⟨below_next h1 hq,⟨?_,?_⟩,?_,?_⟩
 ·rw [hq.cell (World.block_lt_of_cell? W _ h2)];exact h2
 ·rw [hq.cell (World.block_lt_of_cell? W _ h3)];exact h3
 ·rw [hq.cell (World.block_lt_of_cell? W _ h4)];exact h4
 ·rw [hq.cell (World.block_lt_of_cell? W _ h5)];exact h5
theorem P6.alloc {w W:World} {so y:ByteArray} {g o:Nat} (h:P6 w so g o y W) (ob:Obj):P6 w so g o y (W.alloc ob):=h.below ((Below.refl _ _).alloc (Nat.le_refl _) _)
theorem P6.put {w W:World} {so y:ByteArray} {g o r:Nat} (h:P6 w so g o y W) (hr:w.heap.size<r) (hg:g<w.heap.size) (u v:Value):P6 w so g o y ((W.setCell ⟨r,0,none⟩ u).setCell ⟨r,1,none⟩ v):=by
 obtain ⟨h1,⟨h2,h3⟩,h4,h5⟩:=h;refine ⟨below_set2 h1 (Nat.le_of_lt hr) _ _ _ _,⟨?_,?_⟩,?_,?_⟩
 all_goals
  rw [World.cell?_setCell_far _ _ _ _ (by show r≠_;simp;omega),World.cell?_setCell_far _ _ _ _ (by show r≠_;simp;omega)]
  assumption
theorem ownBlock_ne {W:World} {B n j:Nat} {v:Value} {xs L:List Value} {T:TypeId} (h:W.ownsRow B 26 2 v n xs) (hj:Rw W j T L) (hT:T≠26):some j≠v.ownBlock:=by
 intro e
 rcases h.2 with ⟨rfl,_⟩|⟨g,cap,cur,rfl,_,hg,_⟩
 ·cases e
 ·have e2:j=g:=by simpa [Value.ownBlock] using e
  subst e2;unfold Rw at hj;rw [hj] at hg
  injection hg with hg
  injection hg with _ h2
  exact hT h2
theorem ownBlock_in {W:World} {B n j:Nat} {v:Value} {xs:List Value} (h:W.ownsRow B 26 2 v n xs) (hj:v.ownBlock=some j):B≤j∧∃ cur,W.heap[j]?=some (.cells cur 26 (0,0)):=by
 rcases h.2 with ⟨rfl,_⟩|⟨g,cap,cur,rfl,hB,hg,_⟩
 ·cases hj
 ·have e2:g=j:=by simpa [Value.ownBlock] using hj
  subst e2;exact ⟨hB,cur,hg⟩
theorem ownsRow_off {W:World} {B n j i:Nat} {v u:Value} {xs L:List Value} {T:TypeId} (h:W.ownsRow B 26 2 v n xs) (hj:Rw W j T L) (hT:T≠26):(W.setCell ⟨j,i,none⟩ u).ownsRow B 26 2 v n xs:=by
 have hne:=ownBlock_ne h hj hT;refine ⟨h.1,?_⟩
 rcases h.2 with h2|⟨g,cap,cur,rfl,hB,hg,hrest⟩
 ·exact .inl h2
 ·refine .inr ⟨g,cap,cur,rfl,hB,?_,hrest⟩;rw [Below.heap_setCell _ _ _ _ (show g≠j by rintro rfl;exact hne rfl)];exact hg
theorem keeps_below {W W' : World} (h:Below W.heap.size W W'):KeepsOthers W W':=⟨h.size,fun k _ hk _=>(h.block k (Array.getElem?_eq_some_iff.1 hk).1).trans hk⟩
theorem own_slice {W:World} {B n:Nat} {v:Value} {xs:List Value} (h:W.ownsRow B 26 2 v n xs) (h0:0<n):∃ g c,v=.slice (some ⟨g,0,none⟩) n c:=by
 rcases h.2 with ⟨_,e⟩|⟨g,cap,cur,e,_⟩
 ·omega
 ·exact ⟨g,cap,e⟩
theorem own_rowB {w:World} {B n:Nat} {v:Value} {l:List IV} (hn:l.length=n) (h0:0<n) (h:w.ownsRow B 26 2 v n (icells l)):∃ g c,v=.slice (some ⟨g,0,none⟩) n c∧n≤c∧B≤g∧IAt w (some ⟨g,0,none⟩) l:=by
 obtain ⟨od,oc,rfl,h1,h2⟩:=own_row hn h
 rcases h.2 with ⟨_,e⟩|⟨g,cap,cur,e,hB,_⟩
 ·omega
 ·injection e with e1 _ _
  subst e1;exact ⟨g,oc,rfl,h1,hB,h2⟩
theorem paired_round {w W Wn w1:World} {s Hb Bs Bn:Nat} {l pre:List Nat} {x:Nat} {v v' sv:Value} {so sm:ByteArray} {ob:Obj} (hal:(Wn.alloc ob).ownsRow (w.heap.size+1) 26 2 v pre.length (icells (pre.map fun x=>np (pv s l x))))
  (_:W.ownsRow (w.heap.size+1) 26 2 v pre.length (icells (pre.map fun x=>np (pv s l x)))) (hhf:Rw W Hb 67 [v]) (hsc:Bk W w.heap.size #[.bool false,.string so]) (hbw:Below w.heap.size w W) (hbl:Below W.heap.size W Wn)
  (hown:w1.ownsRow (w.heap.size+1) 26 2 v' (pre.length+1) (icells (pre.map fun x=>np (pv s l x))++[.bool false,.string sm])) (hg:(Wn.alloc ob).grownBy w1 v.ownBlock) (h1:w.heap.size+1≤Hb) (h2:Hb<Bs∧Hb<Bn) (hso:fb s=so) (hsm:fb (pv s l x)=sm) :
  KeepsOthers W (w1.setCell ⟨Hb,0,none⟩ v')∧KC w.heap.size Bs Bn sv W (w1.setCell ⟨Hb,0,none⟩ v')∧PI w s Hb l (pre++[x]) (w1.setCell ⟨Hb,0,none⟩ v'):=by
 have hszW:=hbw.size;have hszn:=hbl.size;have hrw:∀ k T L,Rw W k T L→T≠26→Rw w1 k T L:=fun k T L hk hT=>by
  have h3:=(hk.below hbl hk.lt).alloc ob;exact h3.grown hg (ownBlock_ne hal h3 hT)
 have hh1:=hrw _ _ _ hhf (by decide);have hb1:Below w.heap.size W w1:=((hbl.mono hszW).alloc (by omega) ob).grown hg (by rw [World.size_alloc];omega) (fun j hj=>by have:=(ownBlock_in hal hj).1;omega);have hk1:KeepsOthers W w1:=((keeps_below hbl).trans (KeepsOthers.alloc _ _)).trans (KeepsOthers.of_grownBy hg (fun j o e he=>by
  obtain ⟨_,cur,hc⟩:=ownBlock_in hal e;rw [hc] at he
  injection he with he
  subst he;rfl))
 have hs1:Bk w1 w.heap.size #[.bool false,.string so]:=(hg.block _ (by rw [World.size_alloc];have:=(hsc.below hbl).lt;omega) (fun e=>by have:=(ownBlock_in hal e.symm).1;omega)).trans ((hsc.below hbl).alloc ob);refine ⟨hk1.trans (KeepsOthers.setCell _ _ _),⟨hb1.setCell (p:=⟨Hb,0,none⟩) (by show w.heap.size≤Hb;omega) _,fun hx=>(hrw _ _ _ hx (by decide)).fr Hb 0 _,fun hx=>(hrw _ _ _ hx (by decide)).fr Hb 0 _⟩,⟨v',?_,hh1.set_ 0 v',?_⟩,(hbw.trans hb1).setCell (p:=⟨Hb,0,none⟩) (by show w.heap.size≤Hb;omega) _⟩
 ·rw [List.length_append,List.map_append,icells_app];have e:icells (List.map (fun x=>np (pv s l x)) [x])=[.bool false,.string sm]:=by rw [← hsm];rfl
  rw [e];exact ownsRow_off hown hh1 (by decide)
 ·rw [hso];exact hs1.fr Hb 0 _
theorem paired_any (w:World) (l:List Nat) (g cap len s:Nat) (hl:l.length=len) (h1:1≤len) (hc:len≤cap) (hmax:len≤1000) (hs:∀ x∈l,(fb x).size≤1000) (so:ByteArray) (hso:fb s=so) (hss:so.size≤10000) (hI:IAt w (some ⟨g,0,none⟩) (l.map np)) :
  Calls Tryz.prog 83 #[.slice (some ⟨g,0,none⟩) len cap,.agg #[.bool false,.string so]] w fun e w'=>∃ g' cap',e=.returned (.slice (some ⟨g',0,none⟩) ((len+1) / 2) cap')∧(len+1) / 2≤cap'∧w.heap.size≤g'∧IAt w' (some ⟨g',0,none⟩) ((pairN s l).map np)∧Below w.heap.size w w':=by
 refine (callsIn_wide (n:=4)).1 ?_;refine callsIn_of_wp_marks Tryz.func83 rfl trivial ?_ rfl;simp only [Tryz.ntmps83,List.size_toArray,List.length_cons,List.length_nil,Nat.reduceAdd,Nat.reduceSub,Array.replicate_succ,Array.replicate_zero,List.push_toArray,List.append_toArray,List.nil_append,List.cons_append];obtain ⟨H,hH⟩:∃ H:Nat,(len+1) / 2=H:=⟨_,rfl⟩;have hHi:((len:Int)+1) / 2=(H:Int):=by omega
 have HH:=Lib.hid hH;have hH10:H≤1000:=by omega
 clear hH;obtain ⟨i0,hi0,hz0,hz1,hz2⟩:=info_parts infoI4;obtain ⟨hgw,_,_⟩:=np_cells hI 0 (by omega);obtain ⟨W1,hmk,hrow,hgr⟩:=make_ints (w.alloc (.cells #[.bool false,.string so] 26)) (w.heap.size+1) H (H:Int) rfl (by omega) (by simp);have hs1:w.heap.size+1≤W1.heap.size:=by have:=hgr.size;simpa using this
 have hbw1:Below w.heap.size w W1:=((Below.refl _ w).alloc (Nat.le_refl _) _).grown hgr (by simp) (fun k e=>by cases e);have hsc:Bk W1 w.heap.size #[.bool false,.string so]:=(hgr.block _ (by simp) (by simp)).trans (Bk.new w _)
 gi_wp2_with fail
 refine ⟨trivial,?_⟩;obtain ⟨Hb,hHb⟩:∃ Hb,W1.heap.size=Hb:=⟨_,rfl⟩;have hhf:Rw (W1.alloc (.cells #[.slice (some ⟨w.heap.size+1,0,none⟩) 0 H] 67)) Hb 67 [.slice (some ⟨w.heap.size+1,0,none⟩) 0 H]:=by rw [← hHb];exact Rw.new W1 _ _
 have hrow0:(W1.alloc (.cells #[.slice (some ⟨w.heap.size+1,0,none⟩) 0 H] 67)).ownsRow (w.heap.size+1) 26 2 (.slice (some ⟨w.heap.size+1,0,none⟩) 0 H) 0 []:=by
  rw [World.size_alloc] at hrow;exact hrow.alloc _
 have hsc2:=hsc.alloc (.cells #[.slice (some ⟨w.heap.size+1,0,none⟩) 0 H] 67);have hbw2:Below w.heap.size w (W1.alloc (.cells #[.slice (some ⟨w.heap.size+1,0,none⟩) 0 H] 67)):=hbw1.alloc (by omega) _;have hHb1:w.heap.size+1≤Hb:=by omega
 have hHb2:Hb<(W1.alloc (.cells #[.slice (some ⟨w.heap.size+1,0,none⟩) 0 H] 67)).heap.size:=hhf.lt;rw [hHb];generalize (W1.alloc (.cells #[.slice (some ⟨w.heap.size+1,0,none⟩) 0 H] 67))=W2 at *;clear hsc hbw1 hrow hgr hmk hs1;refine (chunk_in Fence.wide _ trivial rfl _ _ _ _).mono ?_;rintro e w' ⟨rfl,rfl⟩;have hbx:Rw ((W2.alloc (.cells #[.slice (some ⟨g,0,none⟩) len cap] 67)).alloc (.cells #[.int .i64 2] 3)) W2.heap.size 67 [.slice (some ⟨g,0,none⟩) len cap]:=(Rw.new W2 _ _).alloc _;have hbn:Rw ((W2.alloc (.cells #[.slice (some ⟨g,0,none⟩) len cap] 67)).alloc (.cells #[.int .i64 2] 3)) (W2.heap.size+1) 3 [.int .i64 2]:=by
  have:=Rw.new (W2.alloc (.cells #[.slice (some ⟨g,0,none⟩) len cap] 67)) 3 [.int .i64 2]
  rwa [World.size_alloc] at this
 have hP0:PI w s Hb l [] ((W2.alloc (.cells #[.slice (some ⟨g,0,none⟩) len cap] 67)).alloc (.cells #[.int .i64 2] 3)):=by
  refine ⟨⟨_,(hrow0.alloc _).alloc _,(hhf.alloc _).alloc _,?_⟩,(hbw2.alloc (by omega) _).alloc (by rw [World.size_alloc];omega) _⟩;rw [hso];exact (hsc2.alloc _).alloc _
 have hs3:W2.heap.size+2=((W2.alloc (.cells #[.slice (some ⟨g,0,none⟩) len cap] 67)).alloc (.cells #[.int .i64 2] 3)).heap.size:=by simp
 generalize ((W2.alloc (.cells #[.slice (some ⟨g,0,none⟩) len cap] 67)).alloc (.cells #[.int .i64 2] 3))=W3 at *;clear hrow0 hhf hsc2 hbw2
 gi_wp2_with fail
 refine wpIn_rangeFunc_ownF rfl (by omega) (gf:=144) (lb:=#[.pointer (some ⟨W2.heap.size,0,none⟩),.pointer (some ⟨W2.heap.size+1,0,none⟩)]) rfl trivial (enters_of Tryz.func144 (by kernel_rfl) rfl)
  (chunk_stops' Fence.wide _ trivial rfl (by omega) W2.heap.size (W2.heap.size+1) w.heap.size g 0 len cap hc (by omega) W3 hbx hbn) (fun h k=>h.trans k) (KC.put (by omega) (by omega) (by omega)) (Below.refl _ _) (fun _=>rfl)
  (PI w s Hb l) (fun _ _ _=>False) (PI.own w s Hb l _ (by omega)) (fun _ _ _ _ _ hs _ _=>hs) hP0
  (fun x=>{tmps:=#[.slice (some ⟨g,0,none⟩) len cap,.agg #[.bool false,.string so],undef,.pointer (some ⟨w.heap.size,0,none⟩),.slice none 0 0,.pointer (some ⟨Hb,0,none⟩),pairOf g 0 len (min x ((len+1) / 2-1)),undef,.slice (some ⟨g,0,none⟩) len cap,.int .i64 (len:Int),.int .i64 ((len:Int)+1),.int .i64 (H:Int),.slice (some ⟨w.heap.size+1,0,none⟩) 0 H,.slice (some ⟨g,0,none⟩) len cap,.func (.func 144) #[] #[.pointer (some ⟨W2.heap.size,0,none⟩),.pointer (some ⟨W2.heap.size+1,0,none⟩)],pairOf g 0 len (min x ((len+1) / 2-1)),undef,undef,undef,undef,undef,undef,undef,undef,undef,undef,undef,undef,undef,undef,undef,undef,undef,undef,undef,undef],defers:=[] }) ?assign ?body ?done ?stop
 case assign =>
  intro lp x W K hK
  gi_wp2
  exact hK
 case body =>
  rintro lp pre x W ⟨⟨v,hrow,hhf,hsc⟩,hbw⟩ hlen;rw [hso] at hsc;have hRw:w.heap.size<W.heap.size:=hsc.lt;obtain ⟨k,hk⟩:∃ k,min x ((len+1) / 2-1)=k:=⟨_,rfl⟩;have hk2:2*k+1≤len:=by omega
  obtain ⟨o,ho⟩:∃ o,2*k*2=o:=⟨_,rfl⟩;have hIW:=hI.below hbw;obtain ⟨hg,ha0,ha1⟩:=np_cells hIW (2*k) (by omega);obtain ⟨a,hav⟩:∃ a,fb (l[2*k]'(by omega))=a:=⟨_,rfl⟩;rw [hav] at ha1;have has:a.size≤1000:=by rw [← hav];exact hs _ (List.getElem_mem _)
  rw [ho] at ha0 ha1
  by_cases h2:2*k+1<len
  ·obtain ⟨_,hb0,hb1⟩:=np_cells hIW (2*k+1) (by omega);obtain ⟨b,hbv⟩:∃ b,fb (l[2*k+1]'(by omega))=b:=⟨_,rfl⟩;rw [hbv] at hb1;have hbs:b.size≤1000:=by rw [← hbv];exact hs _ (List.getElem_mem _)
   rw [show (2*k+1)*2=o+2 by omega] at hb0 hb1;have hp:pairOf g 0 len k=.slice (some ⟨g,o,none⟩) 2 2:=by
    unfold pairOf;rw [show min 2 (len-2*k)=2 by omega,Nat.zero_add,ho]
   rw [hk,hp];have hpv:=pv_two s l x k (by rw [hl];exact hk) (by omega);have HP:=Lib.hid (And.intro hpv (And.intro hav hbv));clear hpv hav hbv hp hIW
   gi_wp2_with fail
   obtain ⟨zp,p,ep,vp,sp⟩:=times_nmw false false so b (k:=10000) (l:=1000) hss hbs;obtain ⟨sm,hsm⟩:∃ sm,fb (pv s l x)=sm:=⟨_,rfl⟩;have ez:wf (wv false a+wv zp p)=wi false sm:=by
    rw [vp,wv_false,wv_false,wv_false,← hso,← HP.out.2.1,← HP.out.2.2,num_fb,num_fb,num_fb,← Int.natCast_mul,← Int.natCast_add,← HP.out.1,← hsm];exact wf_nat _
   have HF:=Lib.hid hsm;have HZ:=Lib.hid (And.intro ep (And.intro ez vp));clear ep ez vp hsm;have hr0:Bk (W.alloc (.cells #[.bool false,.string a] 26)).drew W.heap.size #[.bool false,.string a]:=Bk.new W _;have hbl0:Below W.heap.size W (W.alloc (.cells #[.bool false,.string a] 26)).drew:=((Below.refl _ _).alloc (Nat.le_refl _) _).drew;have hS0:P6 w so g (o+2) b (W.alloc (.cells #[.bool false,.string a] 26)).drew:=P6.below ⟨hbw,⟨hsc.facts.1,hsc.facts.2.1⟩,hb0,hb1⟩ hbl0
   refine region_dag_round (P6 w so g (o+2) b) (fun fu li ac Wn=>(fu=10∧li=#[false,false,false,false,false,false,false,false,false,false]∧ac={tmps:=#[.slice (some ⟨g,0,none⟩) len cap,.agg #[.bool false,.string so],undef,.pointer (some ⟨w.heap.size,0,none⟩),.slice none 0 0,.pointer (some ⟨Hb,0,none⟩),.slice (some ⟨g,o,none⟩) 2 2,.pointer (some ⟨W.heap.size,0,none⟩),.slice (some ⟨g,0,none⟩) len cap,.int .i64 (len:Int),.int .i64 ((len:Int)+1),.int .i64 (H:Int),.slice (some ⟨w.heap.size+1,0,none⟩) 0 H,.slice (some ⟨g,0,none⟩) len cap,.func (.func 144) #[] #[.pointer (some ⟨W2.heap.size,0,none⟩),.pointer (some ⟨W2.heap.size+1,0,none⟩)],.slice (some ⟨g,o,none⟩) 2 2,.slice (some ⟨g,o,none⟩) 2 2,.pointer (some ⟨g,o,none⟩),.agg #[.bool false,.string a],.slice (some ⟨g,o,none⟩) 2 2,.int .i64 2,.bool true,undef,undef,undef,undef,undef,undef,undef,undef,undef,undef,undef,undef,undef,undef],defers:=[] }∧P6 w so g (o+2) b Wn∧Bk Wn W.heap.size #[.bool false,.string a]∧Below W.heap.size W Wn)∨(fu=5∧li=#[true,true,true,true,true,false,false,false,false,false]∧∃ (x24:Value) (x25:Value),ac={tmps:=#[.slice (some ⟨g,0,none⟩) len cap,.agg #[.bool false,.string so],undef,.pointer (some ⟨w.heap.size,0,none⟩),.slice none 0 0,.pointer (some ⟨Hb,0,none⟩),.slice (some ⟨g,o,none⟩) 2 2,.pointer (some ⟨W.heap.size,0,none⟩),.slice (some ⟨g,0,none⟩) len cap,.int .i64 (len:Int),.int .i64 ((len:Int)+1),.int .i64 (H:Int),.slice (some ⟨w.heap.size+1,0,none⟩) 0 H,.slice (some ⟨g,0,none⟩) len cap,.func (.func 144) #[] #[.pointer (some ⟨W2.heap.size,0,none⟩),.pointer (some ⟨W2.heap.size+1,0,none⟩)],.slice (some ⟨g,o,none⟩) 2 2,.slice (some ⟨g,o,none⟩) 2 2,.pointer (some ⟨g,o,none⟩),.agg #[.bool false,.string a],.slice (some ⟨g,o,none⟩) 2 2,.int .i64 2,.bool true,.agg #[.bool false,.string a],.agg #[.bool false,.string so],x24,x25,.agg #[.bool false,.string b],undef,undef,undef,undef,undef,undef,undef,undef,undef],defers:=[] }∧P6 w so g (o+2) b Wn∧Bk Wn W.heap.size #[.bool false,.string a]∧Below W.heap.size W Wn)∨(fu=5∧li=#[false,true,true,true,true,true,false,false,false,false]∧∃ (x23:Value) (x24:Value) (x25:Value) (x26:Value) (g27:Nat),ac={tmps:=#[.slice (some ⟨g,0,none⟩) len cap,.agg #[.bool false,.string so],undef,.pointer (some ⟨w.heap.size,0,none⟩),.slice none 0 0,.pointer (some ⟨Hb,0,none⟩),.slice (some ⟨g,o,none⟩) 2 2,.pointer (some ⟨W.heap.size,0,none⟩),.slice (some ⟨g,0,none⟩) len cap,.int .i64 (len:Int),.int .i64 ((len:Int)+1),.int .i64 (H:Int),.slice (some ⟨w.heap.size+1,0,none⟩) 0 H,.slice (some ⟨g,0,none⟩) len cap,.func (.func 144) #[] #[.pointer (some ⟨W2.heap.size,0,none⟩),.pointer (some ⟨W2.heap.size+1,0,none⟩)],.slice (some ⟨g,o,none⟩) 2 2,.slice (some ⟨g,o,none⟩) 2 2,.pointer (some ⟨g,o,none⟩),.agg #[.bool false,.string a],.slice (some ⟨g,o,none⟩) 2 2,.int .i64 2,.bool true,undef,x23,x24,x25,x26,.slice (some ⟨g27,0,none⟩) 2 2,undef,undef,undef,undef,undef,undef,undef,undef],defers:=[] }∧P6 w so g (o+2) b Wn∧Bk Wn W.heap.size #[.bool false,.string a]∧Below W.heap.size W Wn∧IAt Wn (some ⟨g27,0,none⟩) [(false,so),(false,b)])∨(fu=4∧li=#[true,true,true,true,true,true,false,false,false,false]∧∃ (x23:Value) (x24:Value) (x25:Value) (x26:Value) (g27:Nat),ac={tmps:=#[.slice (some ⟨g,0,none⟩) len cap,.agg #[.bool false,.string so],undef,.pointer (some ⟨w.heap.size,0,none⟩),.slice none 0 0,.pointer (some ⟨Hb,0,none⟩),.slice (some ⟨g,o,none⟩) 2 2,.pointer (some ⟨W.heap.size,0,none⟩),.slice (some ⟨g,0,none⟩) len cap,.int .i64 (len:Int),.int .i64 ((len:Int)+1),.int .i64 (H:Int),.slice (some ⟨w.heap.size+1,0,none⟩) 0 H,.slice (some ⟨g,0,none⟩) len cap,.func (.func 144) #[] #[.pointer (some ⟨W2.heap.size,0,none⟩),.pointer (some ⟨W2.heap.size+1,0,none⟩)],.slice (some ⟨g,o,none⟩) 2 2,.slice (some ⟨g,o,none⟩) 2 2,.pointer (some ⟨g,o,none⟩),.agg #[.bool false,.string a],.slice (some ⟨g,o,none⟩) 2 2,.int .i64 2,.bool true,.agg #[.bool false,.string a],x23,x24,x25,x26,.slice (some ⟨g27,0,none⟩) 2 2,undef,undef,undef,undef,undef,undef,undef,undef],defers:=[] }∧P6 w so g (o+2) b Wn∧Bk Wn W.heap.size #[.bool false,.string a]∧Below W.heap.size W Wn∧IAt Wn (some ⟨g27,0,none⟩) [(false,so),(false,b)])∨(fu=4∧li=#[false,true,true,true,true,true,true,false,false,false]∧∃ (x23:Value) (x24:Value) (x25:Value) (x26:Value) (x27:Value),ac={tmps:=#[.slice (some ⟨g,0,none⟩) len cap,.agg #[.bool false,.string so],undef,.pointer (some ⟨w.heap.size,0,none⟩),.slice none 0 0,.pointer (some ⟨Hb,0,none⟩),.slice (some ⟨g,o,none⟩) 2 2,.pointer (some ⟨W.heap.size,0,none⟩),.slice (some ⟨g,0,none⟩) len cap,.int .i64 (len:Int),.int .i64 ((len:Int)+1),.int .i64 (H:Int),.slice (some ⟨w.heap.size+1,0,none⟩) 0 H,.slice (some ⟨g,0,none⟩) len cap,.func (.func 144) #[] #[.pointer (some ⟨W2.heap.size,0,none⟩),.pointer (some ⟨W2.heap.size+1,0,none⟩)],.slice (some ⟨g,o,none⟩) 2 2,.slice (some ⟨g,o,none⟩) 2 2,.pointer (some ⟨g,o,none⟩),.agg #[.bool false,.string a],.slice (some ⟨g,o,none⟩) 2 2,.int .i64 2,.bool true,undef,x23,x24,x25,x26,x27,.agg #[.bool zp,.string p],undef,undef,undef,undef,undef,undef,undef],defers:=[] }∧P6 w so g (o+2) b Wn∧Bk Wn W.heap.size #[.bool false,.string a]∧Below W.heap.size W Wn)∨(fu=3∧li=#[true,true,true,true,true,true,true,false,false,false]∧∃ (x23:Value) (x24:Value) (x25:Value) (x26:Value) (x27:Value),ac={tmps:=#[.slice (some ⟨g,0,none⟩) len cap,.agg #[.bool false,.string so],undef,.pointer (some ⟨w.heap.size,0,none⟩),.slice none 0 0,.pointer (some ⟨Hb,0,none⟩),.slice (some ⟨g,o,none⟩) 2 2,.pointer (some ⟨W.heap.size,0,none⟩),.slice (some ⟨g,0,none⟩) len cap,.int .i64 (len:Int),.int .i64 ((len:Int)+1),.int .i64 (H:Int),.slice (some ⟨w.heap.size+1,0,none⟩) 0 H,.slice (some ⟨g,0,none⟩) len cap,.func (.func 144) #[] #[.pointer (some ⟨W2.heap.size,0,none⟩),.pointer (some ⟨W2.heap.size+1,0,none⟩)],.slice (some ⟨g,o,none⟩) 2 2,.slice (some ⟨g,o,none⟩) 2 2,.pointer (some ⟨g,o,none⟩),.agg #[.bool false,.string a],.slice (some ⟨g,o,none⟩) 2 2,.int .i64 2,.bool true,.agg #[.bool false,.string a],x23,x24,x25,x26,x27,.agg #[.bool zp,.string p],undef,undef,undef,undef,undef,undef,undef],defers:=[] }∧P6 w so g (o+2) b Wn∧Bk Wn W.heap.size #[.bool false,.string a]∧Below W.heap.size W Wn)∨(fu=2∧li=#[true,true,true,true,true,true,true,true,false,false]∧∃ (x22:Value) (x23:Value) (x24:Value) (x25:Value) (x26:Value) (x27:Value) (x28:Value) (g29:Nat),ac={tmps:=#[.slice (some ⟨g,0,none⟩) len cap,.agg #[.bool false,.string so],undef,.pointer (some ⟨w.heap.size,0,none⟩),.slice none 0 0,.pointer (some ⟨Hb,0,none⟩),.slice (some ⟨g,o,none⟩) 2 2,.pointer (some ⟨W.heap.size,0,none⟩),.slice (some ⟨g,0,none⟩) len cap,.int .i64 (len:Int),.int .i64 ((len:Int)+1),.int .i64 (H:Int),.slice (some ⟨w.heap.size+1,0,none⟩) 0 H,.slice (some ⟨g,0,none⟩) len cap,.func (.func 144) #[] #[.pointer (some ⟨W2.heap.size,0,none⟩),.pointer (some ⟨W2.heap.size+1,0,none⟩)],.slice (some ⟨g,o,none⟩) 2 2,.slice (some ⟨g,o,none⟩) 2 2,.pointer (some ⟨g,o,none⟩),.agg #[.bool false,.string a],.slice (some ⟨g,o,none⟩) 2 2,.int .i64 2,.bool true,x22,x23,x24,x25,x26,x27,x28,.slice (some ⟨g29,0,none⟩) 2 2,undef,undef,undef,undef,undef,undef],defers:=[] }∧P6 w so g (o+2) b Wn∧Bk Wn W.heap.size #[.bool false,.string a]∧Below W.heap.size W Wn∧IAt Wn (some ⟨g29,0,none⟩) [(false,a),(zp,p)])∨(fu=1∧li=#[true,true,true,true,true,true,true,true,true,false]∧∃ (x22:Value) (x23:Value) (x24:Value) (x25:Value) (x26:Value) (x27:Value) (x28:Value) (x29:Value),ac={tmps:=#[.slice (some ⟨g,0,none⟩) len cap,.agg #[.bool false,.string so],undef,.pointer (some ⟨w.heap.size,0,none⟩),.slice none 0 0,.pointer (some ⟨Hb,0,none⟩),.slice (some ⟨g,o,none⟩) 2 2,.pointer (some ⟨W.heap.size,0,none⟩),.slice (some ⟨g,0,none⟩) len cap,.int .i64 (len:Int),.int .i64 ((len:Int)+1),.int .i64 (H:Int),.slice (some ⟨w.heap.size+1,0,none⟩) 0 H,.slice (some ⟨g,0,none⟩) len cap,.func (.func 144) #[] #[.pointer (some ⟨W2.heap.size,0,none⟩),.pointer (some ⟨W2.heap.size+1,0,none⟩)],.slice (some ⟨g,o,none⟩) 2 2,.slice (some ⟨g,o,none⟩) 2 2,.pointer (some ⟨g,o,none⟩),.agg #[.bool false,.string a],.slice (some ⟨g,o,none⟩) 2 2,.int .i64 2,.bool true,x22,x23,x24,x25,x26,x27,x28,x29,.agg #[.bool false,.string sm],undef,undef,undef,undef,undef],defers:=[] }∧P6 w so g (o+2) b Wn∧Bk Wn W.heap.size #[.bool false,.string a]∧Below W.heap.size W Wn)∨(fu=0∧li=#[true,true,true,true,true,true,true,true,true,true]∧∃ (x22:Value) (x23:Value) (x24:Value) (x25:Value) (x26:Value) (x27:Value) (x28:Value) (x29:Value) (x30:Value),ac={tmps:=#[.slice (some ⟨g,0,none⟩) len cap,.agg #[.bool false,.string so],undef,.pointer (some ⟨w.heap.size,0,none⟩),.slice none 0 0,.pointer (some ⟨Hb,0,none⟩),.slice (some ⟨g,o,none⟩) 2 2,.pointer (some ⟨W.heap.size,0,none⟩),.slice (some ⟨g,0,none⟩) len cap,.int .i64 (len:Int),.int .i64 ((len:Int)+1),.int .i64 (H:Int),.slice (some ⟨w.heap.size+1,0,none⟩) 0 H,.slice (some ⟨g,0,none⟩) len cap,.func (.func 144) #[] #[.pointer (some ⟨W2.heap.size,0,none⟩),.pointer (some ⟨W2.heap.size+1,0,none⟩)],.slice (some ⟨g,o,none⟩) 2 2,.slice (some ⟨g,o,none⟩) 2 2,.pointer (some ⟨g,o,none⟩),.agg #[.bool false,.string a],.slice (some ⟨g,o,none⟩) 2 2,.int .i64 2,.bool true,x22,x23,x24,x25,x26,x27,x28,x29,x30,undef,undef,undef,undef,undef],defers:=[] }∧P6 w so g (o+2) b Wn∧Bk Wn W.heap.size #[.bool false,.string sm]∧Below W.heap.size W Wn)) (by kernel_rfl) (by kernel_rfl) (by rintro ⟨_,_,h⟩;exact h) ?_ ?_
   ·exact Or.inl (⟨rfl,rfl,rfl,hS0,hr0,hbl0⟩)
   ·clear hS0 hr0 hbl0;intro fu li ac Wn hI2 IH
    rcases hI2 with ⟨rfl,rfl,rfl,hS,hr,hbl⟩|hI2
    ·refine dag_take (i:=1) (d:=some 23) (v:=.agg #[.bool false,.string so]) rfl rfl (by kernel_rfl) (by kernel_rfl) (by kernel_rfl) (fun _ _ _ h=>h) (Or.inl ⟨by rfl,?y1⟩) hS ?_
     case y1=>intro w' hSw;obtain ⟨_,⟨hs2,hs3⟩,hs4,hs5⟩:=hSw;go_simp;first|done|with_reducible rfl
     try simp only [Act.put,List.setIfInBounds_toArray,List.set_cons_zero,List.set_cons_succ]
     refine dag_take (i:=2) (d:=some 24) (v:=.slice (some ⟨g,o,none⟩) 2 2) rfl rfl (by kernel_rfl) (by kernel_rfl) (by kernel_rfl) (fun _ _ _ h=>h) (Or.inl ⟨by rfl,?y2⟩) hS ?_
     case y2=>intro w' hSw;obtain ⟨_,⟨hs2,hs3⟩,hs4,hs5⟩:=hSw;go_simp;first|done|with_reducible rfl
     try simp only [Act.put,List.setIfInBounds_toArray,List.set_cons_zero,List.set_cons_succ]
     refine dag_take (i:=3) (d:=some 25) (v:=.pointer (some ⟨g,o+2,none⟩)) rfl rfl (by kernel_rfl) (by kernel_rfl) (by kernel_rfl) (fun _ _ _ h=>h) (Or.inl ⟨by rfl,?y3⟩) hS ?_
     case y3=>intro w' hSw;obtain ⟨_,⟨hs2,hs3⟩,hs4,hs5⟩:=hSw;go_simp;first|done|with_reducible rfl
     try simp only [Act.put,List.setIfInBounds_toArray,List.set_cons_zero,List.set_cons_succ]
     refine dag_take (i:=4) (d:=some 26) (v:=.agg #[.bool false,.string b]) rfl rfl (by kernel_rfl) (by kernel_rfl) (by kernel_rfl) (fun _ _ _ h=>h) (Or.inl ⟨by rfl,?y4⟩) hS ?_
     case y4=>intro w' hSw;obtain ⟨_,⟨hs2,hs3⟩,hs4,hs5⟩:=hSw;go_simp;first|done|with_reducible rfl
     try simp only [Act.put,List.setIfInBounds_toArray,List.set_cons_zero,List.set_cons_succ]
     refine wpAnyH_ready (rs:=[0,5]) (by kernel_rfl) (by simp) ?_;refine AllReadyH.cons rfl (fun Kc hK=>?_) ?_
     ·obtain ⟨q0,q1,q2,q3⟩:=hr.facts;go_simp;refine hK.out _ _ (hS) (fun hS'=>?_);exact IH.out _ _ _ _ (by omega) (Or.inr (Or.inl (⟨rfl,by kernel_rfl,_,_,rfl,hS',hr,hbl⟩)))
     refine AllReadyH.cons rfl (fun Kc hK=>?_) AllReadyH.nil;go_simp;refine hK.out _ _ (hS.alloc _) (fun hS'=>?_);exact IH.out _ _ _ _ (by omega) (oR2 (Or.inl (⟨rfl,by kernel_rfl,_,_,_,_,_,rfl,hS',hr.alloc _,hbl.alloc hbl.size _,iat_new rfl rfl⟩)))
    rcases hI2 with ⟨rfl,rfl,x24,x25,rfl,hS,hr,hbl⟩|hI2
    ·refine wpAnyH_ready (rs:=[5]) (by kernel_rfl) (by simp) ?_;refine AllReadyH.cons rfl (fun Kc hK=>?_) AllReadyH.nil;go_simp;refine hK.out _ _ (hS.alloc _) (fun hS'=>?_);exact IH.out _ _ _ _ (by omega) (oR2 (Or.inr (Or.inl (⟨rfl,by kernel_rfl,_,_,_,_,_,rfl,hS',hr.alloc _,hbl.alloc hbl.size _,iat_new rfl rfl⟩))))
    rcases hI2 with ⟨rfl,rfl,x23,x24,x25,x26,g27,rfl,hS,hr,hbl,hG27⟩|hI2
    ·refine wpAnyH_ready (rs:=[0,6]) (by kernel_rfl) (by simp) ?_;refine AllReadyH.cons rfl (fun Kc hK=>?_) ?_
     ·obtain ⟨q0,q1,q2,q3⟩:=hr.facts;go_simp;refine hK.out _ _ (hS) (fun hS'=>?_);exact IH.out _ _ _ _ (by omega) (oR2 (Or.inr (Or.inl (⟨rfl,by kernel_rfl,_,_,_,_,_,rfl,hS',hr,hbl,hG27⟩))))
     refine AllReadyH.cons rfl (fun Kc hK=>?_) AllReadyH.nil;go_simp;go_fit (vmul2 _ _ false false so b (by omega) (by omega) hG27 zp p HZ.out.1);rintro e V ⟨rfl,hq⟩;refine hK.out _ _ (hS.below hq) (fun hS'=>?_);exact IH.out _ _ _ _ (by omega) (oR4 (Or.inl (⟨rfl,by kernel_rfl,_,_,_,_,_,rfl,hS',hr.below hq,below_next hbl hq⟩)))
    rcases hI2 with ⟨rfl,rfl,x23,x24,x25,x26,g27,rfl,hS,hr,hbl,hG27⟩|hI2
    ·refine wpAnyH_ready (rs:=[6]) (by kernel_rfl) (by simp) ?_;refine AllReadyH.cons rfl (fun Kc hK=>?_) AllReadyH.nil;go_simp;go_fit (vmul2 _ _ false false so b (by omega) (by omega) hG27 zp p HZ.out.1);rintro e V ⟨rfl,hq⟩;refine hK.out _ _ (hS.below hq) (fun hS'=>?_);exact IH.out _ _ _ _ (by omega) (oR4 (Or.inr (Or.inl (⟨rfl,by kernel_rfl,_,_,_,_,_,rfl,hS',hr.below hq,below_next hbl hq⟩))))
    rcases hI2 with ⟨rfl,rfl,x23,x24,x25,x26,x27,rfl,hS,hr,hbl⟩|hI2
    ·refine wpAnyH_ready (rs:=[0]) (by kernel_rfl) (by simp) ?_;refine AllReadyH.cons rfl (fun Kc hK=>?_) AllReadyH.nil;obtain ⟨q0,q1,q2,q3⟩:=hr.facts;go_simp;refine hK.out _ _ (hS) (fun hS'=>?_);exact IH.out _ _ _ _ (by omega) (oR4 (Or.inr (Or.inl (⟨rfl,by kernel_rfl,_,_,_,_,_,rfl,hS',hr,hbl⟩))))
    rcases hI2 with ⟨rfl,rfl,x23,x24,x25,x26,x27,rfl,hS,hr,hbl⟩|hI2
    ·refine wpAnyH_ready (rs:=[7]) (by kernel_rfl) (by simp) ?_;refine AllReadyH.cons rfl (fun Kc hK=>?_) AllReadyH.nil;go_simp;refine hK.out _ _ (hS.alloc _) (fun hS'=>?_);exact IH.out _ _ _ _ (by omega) (oR4 (oR2 (Or.inl (⟨rfl,by kernel_rfl,_,_,_,_,_,_,_,_,rfl,hS',hr.alloc _,hbl.alloc hbl.size _,iat_new rfl rfl⟩))))
    rcases hI2 with ⟨rfl,rfl,x22,x23,x24,x25,x26,x27,x28,g29,rfl,hS,hr,hbl,hG29⟩|hI2
    ·refine wpAnyH_ready (rs:=[8]) (by kernel_rfl) (by simp) ?_;refine AllReadyH.cons rfl (fun Kc hK=>?_) AllReadyH.nil;go_simp;go_fit (vadd2 _ _ false zp a p (by omega) (by omega) hG29 false sm HZ.out.2.1);rintro e V ⟨rfl,hq⟩;refine hK.out _ _ (hS.below hq) (fun hS'=>?_);exact IH.out _ _ _ _ (by omega) (oR4 (oR2 (Or.inr (Or.inl (⟨rfl,by kernel_rfl,_,_,_,_,_,_,_,_,rfl,hS',hr.below hq,below_next hbl hq⟩)))))
    rcases hI2 with ⟨rfl,rfl,x22,x23,x24,x25,x26,x27,x28,x29,rfl,hS,hr,hbl⟩|hI2
    ·refine wpAnyH_ready (rs:=[9]) (by kernel_rfl) (by simp) ?_;refine AllReadyH.cons rfl (fun Kc hK=>?_) AllReadyH.nil;obtain ⟨q0,q1,q2,q3⟩:=hr.facts;go_simp;refine hK.out _ _ (hS.put (by omega) (by omega) _ _) (fun hS'=>?_);exact IH.out _ _ _ _ (by omega) (oR8 (⟨rfl,by kernel_rfl,_,_,_,_,_,_,_,_,_,rfl,hS',hr.set_ _ _,below_set2 hbl (by omega) _ _ _ _⟩))
    obtain ⟨rfl,rfl,x22,x23,x24,x25,x26,x27,x28,x29,x30,rfl,hS,hr,hbl⟩:=hI2;clear IH;refine wpAnyH_done (by kernel_rfl) ?_ _;have hrow6:=ownsRow_below hrow hbl;have hhf6:=hhf.below hbl hhf.lt;have hsc6:=hsc.below hbl;obtain ⟨q0,q1,q2,q3⟩:=hr.facts;have hc6:=hhf6.cell 0;simp only [List.getElem?_cons_zero] at hc6;have hszn:=hbl.size;have hrow7:=hrow6.alloc (.cells #[.bool false,.string sm] 26);have hnew:∀ j u,[.bool false,.string sm][j]?=some u→(Wn.alloc (.cells #[.bool false,.string sm] 26)).cell? ((⟨Wn.heap.size,0,none⟩:Addr).add j)=some u:=cell_two_new Wn _ _ _;have HR:=Lib.hid (And.intro hrow7 hnew);have HO:=Lib.hid (And.intro hrow (And.intro hhf (And.intro hsc (And.intro hbw (And.intro hbl hsc6)))));clear hrow hrow6 hrow7 hnew hsc hbw hbl hsc6 hhf
    gi_wp2_with (refine wpListIn_append_own _ rfl (.tmp 31) (.tmp 33) 67 rfl (w.heap.size+1) 26 i0 (.agg #[.bool false,.string ⟨#[]⟩]) 2 24 Tryz.underlying67 hi0 hz0 hz1 hz2 rfl (by decide) _ pre.length _ rfl HR.out.1 ⟨Wn.heap.size,0,none⟩ 1 1 [.bool false,.string sm] rfl rfl HR.out.2 (by intro u hu;simp at hu;rcases hu with rfl|rfl <;> rfl) (by unfold maxLen;omega) (by omega) (by rw [World.size_alloc];omega) ?_)
    intro v' w1 hown' hgrow _;obtain ⟨gq,cq,rfl⟩:=own_slice hown' (by omega);have hhf7:=(hhf6.alloc (.cells #[.bool false,.string sm] 26)).grown hgrow (ownBlock_ne HR.out.1 (hhf6.alloc _) (by decide));have hc7:=hhf7.cell 0;have hf7:=hhf7.frozen 0;simp only [List.getElem?_cons_zero] at hc7;have HW:=Lib.hid (And.intro hown' hgrow);clear hown' hgrow
    gi_wp2
    exact paired_round HR.out.1 HO.out.1 HO.out.2.1 HO.out.2.2.1 HO.out.2.2.2.1 HO.out.2.2.2.2.1 HW.out.1 HW.out.2 (by omega) (by omega) hso HF.out
  ·have hp:pairOf g 0 len k=.slice (some ⟨g,o,none⟩) 1 1:=by
    unfold pairOf;rw [show min 2 (len-2*k)=1 by omega,Nat.zero_add,ho]
   rw [hk,hp];have hpv:=pv_one s l x k (by rw [hl];exact hk) (by omega);rw [← hpv] at hav;have HF:=Lib.hid hav;clear hpv hav hp hIW;obtain ⟨Wn,hWn⟩:∃ Wn,W.alloc (.cells #[.bool false,.string a] 26)=Wn:=⟨_,rfl⟩;have hr:Bk Wn W.heap.size #[.bool false,.string a]:=by rw [← hWn];exact Bk.new W _
   have hbl:Below W.heap.size W Wn:=by rw [← hWn];exact (Below.refl _ _).alloc (Nat.le_refl _) _
   have hrow6:=ownsRow_below hrow hbl;have hhf6:=hhf.below hbl hhf.lt;have hsc6:=hsc.below hbl;obtain ⟨q0,q1,q2,q3⟩:=hr.facts;have hc6:=hhf6.cell 0;simp only [List.getElem?_cons_zero] at hc6;have hszn:=hbl.size;have hrow7:=hrow6.alloc (.cells #[.bool false,.string a] 26);have hnew:∀ j u,[.bool false,.string a][j]?=some u→(Wn.alloc (.cells #[.bool false,.string a] 26)).cell? ((⟨Wn.heap.size,0,none⟩:Addr).add j)=some u:=cell_two_new Wn _ _ _;have HR:=Lib.hid (And.intro hrow7 hnew);have HO:=Lib.hid (And.intro hrow (And.intro hhf (And.intro hsc (And.intro hbw (And.intro hbl hsc6)))));clear hrow hrow6 hrow7 hnew hsc hbw hbl hsc6 hhf
   gi_wp2_with (refine wpListIn_append_own _ rfl (.tmp 31) (.tmp 33) 67 rfl (w.heap.size+1) 26 i0 (.agg #[.bool false,.string ⟨#[]⟩]) 2 24 Tryz.underlying67 hi0 hz0 hz1 hz2 rfl (by decide) _ pre.length _ rfl HR.out.1 ⟨Wn.heap.size,0,none⟩ 1 1 [.bool false,.string a] rfl rfl HR.out.2 (by intro u hu;simp at hu;rcases hu with rfl|rfl <;> rfl) (by unfold maxLen;omega) (by omega) (by rw [World.size_alloc];omega) ?_)
   intro v' w1 hown' hgrow _;obtain ⟨gq,cq,rfl⟩:=own_slice hown' (by omega);have hhf7:=(hhf6.alloc (.cells #[.bool false,.string a] 26)).grown hgrow (ownBlock_ne HR.out.1 (hhf6.alloc _) (by decide));have hc7:=hhf7.cell 0;have hf7:=hhf7.frozen 0;simp only [List.getElem?_cons_zero] at hc7;have HW:=Lib.hid (And.intro hown' hgrow);clear hown' hgrow
   gi_wp2
   exact paired_round HR.out.1 HO.out.1 HO.out.2.1 HO.out.2.2.1 HO.out.2.2.2.1 HO.out.2.2.2.2.1 HW.out.1 HW.out.2 (by omega) (by omega) hso HF.out
 case done =>
  rintro D ys W hD rfl ⟨⟨v,hrow,hhf,_⟩,hbw⟩ hK;rw [← hl,pv_all,hl,List.length_range] at hrow;have hrow2:=ownsRow_putObj hrow (.deferred none) hK rfl;obtain ⟨g',cap',rfl,hcap',hB',hI'⟩:=own_rowB (by rw [List.length_map,pairN_len,hl]) (by omega) hrow2;have hc0:=hhf.cell 0;simp only [List.getElem?_cons_zero] at hc0;have hfin:Below w.heap.size w (W.putObj D (.deferred none)):=hbw.trans (belowK_b (w:=w) (Nat.le_refl _) W D _ (.deferred none) (by omega) hK rfl rfl);have HFIN:=Lib.hid (And.intro hfin hI');clear hfin hI' hrow hrow2
  gi_wp2
  refine ⟨by simp,.inl ⟨_,_,rfl,run_takeDeferred hK,?_⟩⟩;exact ⟨_,results_tmp rfl _ _ _,g',cap',rfl,hcap',by omega,HFIN.out.2,HFIN.out.1⟩
 case stop =>
  rintro D c pre W _ _ h _;exact h.elim
end Go.Proofs.YtiddgplapodleaaGreatDoor
