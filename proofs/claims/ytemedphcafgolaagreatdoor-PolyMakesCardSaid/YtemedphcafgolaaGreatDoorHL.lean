/- Layer 1, laid together: Lin, Seg. -/
import Derived.Deep.DeepFit
import Derived.Deep.RegionHeld3
/- A region whose operations come up in any order,by ONE invariant that tells of each operation whether it has come up: each operation is proved once. -/
namespace Go.Proofs.YtemedphcafgolaaGreatDoor
open Go.RowKit
def sel (l:Bool) (x y:Value):Value:=match l with|true=>x|false=>y
theorem sel_t (x y:Value):sel true x y=x:=rfl
theorem sel_f (x y:Value):sel false x y=y:=rfl
def linOn (ops:Array Oper) (i:Nat):List Nat:=match ops[i]? with
 | some o=>(o.after.toList.filter fun e=>Region.binds .any e).map (·.on)
 | none=>[]
def linSweep (ops:Array Oper):Nat→List Nat→List Nat
 | 0,m=>m
 | k+1,m=>linSweep ops k (if m.contains k then linOn ops k++m else m)
def linDeps (ops:Array Oper) (i:Nat):List Nat:=linSweep ops i (linOn ops i)
def linTopo (ops:Array Oper):Bool:=(List.range ops.size).all fun i=>(linOn ops i).all fun d=>decide (d<i)
def LinClosed (ops:Array Oper) (L:Array Bool):Prop:=∀ j,L.getD j false=true→∀ d∈linOn ops j,L.getD d false=true
def AllT (L:Array Bool):List Nat→Prop
 | []=>True
 | d::t=>L.getD d false=true∧AllT L t
def AllF (L:Array Bool):List Nat→Prop
 | []=>True
 | d::t=>L.getD d false=false∧AllF L t
theorem allT_of {L:Array Bool}:∀ {ds:List Nat},(∀ d∈ds,L.getD d false=true)→AllT L ds
 | [],_=>trivial
 | d::_,h=>⟨h d (by simp),allT_of fun x hx=>h x (by simp [hx])⟩
theorem allF_of {L:Array Bool}:∀ {ds:List Nat},(∀ d∈ds,L.getD d false=false)→AllF L ds
 | [],_=>trivial
 | d::_,h=>⟨h d (by simp),allF_of fun x hx=>h x (by simp [hx])⟩
theorem linSweep_sound {ops:Array Oper} {L:Array Bool} (hc:LinClosed ops L):∀ (k:Nat) (m:List Nat),(∀ d∈m,L.getD d false=true)→∀ d∈linSweep ops k m,L.getD d false=true
 | 0,_,h=>h
 | k+1,m,h=>by
  unfold linSweep;refine linSweep_sound hc k _ ?_;intro d hd
  split at hd
  ·rename_i hk
   rcases List.mem_append.1 hd with h1|h1
   ·exact hc k (h k (by simpa using hk)) d h1
   ·exact h d h1
  ·exact h d hd
theorem linDeps_sound {ops:Array Oper} {L:Array Bool} (hc:LinClosed ops L) {j:Nat} (h:∀ d∈linOn ops j,L.getD d false=true):∀ d∈linDeps ops j,L.getD d false=true:=
 linSweep_sound hc j _ h
section
variable {P : Program} {ops : Array Oper} {Q : Exit→Act→World→Prop} {I : Array Bool→Act→World→Prop}
theorem linOn_mem {i d:Nat} {o:Oper} (ho:ops[i]?=some o):d∈linOn ops i↔∃ e∈o.after,Region.binds .any e=true∧e.on=d:=by
 unfold linOn;rw [ho];simp [List.mem_map,List.mem_filter,and_assoc]
theorem ready_on {i:Nat} {L:Array Bool} (h:i∈Region.ready .any ops L):L.getD i true=false∧∀ d∈linOn ops i,L.getD d false=true:=by
 obtain ⟨h1,o,ho,hall⟩:=mem_ready.1 h;refine ⟨h1,fun d hd=>?_⟩;obtain ⟨e,he,hb,rfl⟩:=(linOn_mem ho).1 hd;exact hall e he hb
theorem getD_false_of_true {L:Array Bool} {i:Nat} (h:L.getD i true=false):L.getD i false=false∧i<L.size:=by
 by_cases hi:i<L.size
 ·simp [Array.getD,hi] at h ⊢;exact h
 ·simp [Array.getD,hi] at h
theorem getD_set (L:Array Bool) (i j:Nat) (hi:i<L.size):(L.setIfInBounds i true).getD j false=if j=i then true else L.getD j false:=by
 by_cases h:j=i
 ·subst h;simp [hi]
 ·rw [if_neg h];simp only [Array.getD_eq_getD_getElem?];rw [Array.getElem?_setIfInBounds_ne (Ne.symm h)]
theorem LinClosed.set {L:Array Bool} (hc:LinClosed ops L) {i:Nat} (h:i∈Region.ready .any ops L):LinClosed ops (L.setIfInBounds i true):=by
 obtain ⟨h1,h2⟩:=ready_on h;have h3:=(getD_false_of_true h1).2;intro j hj d hd;rw [getD_set _ _ _ h3] at hj ⊢
 by_cases hd' : d=i
 ·rw [if_pos hd']
 ·rw [if_neg hd']
  by_cases hj' : j=i
  ·rw [hj'] at hd;exact h2 d hd
  ·rw [if_neg hj'] at hj;exact hc j hj d hd
def unl (L:Array Bool):Nat:=L.toList.countP fun b=>!b
theorem unl_set {L:Array Bool} {i:Nat} (hi:i<L.size) (h:L.getD i true=false):unl (L.setIfInBounds i true)+1=unl L:=by
 have h' : L.toList[i]=false:=by simpa [Array.getD,hi] using h
 unfold unl;rw [Array.toList_setIfInBounds];have hm:L.toList=L.toList.take i++false::L.toList.drop (i+1):=by
  rw [← h',← List.drop_eq_getElem_cons (by simpa using hi),List.take_append_drop]
 have hl:(L.toList.take i).length=i:=by simp;omega
 rw [hm];rw [List.set_append_right _ _ (by omega),hl,Nat.sub_self,List.set_cons_zero,List.countP_append,List.countP_append,List.countP_cons,List.countP_cons];simp;omega
def LinStep (P:Program) (ops:Array Oper) (Q:Exit→Act→World→Prop) (I:Array Bool→Act→World→Prop) (i:Nat):Prop:=
 ∀ L a w,LinClosed ops L→I L a w→i∈Region.ready .any ops L→wpOp P ops Q i (fun a' w'=>I (L.setIfInBounds i true) a' w') a w
theorem lin_nil:∀ j∈([]:List Nat),LinStep P ops Q I j:=fun _ h=>by cases h
theorem lin_cons {i:Nat} {o:Oper} {rest:List Nat} (ds us:List Nat) (ho:ops[i]?=some o) (hds:(ds.all fun d=>(linDeps ops i).contains d)=true) (hus:(us.all fun j=>(linDeps ops j).contains i)=true)
  (h:∀ L a w,I L a w→L.getD i false=false→AllT L ds→AllF L us→∀ K' : Act→World→Prop,Shut (∀ a' w',I (L.setIfInBounds i true) a' w'→K' a' w') →
   if Region.wanted o (yielded ops a.tmps)=true then Oper.wp P o a w K' Q else K' (a.put o.dst undef) w)
  (hs:∀ j∈rest,LinStep P ops Q I j):∀ j∈i::rest,LinStep P ops Q I j:=by
 intro j hj
 rcases List.mem_cons.1 hj with rfl|hj
 ·intro L a w hc hI hr;obtain ⟨h1,h2⟩:=ready_on hr;have h3:=linDeps_sound hc h2;have h4:=(getD_false_of_true h1).1;have h5:AllF L us:=allF_of fun x hx=>by
   cases hx2:L.getD x false with
   | false=>rfl
   | true =>
    have h6:=linDeps_sound hc (hc x hx2) j (by simpa using List.all_eq_true.1 hus x hx);rw [h4] at h6;cases h6
  have h6:AllT L ds:=allT_of fun x hx=>h3 x (by simpa using List.all_eq_true.1 hds x hx);exact wpOp_step ho (fun K' hK=>h L a w hI h4 h6 h5 K' (fun a' w' h=>hK a' w' h))
 ·exact hs j hj
theorem lin_any (hall:∀ j∈List.range ops.size,LinStep P ops Q I j) (ht:linTopo ops=true) (hend:∀ L a w,I L a w→AllT L (List.range ops.size)→Q .normal a w) :
  ∀ (f:Nat) (L:Array Bool) (a:Act) (w:World),L.size=ops.size→unl L=f→LinClosed ops L→I L a w→wpAnyH P .any ops Q (fun _=>True) f L a w:=by
 have hfin:∀ L a w,I L a w→L.size=ops.size→Region.ready .any ops L=[]→Q .normal a w:=by
  intro L a w hI hsz hr;refine hend L a w hI (allT_of fun d hd=>?_)
  have:∀ n,∀ d,d<n→d<ops.size→L.getD d false=true:=by
   intro n
   induction n with
   | zero=>intro d h;omega
   | succ n ih =>
    intro d hd hd2
    cases hx:L.getD d false with
    | true=>rfl
    | false =>
     have hon:∀ x∈linOn ops d,L.getD x false=true:=fun x hx=>by
      have hlt:x<d:=by
       have:=List.all_eq_true.1 (List.all_eq_true.1 ht d (List.mem_range.2 hd2)) x hx
       simpa using this
      exact ih x (by omega) (by omega)
     have hmem:d∈Region.ready .any ops L:=by
      refine mem_ready.2 ⟨?_,ops[d],Array.getElem?_eq_getElem hd2,fun e he hb=>hon e.on ((linOn_mem (Array.getElem?_eq_getElem hd2)).2 ⟨e,he,hb,rfl⟩)⟩;have hlt:d<L.size:=by omega
      simp [Array.getD,hlt] at hx ⊢;exact hx
     rw [hr] at hmem
     cases hmem
  exact this (d+1) d (by omega) (List.mem_range.1 hd)
 have hstep:∀ L a w,L.size=ops.size→LinClosed ops L→I L a w→∀ i∈Region.ready .any ops L,wpOp P ops Q i (fun a' w'=>I (L.setIfInBounds i true) a' w') a w:=by
  intro L a w hsz hc hI i hi;obtain ⟨_,o,ho,_⟩:=mem_ready.1 hi;exact hall i (List.mem_range.2 (Array.getElem?_eq_some_iff.1 ho).1) L a w hc hI hi
 intro f
 induction f with
 | zero =>
  intro L a w hsz hu hc hI;have hr:Region.ready .any ops L=[]:=by
   cases hr:Region.ready .any ops L with
   | nil=>rfl
   | cons i t =>
    have hi:i∈Region.ready .any ops L:=by rw [hr];simp
    obtain ⟨h1,_⟩:=ready_on hi
    have:=unl_set (getD_false_of_true h1).2 h1
    omega
  exact ⟨hr,hfin L a w hI hsz hr⟩
 | succ f ih =>
  intro L a w hsz hu hc hI;refine ⟨fun hr=>hfin L a w hI hsz hr,fun i hi=>?_⟩;obtain ⟨h1,_⟩:=ready_on hi;have h2:=unl_set (getD_false_of_true h1).2 h1;exact wpOp_mono (fun a' w' h=>⟨trivial,ih _ a' w' (by simpa using hsz) (by omega) (hc.set hi) h⟩) (hstep L a w hsz hc hI i hi)
theorem region_lin {id n:Nat} {a:Act} {w:World} (rs:List Nat) (I:Array Bool→Act→World→Prop) (hm:P.follows .mixedOrders=true) (hn:ops.size=n) (hrs:List.range n=rs) (ht:linTopo ops=true) (h0:I (Array.replicate n false) a w.drew)
  (hall:∀ j∈rs,LinStep P ops Q I j) (hend:∀ L a w,I L a w→AllT L rs→Q .normal a w):(Code.region id ops true).wp P Q a w:=by
 subst hn;subst hrs;refine wp_region_held hm (lin_any hall ht hend _ _ _ _ (by simp) ?_ ?_ h0)
 ·unfold unl;simp [List.countP_replicate]
 ·intro j hj;simp [Array.getD] at hj
theorem lin_yield {o:Oper} {a:Act} {w:World} {K:Act→World→Prop} (v:Value) (h:Region.wanted o (yielded ops a.tmps)=true) (hv:(execOp a.eval o).run P w=.ok (.value v) w) (hk:K (a.put o.dst v) w) :
  if Region.wanted o (yielded ops a.tmps)=true then Oper.wp P o a w K Q else K (a.put o.dst undef) w:=by
 rw [if_pos h];simp only [Oper.wp,hv,Oper.upon];exact hk
theorem ly {o:Oper} {a:Act} {w:World} {K:Act→World→Prop} (v:Value) (hk:K (a.put o.dst v) w) (h:Region.wanted o (yielded ops a.tmps)=true:=by exact rfl) (hv:(execOp a.eval o).run P w=.ok (.value v) w:=by go_simp;first|done|with_reducible rfl|assumption) :
  if Region.wanted o (yielded ops a.tmps)=true then Oper.wp P o a w K Q else K (a.put o.dst undef) w:=lin_yield v h hv hk
theorem lc {i:Nat} {o:Oper} {rest:List Nat} (ds us:List Nat)
  (h:∀ L a w,I L a w→L.getD i false=false→AllT L ds→AllF L us→∀ K' : Act→World→Prop,Shut (∀ a' w',I (L.setIfInBounds i true) a' w'→K' a' w') →
   if Region.wanted o (yielded ops a.tmps)=true then Oper.wp P o a w K' Q else K' (a.put o.dst undef) w)
  (hs:∀ j∈rest,LinStep P ops Q I j) (ho:ops[i]?=some o:=by exact rfl) (hds:(ds.all fun d=>(linDeps ops i).contains d)=true:=by kernel_rfl) (hus:(us.all fun j=>(linDeps ops j).contains i)=true:=by kernel_rfl):∀ j∈i::rest,LinStep P ops Q I j:=lin_cons ds us ho hds hus h hs
theorem lin_skip {o:Oper} {a:Act} {w:World} {K:Act→World→Prop} (h:Region.wanted o (yielded ops a.tmps)=false) (hk:K (a.put o.dst undef) w) :
  if Region.wanted o (yielded ops a.tmps)=true then Oper.wp P o a w K Q else K (a.put o.dst undef) w:=by
 rw [if_neg (by rw [h];decide)];exact hk
end
def On (l:Bool):Prop:=l=true
def Off (l:Bool):Prop:=l=false
theorem not_ft {p:Prop} (h:On false):p:=Bool.noConfusion h
theorem not_tf {p:Prop} (h:Off true):p:=Bool.noConfusion h
section
variable {P : Program} {ops : Array Oper} {Q : Exit→Act→World→Prop} {I : Array Bool→Act→World→Prop}
def closedB (ops:Array Oper) (L:Array Bool):Bool:=(List.range ops.size).all fun j=>!(L.getD j false) || (linOn ops j).all fun d=>L.getD d false
def othersB (ops:Array Oper) (n:Nat) (L0:Array Bool) (is:List Nat) (b:Nat):Bool:=(List.range n).all fun i=>is.contains i || L0.getD i false || (linDeps ops i).contains b
def segOk (n:Nat) (L L0:Array Bool) (is:List Nat) (b:Nat):Bool:=L.size == n && !(L.getD b true) && (List.range n).all fun i=>is.contains i || (L.getD i false == L0.getD i false)
theorem closed_of {L:Array Bool} (h:closedB ops L=true) (hs:L.size=ops.size):LinClosed ops L:=by
 intro j hj d hd;have hlt:j<ops.size:=by
  rw [← hs]
  by_cases hj2:j<L.size
  ·exact hj2
  ·simp [Array.getD,hj2] at hj
 have h1:=List.all_eq_true.1 h j (List.mem_range.2 hlt);rw [hj] at h1;simp only [Bool.not_true,Bool.false_or] at h1;exact List.all_eq_true.1 h1 d hd
def BarStep (P:Program) (ops:Array Oper) (Q:Exit→Act→World→Prop) (I:Array Bool→Act→World→Prop) (b:Nat):Prop:=
 ∀ L a w,LinClosed ops L→I L a w→b∈Region.ready .any ops L→wpOp P ops Q b (fun a' w'=>∀ f',unl (L.setIfInBounds b true)=f'→wpAnyH P .any ops Q (fun _=>True) f' (L.setIfInBounds b true) a' w') a w
theorem bar_of {i:Nat} {o:Oper} (ds:List Nat) (ho:ops[i]?=some o) (hds:(ds.all fun d=>(linDeps ops i).contains d)=true)
  (h:∀ L a w,I L a w→AllT L ds→∀ K' : Act→World→Prop,Shut (∀ a' w',(∀ f',unl (L.setIfInBounds i true)=f'→wpAnyH P .any ops Q (fun _=>True) f' (L.setIfInBounds i true) a' w')→K' a' w') →
   if Region.wanted o (yielded ops a.tmps)=true then Oper.wp P o a w K' Q else K' (a.put o.dst undef) w):BarStep P ops Q I i:=by
 intro L a w hc hI hr;obtain ⟨h1,h2⟩:=ready_on hr;have h3:=linDeps_sound hc h2;have h6:AllT L ds:=allT_of fun x hx=>h3 x (by simpa using List.all_eq_true.1 hds x hx);exact wpOp_step ho (fun K' hK=>h L a w hI h6 K' (fun a' w' h=>hK a' w' h))
theorem lin_seg {f:Nat} {L0:Array Bool} {a:Act} {w:World} (n:Nat) (is:List Nat) (b:Nat) (I:Array Bool→Act→World→Prop) (hn:ops.size=n) (hs0:L0.size=n) (hc:closedB ops L0=true) (ho:othersB ops n L0 is b=true) (hf:unl L0=f)
  (h0:I L0 a w) (hI:∀ L a w,I L a w→segOk n L L0 is b=true) (hall:∀ j∈is,j≠b→LinStep P ops Q I j) (ht:linTopo ops=true) (hbar:BarStep P ops Q I b) (hlt:b<n):wpAnyH P .any ops Q (fun _=>True) f L0 a w:=by
 subst hn;have topo:∀ (L:Array Bool) i,i<ops.size→(∀ j,j<i→L.getD j false=true)→∀ d∈linOn ops i,L.getD d false=true:=by
  intro L i hi h d hd
  have:=List.all_eq_true.1 (List.all_eq_true.1 ht i (List.mem_range.2 hi)) d hd
  exact h d (by simpa using this)
 have main:∀ (f:Nat) (L:Array Bool) (a:Act) (w:World),unl L=f→LinClosed ops L→I L a w→wpAnyH P .any ops Q (fun _=>True) f L a w:=by
  intro f
  induction f with
  | zero =>
   intro L a w hu hc hI0;have h1:=hI L a w hI0;simp only [segOk,Bool.and_eq_true,beq_iff_eq] at h1;obtain ⟨⟨h2,h3⟩,h4⟩:=h1
   exfalso
   have h5:L.getD b true=false:=by simpa using h3
   have:=unl_set (i:=b) (by rw [h2];exact hlt) h5
   omega
  | succ f ih =>
   intro L a w hu hc hI0;have h1:=hI L a w hI0;simp only [segOk,Bool.and_eq_true,beq_iff_eq] at h1;obtain ⟨⟨h2,h3⟩,h4⟩:=h1;have h5:L.getD b true=false:=by simpa using h3
   have h5':=(getD_false_of_true h5).1;have hin:∀ i∈Region.ready .any ops L,i∈is:=by
    intro i hi;obtain ⟨g1,g2⟩:=ready_on hi;have g3:=(getD_false_of_true g1).1;have hin2:i<ops.size:=by
     obtain ⟨_,o,ho,_⟩:=mem_ready.1 hi;exact (Array.getElem?_eq_some_iff.1 ho).1
    have g4:=List.all_eq_true.1 h4 i (List.mem_range.2 hin2);have g5:=List.all_eq_true.1 ho i (List.mem_range.2 hin2);simp only [Bool.or_eq_true,beq_iff_eq] at g4 g5
    rcases g4 with g4|g4
    ·simpa using g4
    ·rcases g5 with (g5|g5)|g5
     ·simpa using g5
     ·rw [g3,g5] at g4;cases g4
     ·have:=linDeps_sound hc g2 b (by simpa using g5)
      rw [h5'] at this;cases this
   refine ⟨fun hr=>?_,fun i hi=>?_⟩
   ·exfalso
    have hex:∀ k,k≤ops.size→(∀ i,i<k→L.getD i false=true)∨∃ i,i<k∧L.getD i false=false∧∀ j,j<i→L.getD j false=true:=by
     intro k
     induction k with
     | zero=>intro _;left;intro i h;omega
     | succ k ihk =>
      intro hk
      rcases ihk (by omega) with h|⟨i,q1,q2,q3⟩
      ·cases hx:L.getD k false with
       | true =>
        left;intro i hi'
        by_cases e:i=k
        ·rw [e];exact hx
        ·exact h i (by omega)
       | false=>right;exact ⟨k,by omega,hx,h⟩
      ·right;exact ⟨i,by omega,q2,q3⟩
    rcases hex ops.size (Nat.le_refl _) with h|⟨i,q1,q2,q3⟩
    ·rw [h b hlt] at h5';cases h5'
    ·by_cases ht2:∀ d∈linOn ops i,L.getD d false=true
     ·have hmem:i∈Region.ready .any ops L:=by
       refine mem_ready.2 ⟨?_,ops[i],Array.getElem?_eq_getElem q1,fun e he hb=>ht2 e.on ((linOn_mem (Array.getElem?_eq_getElem q1)).2 ⟨e,he,hb,rfl⟩)⟩;have hlt:i<L.size:=by omega
       simp [Array.getD,hlt] at q2 ⊢;exact q2
      rw [hr] at hmem
      cases hmem
     ·exact ht2 (topo L i q1 q3)
   ·obtain ⟨g1,_⟩:=ready_on hi;have g2:=unl_set (getD_false_of_true g1).2 g1
    by_cases hib:i=b
    ·subst hib;exact wpOp_mono (fun a' w' h=>⟨trivial,h f (by omega)⟩) (hbar L a w hc hI0 hi)
    ·exact wpOp_mono (fun a' w' h=>⟨trivial,ih _ a' w' (by omega) (hc.set hi) h⟩) (hall i (hin i hi) hib L a w hc hI0 hi)
 exact main f L0 a w hf (closed_of hc hs0) h0
theorem region_segs {id n:Nat} {a:Act} {w:World} (L0:Array Bool) (hm:P.follows .mixedOrders=true) (hn:ops.size=n) (hL:Array.replicate n false=L0) (h:∀ f,unl L0=f→wpAnyH P .any ops Q (fun _=>True) f L0 a w.drew):(Code.region id ops true).wp P Q a w:=by
 subst hn;refine wp_region_held hm (S:=fun _=>True) ?_;have h1:unl (Array.replicate ops.size false)=ops.size:=by unfold unl;simp [List.countP_replicate]
 rw [hL] at h1 ⊢;exact h _ h1
theorem seg_cast {f:Nat} {L L' : Array Bool} {a a' : Act} {w:World} (hf:unl L'=f) (hL:L'=L) (ha:a'=a) (h:∀ f,unl L=f→wpAnyH P .any ops Q (fun _=>True) f L a w):wpAnyH P .any ops Q (fun _=>True) f L' a' w:=by
 subst hL;subst ha;exact h f hf
theorem seg_all {b:Nat} (is:List Nat) (h:∀ j∈is,LinStep P ops Q I j):∀ j∈is++[b],j≠b→LinStep P ops Q I j:=fun j hj hb=>by
 rcases List.mem_append.1 hj with h1|h1
 ·exact h j h1
 ·exact absurd (List.mem_singleton.1 h1) hb
theorem bo {i:Nat} {o:Oper} (ds:List Nat)
  (h:∀ L a w,I L a w→AllT L ds→∀ K' : Act→World→Prop,Shut (∀ a' w',(∀ f',unl (L.setIfInBounds i true)=f'→wpAnyH P .any ops Q (fun _=>True) f' (L.setIfInBounds i true) a' w')→K' a' w') →
   if Region.wanted o (yielded ops a.tmps)=true then Oper.wp P o a w K' Q else K' (a.put o.dst undef) w) (ho:ops[i]?=some o:=by exact rfl) (hds:(ds.all fun d=>(linDeps ops i).contains d)=true:=by kernel_rfl):BarStep P ops Q I i:=bar_of ds ho hds h
theorem ls {f:Nat} {L0:Array Bool} {a:Act} {w:World} (n:Nat) (is:List Nat) (b:Nat) (I:Array Bool→Act→World→Prop) (hf:unl L0=f)
  (h0:I L0 a w) (hI:∀ L a w,I L a w→segOk n L L0 is b=true) (hall:∀ j∈is,j≠b→LinStep P ops Q I j) (hbar:BarStep P ops Q I b)
  (hn:ops.size=n:=by kernel_rfl) (hs0:L0.size=n:=by kernel_rfl) (hc:closedB ops L0=true:=by kernel_rfl) (ho:othersB ops n L0 is b=true:=by kernel_rfl) (ht:linTopo ops=true:=by kernel_rfl) (hlt:b<n:=by decide):wpAnyH P .any ops Q (fun _=>True) f L0 a w:=
 lin_seg n is b I hn hs0 hc ho hf h0 hI hall ht hbar hlt
theorem ln {i:Nat} {o:Oper} (ds us:List Nat)
  (h:∀ L a w,I L a w→L.getD i false=false→AllT L ds→AllF L us→∀ K' : Act→World→Prop,Shut (∀ a' w',I (L.setIfInBounds i true) a' w'→K' a' w') →
   if Region.wanted o (yielded ops a.tmps)=true then Oper.wp P o a w K' Q else K' (a.put o.dst undef) w)
  (ho:ops[i]?=some o:=by exact rfl) (hds:(ds.all fun d=>(linDeps ops i).contains d)=true:=by kernel_rfl) (hus:(us.all fun j=>(linDeps ops j).contains i)=true:=by kernel_rfl):∀ j∈i::[],LinStep P ops Q I j:=lin_cons ds us ho hds hus h lin_nil
end
theorem lt_two {l:Bool} {b n:Nat} (h1:Off l→b<n) (h2:On l→b<n):b<n:=by
 cases l
 ·exact h1 rfl
 ·exact h2 rfl
end Go.Proofs.YtemedphcafgolaaGreatDoor
