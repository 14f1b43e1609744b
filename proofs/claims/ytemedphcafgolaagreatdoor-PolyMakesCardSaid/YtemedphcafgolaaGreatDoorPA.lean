/- Layer 1, laid together: PTerm, PProd, PBase, PMFacts, PMem, PVal, PPut, PFit, PTimes0, PHalf, PApp, PChk0, PBlk. -/
import GoSem.Op.String
import Derived.Laws.RangeAny
import Derived.Below
import Derived.Lib.Strings
import Derived.Test.YtemedphcafgolaaGreatDoorHM
import Derived.Test.YtemedphcafgolaaGreatDoorDScale
/- Sums of terms,as lists of products and numbers (package poly): plain facts,of no function. -/
namespace Go.Proofs.YtemedphcafgolaaGreatDoor
open Go.Op
abbrev TD:=List UInt8 × Dyadic
theorem less_irrefl:∀ a:List UInt8,bytesLess a a=false
 | []=>rfl
 | x::a=>by
  unfold bytesLess;rw [less_irrefl a];have h:¬ x<x:=UInt8.lt_irrefl x;simp [h]
theorem less_trans:∀ {a b c:List UInt8},bytesLess a b=true→bytesLess b c=true→bytesLess a c=true
 | _,[],_,h,_=>by cases ‹List UInt8› <;> simp [bytesLess] at h
 | _,_::_,[],_,h=>by simp [bytesLess] at h
 | [],_::_,_::_,_,_=>rfl
 | x::a,y::b,z::c,h1,h2=>by
  simp only [bytesLess,Bool.or_eq_true,Bool.and_eq_true,decide_eq_true_eq,beq_iff_eq] at *
  rcases h1 with h1|⟨rfl,h1⟩
  ·rcases h2 with h2|⟨rfl,h2⟩
   ·exact .inl (UInt8.lt_trans h1 h2)
   ·exact .inl h1
  ·rcases h2 with h2|⟨rfl,h2⟩
   ·exact .inl h2
   ·exact .inr ⟨rfl,less_trans h1 h2⟩
theorem less_total:∀ (a b:List UInt8),bytesLess a b=false→bytesLess b a=false→a=b
 | [],[],_,_=>rfl
 | [],_::_,h,_=>by simp [bytesLess] at h
 | _::_,[],_,h=>by simp [bytesLess] at h
 | x::a,y::b,h1,h2=>by
  simp only [bytesLess,Bool.or_eq_false_iff,Bool.and_eq_false_iff,decide_eq_false_iff_not,beq_eq_false_iff_ne] at *;have e:x=y:=by
   have h3:¬ x.toNat<y.toNat:=h1.1;have h4:¬ y.toNat<x.toNat:=h2.1;exact UInt8.toNat_inj.1 (by omega)
  subst e;rw [less_total a b (h1.2.resolve_left (by simp)) (h2.2.resolve_left (by simp))]
theorem less_ne {a b:List UInt8} (h:bytesLess a b=true):a≠b:=by
 rintro rfl;rw [less_irrefl] at h
 cases h
theorem less_asymm {a b:List UInt8} (h:bytesLess a b=true):bytesLess b a=false:=by
 cases h2:bytesLess b a with
 | false=>rfl
 | true=>exact absurd rfl (less_ne (less_trans h h2))
def coef:List TD→List UInt8→Dyadic
 | [],_=>0
 | x::l,m=>(if x.1=m then x.2 else 0)+coef l m
def Rising (l:List TD):Prop:=l.Pairwise fun x y=>bytesLess x.1 y.1=true
def NoNought (l:List TD):Prop:=∀ x∈l,x.2≠0
theorem coef_app:∀ (a b:List TD) (m:List UInt8),coef (a++b) m=coef a m+coef b m
 | [],b,m=>(Dyadic.zero_add _).symm
 | x::a,b,m=>by
  show _+coef (a++b) m=_+coef a m+_;rw [coef_app a b m,Dyadic.add_assoc]
theorem coef_none:∀ {l:List TD} {m:List UInt8},(∀ x∈l,x.1≠m)→coef l m=0
 | [],_,_=>rfl
 | x::l,m,h=>by
  unfold coef;rw [if_neg (h x List.mem_cons_self),coef_none fun y hy=>h y (List.mem_cons_of_mem _ hy),Dyadic.zero_add]
theorem rising_cons {x:TD} {l:List TD}:Rising (x::l)↔(∀ y∈l,bytesLess x.1 y.1=true)∧Rising l:=List.pairwise_cons
theorem coef_ahead {l:List TD} {m:List UInt8} (h:∀ y∈l,bytesLess m y.1=true):coef l m=0:=coef_none fun x hx e=>less_ne (h x hx) e.symm
theorem coef_first {x:TD} {l:List TD} (h:Rising (x::l)):coef (x::l) x.1=x.2:=by
 unfold coef;rw [if_pos rfl,coef_ahead (rising_cons.1 h).1,Dyadic.add_zero]
theorem rising_one:∀ {a b:List TD},Rising a→Rising b→NoNought a→NoNought b→(∀ m,coef a m=coef b m)→a=b
 | [],[],_,_,_,_,_=>rfl
 | [],y::b,_,hb,_,nb,h=>by
  have h1:=h y.1;rw [coef_first hb] at h1;exact absurd h1.symm (nb y List.mem_cons_self)
 | x::a,[],ha,_,na,_,h=>by
  have h1:=h x.1;rw [coef_first ha] at h1;exact absurd h1 (na x List.mem_cons_self)
 | x::a,y::b,ha,hb,na,nb,h=>by
  have e:x.1=y.1:=by
   cases hl:bytesLess x.1 y.1 with
   | true =>
    exfalso
    have h1:=h x.1;rw [coef_first ha,coef_ahead fun z hz=>by
     rcases List.mem_cons.1 hz with rfl|hz
     ·exact hl
     ·exact less_trans hl ((rising_cons.1 hb).1 z hz)] at h1
    exact na x List.mem_cons_self h1
   | false =>
    cases hr:bytesLess y.1 x.1 with
    | true =>
     exfalso
     have h1:=h y.1;rw [coef_first hb,coef_ahead (l:=x::a) fun z hz=>by
      rcases List.mem_cons.1 hz with rfl|hz
      ·exact hr
      ·exact less_trans hr ((rising_cons.1 ha).1 z hz)] at h1
     exact nb y List.mem_cons_self h1.symm
    | false=>exact less_total _ _ hl hr
  have e2:x.2=y.2:=by
   have h1:=h x.1;rw [coef_first ha] at h1;rw [e,coef_first hb] at h1;exact h1
  obtain rfl:x=y:=Prod.ext e e2;rw [rising_one (rising_cons.1 ha).2 (rising_cons.1 hb).2 (fun z hz=>na z (List.mem_cons_of_mem _ hz)) (fun z hz=>nb z (List.mem_cons_of_mem _ hz)) fun m=>?_]
  by_cases hm:x.1=m
  ·subst hm;rw [coef_ahead (rising_cons.1 ha).1,coef_ahead (rising_cons.1 hb).1]
  ·have h1:=h m;unfold coef at h1;rw [if_neg hm,Dyadic.zero_add,Dyadic.zero_add] at h1;exact h1
def merge2:List TD→List TD→List TD
 | [],b=>b
 | x::a,[]=>x::a
 | x::a,y::b=>if bytesLess x.1 y.1 then x::merge2 a (y::b) else if bytesLess y.1 x.1 then y::merge2 (x::a) b else (x.1,x.2+y.2)::merge2 a b
termination_by a b=>a.length+b.length
theorem merge2_nil (a:List TD):merge2 a []=a:=by
 cases a <;> simp [merge2]
theorem merge2_mem:∀ {a b:List TD} {z:TD},z∈merge2 a b→(∃ x∈a,x.1=z.1)∨(∃ y∈b,y.1=z.1)
 | [],b,z,h=>by
  rw [merge2] at h;exact .inr ⟨z,h,rfl⟩
 | x::a,[],z,h=>by
  rw [merge2] at h;exact .inl ⟨z,h,rfl⟩
 | x::a,y::b,z,h=>by
  rw [merge2] at h
  split at h
  ·rcases List.mem_cons.1 h with rfl|h
   ·exact .inl ⟨_,List.mem_cons_self,rfl⟩
   ·rcases merge2_mem h with ⟨u,hu,e⟩|h
    ·exact .inl ⟨u,List.mem_cons_of_mem _ hu,e⟩
    ·exact .inr h
  ·split at h
   ·rcases List.mem_cons.1 h with rfl|h
    ·exact .inr ⟨_,List.mem_cons_self,rfl⟩
    ·rcases merge2_mem h with h|⟨u,hu,e⟩
     ·exact .inl h
     ·exact .inr ⟨u,List.mem_cons_of_mem _ hu,e⟩
   ·rcases List.mem_cons.1 h with rfl|h
    ·exact .inl ⟨x,List.mem_cons_self,rfl⟩
    ·rcases merge2_mem h with ⟨u,hu,e⟩|⟨u,hu,e⟩
     ·exact .inl ⟨u,List.mem_cons_of_mem _ hu,e⟩
     ·exact .inr ⟨u,List.mem_cons_of_mem _ hu,e⟩
termination_by a b=>a.length+b.length
theorem merge2_coef:∀ (a b:List TD) (m:List UInt8),coef (merge2 a b) m=coef a m+coef b m
 | [],b,m=>by
  rw [merge2];exact (Dyadic.zero_add _).symm
 | x::a,[],m=>by
  rw [merge2];exact (Dyadic.add_zero _).symm
 | x::a,y::b,m=>by
  rw [merge2]
  split
  ·show _+coef (merge2 a (y::b)) m=_;rw [merge2_coef a (y::b) m];show _=_+coef a m+_;rw [Dyadic.add_assoc]
  ·split
   ·show _+coef (merge2 (x::a) b) m=_;rw [merge2_coef (x::a) b m];show _=_+(_+coef b m);rw [← Dyadic.add_assoc,← Dyadic.add_assoc,Dyadic.add_comm (coef (x::a) m)]
   ·rename_i h1 h2
    have e:x.1=y.1:=less_total _ _ (by simpa using h1) (by simpa using h2);show (if x.1=m then x.2+y.2 else 0)+coef (merge2 a b) m=((if x.1=m then x.2 else 0)+coef a m)+((if y.1=m then y.2 else 0)+coef b m);rw [merge2_coef a b m,← e]
    by_cases hm:x.1=m
    ·rw [if_pos hm,if_pos hm,if_pos hm];rw [← Dyadic.toRat_inj];simp only [Dyadic.toRat_add]
     grind
    ·rw [if_neg hm,if_neg hm,if_neg hm,Dyadic.zero_add,Dyadic.zero_add,Dyadic.zero_add]
termination_by a b=>a.length+b.length
theorem merge2_rising:∀ {a b:List TD},Rising a→Rising b→Rising (merge2 a b)
 | [],b,_,hb=>by
  rw [merge2];exact hb
 | x::a,[],ha,_=>by
  rw [merge2];exact ha
 | x::a,y::b,ha,hb=>by
  obtain ⟨a1,a2⟩:=rising_cons.1 ha;obtain ⟨b1,b2⟩:=rising_cons.1 hb;rw [merge2]
  split
  ·rename_i h1
   refine rising_cons.2 ⟨fun z hz=>?_,merge2_rising a2 hb⟩
   rcases merge2_mem hz with ⟨u,hu,e⟩|⟨u,hu,e⟩
   ·rw [← e];exact a1 u hu
   ·rw [← e]
    rcases List.mem_cons.1 hu with rfl|hu
    ·exact h1
    ·exact less_trans h1 (b1 u hu)
  ·split
   ·rename_i h1 h2
    refine rising_cons.2 ⟨fun z hz=>?_,merge2_rising ha b2⟩
    rcases merge2_mem hz with ⟨u,hu,e⟩|⟨u,hu,e⟩
    ·rw [← e]
     rcases List.mem_cons.1 hu with rfl|hu
     ·exact h2
     ·exact less_trans h2 (a1 u hu)
    ·rw [← e];exact b1 u hu
   ·rename_i h1 h2
    have e0:x.1=y.1:=less_total _ _ (by simpa using h1) (by simpa using h2);refine rising_cons.2 ⟨fun z hz=>?_,merge2_rising a2 b2⟩
    rcases merge2_mem hz with ⟨u,hu,e⟩|⟨u,hu,e⟩
    ·rw [← e];exact a1 u hu
    ·rw [← e];show bytesLess x.1 u.1=true;rw [e0];exact b1 u hu
termination_by a b=>a.length+b.length
def dropNought (l:List TD):List TD:=l.filter fun x=>!(x.2 == 0)
theorem drop_coef:∀ (l:List TD) (m:List UInt8),coef (dropNought l) m=coef l m
 | [],_=>rfl
 | x::l,m=>by
  have h:=drop_coef l m;unfold dropNought at *;rw [List.filter_cons]
  split
  ·show _+coef _ m=_+coef l m;rw [h]
  ·rename_i hx
   have hz:x.2=0:=by simpa using hx
   rw [h];show _=(if x.1=m then x.2 else 0)+coef l m;rw [hz]
   split <;> exact (Dyadic.zero_add _).symm
theorem drop_rising {l:List TD} (h:Rising l):Rising (dropNought l):=List.Pairwise.filter _ h
theorem drop_none (l:List TD):NoNought (dropNought l):=fun x hx=>by
 have:=(List.mem_filter.1 hx).2
 simpa using this
def gath:List TD→List TD
 | []=>[]
 | x::l=>merge2 [x] (gath l)
theorem gath_rising:∀ l:List TD,Rising (gath l)
 | []=>List.Pairwise.nil
 | _::l=>merge2_rising (List.pairwise_singleton _ _) (gath_rising l)
theorem gath_coef:∀ (l:List TD) (m:List UInt8),coef (gath l) m=coef l m
 | [],_=>rfl
 | x::l,m=>by
  show coef (merge2 [x] (gath l)) m=_;rw [merge2_coef,gath_coef l m];show (_+0)+_=_+_;rw [Dyadic.add_zero]
def polyOf (l:List TD):List TD:=dropNought (gath l)
theorem polyOf_coef (l:List TD) (m:List UInt8):coef (polyOf l) m=coef l m:=by
 unfold polyOf;rw [drop_coef,gath_coef]
theorem polyOf_rising (l:List TD):Rising (polyOf l):=drop_rising (gath_rising l)
theorem polyOf_none (l:List TD):NoNought (polyOf l):=drop_none _
theorem polyOf_of {l r:List TD} (h1:Rising r) (h2:∀ m,coef r m=coef l m):dropNought r=polyOf l:=
 rising_one (drop_rising h1) (polyOf_rising l) (drop_none _) (polyOf_none l) fun m=>by rw [drop_coef,polyOf_coef,h2]
theorem polyOf_self {l:List TD} (h1:Rising l) (h2:NoNought l):polyOf l=l:=
 rising_one (polyOf_rising l) h1 (polyOf_none l) h2 fun m=>polyOf_coef l m
theorem polyOf_congr {l r:List TD} (h:∀ m,coef l m=coef r m):polyOf l=polyOf r:=
 rising_one (polyOf_rising l) (polyOf_rising r) (polyOf_none l) (polyOf_none r) fun m=>by rw [polyOf_coef,polyOf_coef,h]
def wsum (g:List UInt8→Dyadic):List TD→Dyadic
 | []=>0
 | x::l=>g x.1*x.2+wsum g l
theorem wsum_app (g:List UInt8→Dyadic):∀ (a b:List TD),wsum g (a++b)=wsum g a+wsum g b
 | [],b=>(Dyadic.zero_add _).symm
 | x::a,b=>by
  show _+wsum g (a++b)=_+wsum g a+_;rw [wsum_app g a b,Dyadic.add_assoc]
theorem coef_wsum (m:List UInt8):∀ (l:List TD),coef l m=wsum (fun k=>if k=m then 1 else 0) l
 | []=>rfl
 | x::l=>by
  show (if x.1=m then x.2 else 0)+coef l m=(if x.1=m then 1 else 0)*x.2+wsum _ l;rw [coef_wsum m l]
  split
  ·rw [Dyadic.one_mul]
  ·rw [Dyadic.zero_mul]
theorem wsum_merge (g:List UInt8→Dyadic):∀ (a b:List TD),wsum g (merge2 a b)=wsum g a+wsum g b
 | [],b=>by
  rw [merge2];exact (Dyadic.zero_add _).symm
 | x::a,[]=>by
  rw [merge2];exact (Dyadic.add_zero _).symm
 | x::a,y::b=>by
  rw [merge2]
  split
  ·show _+wsum g (merge2 a (y::b))=_;rw [wsum_merge g a (y::b)];show _=_+wsum g a+_;rw [Dyadic.add_assoc]
  ·split
   ·show _+wsum g (merge2 (x::a) b)=_;rw [wsum_merge g (x::a) b];show _=_+(_+wsum g b);rw [← Dyadic.add_assoc,← Dyadic.add_assoc,Dyadic.add_comm (wsum g (x::a))]
   ·rename_i h1 h2
    have e:x.1=y.1:=less_total _ _ (by simpa using h1) (by simpa using h2);show g x.1*(x.2+y.2)+wsum g (merge2 a b)=(g x.1*x.2+wsum g a)+(g y.1*y.2+wsum g b);rw [wsum_merge g a b,← e]
    grind
termination_by a b=>a.length+b.length
theorem wsum_drop (g:List UInt8→Dyadic):∀ (l:List TD),wsum g (dropNought l)=wsum g l
 | []=>rfl
 | x::l=>by
  have h:=wsum_drop g l;unfold dropNought at *;rw [List.filter_cons]
  split
  ·show _+wsum g _=_+wsum g l;rw [h]
  ·rename_i hx
   have hz:x.2=0:=by simpa using hx
   rw [h];show _=g x.1*x.2+wsum g l;rw [hz,Dyadic.mul_zero,Dyadic.zero_add]
theorem wsum_gath (g:List UInt8→Dyadic):∀ (l:List TD),wsum g (gath l)=wsum g l
 | []=>rfl
 | x::l=>by
  show wsum g (merge2 [x] (gath l))=_;rw [wsum_merge,wsum_gath g l];show (_+0)+_=_+_;rw [Dyadic.add_zero]
theorem wsum_polyOf (g:List UInt8→Dyadic) (l:List TD):wsum g (polyOf l)=wsum g l:=by
 unfold polyOf;rw [wsum_drop,wsum_gath]
theorem wsum_congr {l r:List TD} (h:∀ m,coef l m=coef r m) (g:List UInt8→Dyadic):wsum g l=wsum g r:=by
 rw [← wsum_polyOf g l,← wsum_polyOf g r,polyOf_congr h]
theorem wsum_fun {g h:List UInt8→Dyadic}:∀ {l:List TD},(∀ x∈l,g x.1=h x.1)→wsum g l=wsum h l
 | [],_=>rfl
 | x::l,e=>by
  show _*_+wsum g l=_*_+wsum h l;rw [e x List.mem_cons_self,wsum_fun fun y hy=>e y (List.mem_cons_of_mem _ hy)]
theorem wsum_plus (g h:List UInt8→Dyadic):∀ (l:List TD),wsum (fun k=>g k+h k) l=wsum g l+wsum h l
 | []=>(Dyadic.zero_add _).symm
 | x::l=>by
  show (g x.1+h x.1)*x.2+wsum _ l=(g x.1*x.2+wsum g l)+(h x.1*x.2+wsum h l);rw [wsum_plus g h l]
  grind
theorem wsum_zero:∀ (l:List TD),wsum (fun _=>0) l=0
 | []=>rfl
 | x::l=>by
  show 0*x.2+wsum _ l=0;rw [wsum_zero l,Dyadic.zero_mul,Dyadic.zero_add]
theorem wsum_times (c:Dyadic) (g:List UInt8→Dyadic):∀ (l:List TD),wsum (fun k=>g k*c) l=wsum g l*c
 | []=>(Dyadic.zero_mul _).symm
 | x::l=>by
  show (g x.1*c)*x.2+wsum _ l=(g x.1*x.2+wsum g l)*c;rw [wsum_times c g l]
  grind
section
variable (mulM : List UInt8→List UInt8→List UInt8)
def scaleT (x:TD) (q:List TD):List TD:=q.map fun y=>(mulM x.1 y.1,x.2*y.2)
def prodTD:List TD→List TD→List TD
 | [],_=>[]
 | x::p,q=>scaleT mulM x q++prodTD p q
theorem coef_scale (x:TD) (m:List UInt8):∀ (q:List TD),coef (scaleT mulM x q) m=x.2*wsum (fun k=>if mulM x.1 k=m then 1 else 0) q
 | []=>(Dyadic.mul_zero _).symm
 | y::q=>by
  show (if mulM x.1 y.1=m then x.2*y.2 else 0)+coef (scaleT mulM x q) m=x.2*((if mulM x.1 y.1=m then 1 else 0)*y.2+wsum _ q);rw [coef_scale x m q]
  split <;> grind
theorem coef_prod (m:List UInt8) (q:List TD):∀ (p:List TD),coef (prodTD mulM p q) m=wsum (fun a=>wsum (fun k=>if mulM a k=m then 1 else 0) q) p
 | []=>rfl
 | x::p=>by
  show coef (scaleT mulM x q++prodTD mulM p q) m=wsum _ q*x.2+wsum _ p;rw [coef_app,coef_scale,coef_prod m q p,Dyadic.mul_comm x.2]
theorem prod_congr {p p' q q' : List TD} (hp:∀ m,coef p m=coef p' m) (hq:∀ m,coef q m=coef q' m) (m:List UInt8):coef (prodTD mulM p q) m=coef (prodTD mulM p' q') m:=by
 rw [coef_prod,coef_prod,wsum_congr hp];exact wsum_fun fun x _=>wsum_congr hq _
theorem prod_swap (m:List UInt8):∀ (p q:List TD),wsum (fun a=>wsum (fun k=>if mulM a k=m then 1 else 0) q) p=wsum (fun k=>wsum (fun a=>if mulM a k=m then 1 else 0) p) q
 | [],q=>(wsum_zero q).symm
 | x::p,q=>by
  show wsum _ q*x.2+wsum _ p=wsum (fun k=>(if mulM x.1 k=m then 1 else 0)*x.2+wsum (fun a=>if mulM a k=m then 1 else 0) p) q;rw [prod_swap m p q,wsum_plus,wsum_times]
theorem prod_comm {p q:List TD} (h:∀ x∈p,∀ y∈q,mulM x.1 y.1=mulM y.1 x.1) (m:List UInt8):coef (prodTD mulM p q) m=coef (prodTD mulM q p) m:=by
 rw [coef_prod,coef_prod,prod_swap];exact wsum_fun fun y hy=>wsum_fun fun x hx=>by rw [h x hx y hy]
theorem prod_plus (m:List UInt8) (p q r:List TD):coef (prodTD mulM p (q++r)) m=coef (prodTD mulM p q) m+coef (prodTD mulM p r) m:=by
 rw [coef_prod,coef_prod,coef_prod,← wsum_plus];exact wsum_fun fun x _=>wsum_app _ _ _
end
theorem poly_add_comm (p q:List TD):polyOf (p++q)=polyOf (q++p):=polyOf_congr fun m=>by rw [coef_app,coef_app,Dyadic.add_comm]
theorem poly_add3 (p q r:List TD):polyOf (p++q++r)=polyOf (r++q++p):=polyOf_congr fun m=>by
 rw [coef_app,coef_app,coef_app,coef_app]
 grind
theorem poly_mul_comm (mulM:List UInt8→List UInt8→List UInt8) {p q:List TD} (h:∀ x∈p,∀ y∈q,mulM x.1 y.1=mulM y.1 x.1):polyOf (prodTD mulM p q)=polyOf (prodTD mulM q p):=polyOf_congr fun m=>prod_comm mulM h m
theorem poly_mul_plus (mulM:List UInt8→List UInt8→List UInt8) (p q r:List TD):polyOf (prodTD mulM p (polyOf (q++r)))=polyOf (polyOf (prodTD mulM p q)++polyOf (prodTD mulM p r)):=polyOf_congr fun m=>by
 rw [prod_congr mulM (fun _=>rfl) (polyOf_coef (q++r)) m,prod_plus,coef_app,polyOf_coef,polyOf_coef]
theorem poly_back {p q n:List TD} (hp:Rising p) (hn:NoNought p) (h:∀ m,coef n m=-coef q m):polyOf (polyOf (p++q)++n)=p:=by
 rw [← polyOf_self hp hn];refine polyOf_congr fun m=>?_;rw [coef_app,polyOf_coef,coef_app,h,polyOf_self hp hn]
 grind
open Go.RowKit Go.Lib
theorem Rw.next {w w' : World} {b:Nat} {t:TypeId} {L:List Value} (h:Rw w b t L) (hb:Below w.heap.size w w'):Rw w' b t L:=(hb.block b h.lt).trans h
theorem addr0 (b off i:Nat):(⟨b,off,none⟩:Addr).add i=⟨b,off+i,none⟩:=by unfold Addr.add;split <;> simp_all
def RI (w:World) (ad:Option Addr) (ns:List Int):Prop:=∀ i (h:i<ns.length),∃ b off,ad=some ⟨b,off,none⟩∧b<w.heap.size∧w.cell? ⟨b,off+i,none⟩=some (.int .i64 ns[i])
theorem RI.nil (w:World) (ad:Option Addr):RI w ad []:=fun i h=>by simp at h
theorem RI.next {w w' : World} {ad:Option Addr} {ns:List Int} (h:RI w ad ns) (hb:Below w.heap.size w w'):RI w' ad ns:=fun i hi=>by
 obtain ⟨b,off,e,hl,hc⟩:=h i hi;exact ⟨b,off,e,Nat.lt_of_lt_of_le hl hb.size,(hb.cell (p:=⟨b,off+i,none⟩) hl).trans hc⟩
theorem RI.alloc {w:World} {ad:Option Addr} {ns:List Int} (h:RI w ad ns) (o:Obj):RI (w.alloc o) ad ns:=h.next ((Below.refl _ _).alloc (Nat.le_refl _) o)
theorem RI.drew {w:World} {ad:Option Addr} {ns:List Int} (h:RI w ad ns):RI w.drew ad ns:=h
theorem RI.of_rw {w:World} {b off:Nat} {t:TypeId} {pre post:List Value} {ns:List Int} (h:Rw w b t (pre++ns.map (Value.int .i64)++post)) (ho:pre.length=off):RI w (some ⟨b,off,none⟩) ns:=fun i hi=>by
 refine ⟨b,off,rfl,h.lt,?_⟩;rw [h.cell,← ho,List.append_assoc,List.getElem?_append_right (by omega),Nat.add_sub_cancel_left,List.getElem?_append_left (by simpa using hi)];simp [hi]
def okM (l:List UInt8):Bool:=l.all fun b=>decide (b.toNat<128)
def expsM (l:List UInt8):List Int:=l.map fun b=>(b.toNat:Int)
def sumM (l:List UInt8):Nat:=(l.map UInt8.toNat).sum
def okE (ns:List Int):Bool:=ns.all fun n=>decide (0≤n∧n≤127)
def bytesE (ns:List Int):List UInt8:=ns.map fun n=>UInt8.ofNat n.toNat
def ofS (ns:List Int):ByteArray:=if okE ns then ⟨(bytesE ns).toArray⟩ else ⟨#[]⟩
def ofE (ns:List Int):Int:=if okE ns then 0 else 3
theorem okM_bad {l:List UInt8} {k:Nat} (hk:k<l.length) (h:128≤l[k].toNat):okM l=false:=by
 unfold okM;rw [List.all_eq_false];exact ⟨l[k],List.getElem_mem hk,by simp;omega⟩
theorem okM_good {l:List UInt8} (h:∀ j (hj:j<l.length),l[j].toNat<128):okM l=true:=by
 unfold okM;rw [List.all_eq_true];intro x hx;obtain ⟨j,hj,rfl⟩:=List.getElem_of_mem hx;exact decide_eq_true (h j hj)
theorem okM_get {l:List UInt8} (h:okM l=true) {k:Nat} (hk:k<l.length):l[k].toNat<128:=by
 unfold okM at h;rw [List.all_eq_true] at h;exact of_decide_eq_true (h _ (List.getElem_mem hk))
theorem okE_bad {l:List Int} {k:Nat} (hk:k<l.length) (h:¬ (0≤l[k]∧l[k]≤127)):okE l=false:=by
 unfold okE;rw [List.all_eq_false];exact ⟨l[k],List.getElem_mem hk,by simp;omega⟩
theorem okE_good {l:List Int} (h:∀ j (hj:j<l.length),0≤l[j]∧l[j]≤127):okE l=true:=by
 unfold okE;rw [List.all_eq_true];intro x hx;obtain ⟨j,hj,rfl⟩:=List.getElem_of_mem hx;exact decide_eq_true (h j hj)
theorem okE_get {l:List Int} (h:okE l=true) {k:Nat} (hk:k<l.length):0≤l[k]∧l[k]≤127:=by
 unfold okE at h;rw [List.all_eq_true] at h;exact of_decide_eq_true (h _ (List.getElem_mem hk))
theorem sumM_take {l:List UInt8} {k:Nat} (hk:k<l.length):sumM (l.take (k+1))=sumM (l.take k)+l[k].toNat:=by
 unfold sumM;rw [List.take_succ_eq_append_getElem hk,List.map_append,List.sum_append];simp
theorem sumM_le (l:List UInt8):sumM l≤255*l.length:=by
 unfold sumM
 induction l with
 | nil=>simp
 | cons x l ih =>
  have:=x.toNat_lt
  simp only [List.map_cons,List.sum_cons,List.length_cons];omega
theorem bytesE_take {l:List Int} {k:Nat} (hk:k<l.length):bytesE (l.take (k+1))=bytesE (l.take k)++[UInt8.ofNat l[k].toNat]:=by
 unfold bytesE;rw [List.take_succ_eq_append_getElem hk,List.map_append];rfl
def OV (B:Nat) (w:World) (v:Value) (vs:List Value):Prop:=
 (v=.slice none 0 0∧vs=[])∨∃ g cap T L,v=.slice (some ⟨g,0,none⟩) vs.length cap∧B≤g∧Rw w g T L∧vs.length≤cap∧cap=L.length∧cap≤maxLen∧L.take vs.length=vs
theorem OV.nil (B:Nat) (w:World):OV B w (.slice none 0 0) []:=.inl ⟨rfl,rfl⟩
theorem OV.of_rw {B:Nat} {w:World} {g cap:Nat} {T:TypeId} {L:List Value} (h:Rw w g T L) (hB:B≤g) (hc:L.length=cap) (hm:cap≤maxLen):OV B w (.slice (some ⟨g,0,none⟩) 0 cap) []:=
 .inr ⟨g,cap,T,L,rfl,hB,h,Nat.zero_le _,hc.symm,hm,by simp⟩
theorem OV.grown {B:Nat} {w w' : World} {v:Value} {vs:List Value} {row:Option Nat} (h:OV B w v vs) (hg:w.grownBy w' row) (hne:∀ g,v.ownBlock=some g→some g≠row):OV B w' v vs:=by
 rcases h with h|⟨g,cap,T,L,rfl,hB,hR,r⟩
 ·exact .inl h
 ·exact .inr ⟨g,cap,T,L,rfl,hB,hR.grown hg (hne g rfl),r⟩
theorem OV.next {B:Nat} {w w' : World} {v:Value} {vs:List Value} (h:OV B w v vs) (hb:Below w.heap.size w w'):OV B w' v vs:=by
 rcases h with h|⟨g,cap,T,L,rfl,hB,hR,r⟩
 ·exact .inl h
 ·exact .inr ⟨g,cap,T,L,rfl,hB,hR.next hb,r⟩
theorem OV.alloc {B:Nat} {w:World} {v:Value} {vs:List Value} (h:OV B w v vs) (o:Obj):OV B (w.alloc o) v vs:=h.next ((Below.refl _ _).alloc (Nat.le_refl _) o)
theorem OV.lt {B:Nat} {w:World} {v:Value} {vs:List Value} (h:OV B w v vs) {g:Nat} (e:v.ownBlock=some g):B≤g∧g<w.heap.size:=by
 rcases h with ⟨rfl,_⟩|⟨g',cap,T,L,rfl,hB,hR,_⟩
 ·cases e
 ·simp only [Value.ownBlock,Option.some.injEq] at e;subst e;exact ⟨hB,hR.lt⟩
theorem OV.cells {B:Nat} {w:World} {v:Value} {vs:List Value} (h:OV B w v vs):∃ ad c,v=.slice ad vs.length c∧∀ i (hi:i<vs.length),∃ b off,ad=some ⟨b,off,none⟩∧b<w.heap.size∧w.cell? ⟨b,off+i,none⟩=some vs[i]:=by
 rcases h with ⟨rfl,rfl⟩|⟨g,cap,T,L,rfl,hB,hR,h1,h2,h3,h4⟩
 ·exact ⟨none,0,rfl,fun i hi=>by simp at hi⟩
 ·refine ⟨_,_,rfl,fun i hi=>⟨g,0,rfl,hR.lt,?_⟩⟩;rw [Nat.zero_add,hR.cell]
  have:(L.take vs.length)[i]?=vs[i]?:=by rw [h4]
  rw [List.getElem?_take_of_lt hi] at this;rw [this,List.getElem?_eq_getElem hi]
theorem OV.ri {B:Nat} {w:World} {v:Value} {ns:List Int} (h:OV B w v (ns.map (Value.int .i64))):∃ ad c,v=.slice ad ns.length c∧RI w ad ns:=by
 obtain ⟨ad,c,hv,hc⟩:=h.cells;refine ⟨ad,c,by rw [hv,List.length_map],fun i hi=>?_⟩;obtain ⟨b,off,e,hl,hcc⟩:=hc i (by simpa using hi);exact ⟨b,off,e,hl,by rw [hcc,List.getElem_map]⟩
theorem run_append_one (B:Nat) (tr te ty:TypeId) (i:TypeInfo) (z:Value) (hu:Tryz.prog.underlying tr=some (.slice te)) (hi:Tryz.prog.info? te=some i) (hz:i.zero=some z) (hs:i.size=1) (hby:i.bytes≤16) (hzs:z.cells.size=1)
  (w:World) (v:Value) (vs:List Value) (h:OV B w v vs) (a:Addr) (x:Value) (c:Nat) (hx:w.cell? a=some x) (hx1:x.oneCell'=true) (hmax:vs.length≤1000000000000) (hB:B≤w.heap.size) :
  ∃ v' w',(Builtin.append_ #[tr,tr] ty #[v,.slice (some a) 1 c]).run Tryz.prog w=.ok v' w'∧OV B w' v' (vs++[x])∧w.grownBy w' v.ownBlock∧∀ g,v'.ownBlock=some g→v.ownBlock=some g∨w.heap.size≤g:=by
 have h1c:∀ u∈[x],u.oneCell'=true:=by intro u hu;simp at hu;subst hu;exact hx1
 have ha0:a.add 0=a:=by unfold Addr.add;split <;> simp_all
 have hxs:∀ j u,[x][j]?=some u→w.cell? (a.add j)=some u:=by
  intro j u hj
  match j,hj with
  | 0,hj=>simp at hj;subst hj;rw [ha0];exact hx
 rcases h with ⟨rfl,rfl⟩|⟨g,cap,T,L,rfl,hBg,hR,h1,h2,h3,h4⟩
 ·obtain ⟨v',w',hr,hown,hg,_⟩:=run_append_own (P:=Tryz.prog) w w.heap.size tr ty te i z 1 i.bytes hu hi hz hs rfl hzs (by omega) (.slice none 0 0) 0 [] ⟨rfl,.inl ⟨rfl,rfl⟩⟩ a 1 c [x] rfl hxs h1c (by unfold maxLen;omega) (by omega) (Nat.le_refl _)
  rcases hown.2 with ⟨_,hn⟩|⟨g,cap,cur,hv,hBg,hgc,hn,hcm,hcs,ht⟩
  ·omega
  ·refine ⟨v',w',hr,?_,hg,fun g' e=>.inr (by rw [hv] at e;simp only [Value.ownBlock,Option.some.injEq] at e;omega)⟩;refine .inr ⟨g,cap,te,cur.toList,by simpa using hv,Nat.le_trans hB hBg,hgc,by simpa using hn,by rw [Array.length_toList,hcs];omega,hcm,by simpa using ht⟩
 ·by_cases hroom:vs.length+1≤cap
  ·have hf:=run_firstCells_some (P:=Tryz.prog) w i.size 1 a 1 c [x] (by simp [hs]) hxs;have hst:=run_storeCells_at Tryz.prog g (vs.length*i.size) T [x] 0 L.toArray w hR (by simp [hs];omega) h1c;simp only [Nat.add_zero] at hst;refine ⟨.slice (some ⟨g,0,none⟩) (vs.length+1) cap,w.setRow g (L.take vs.length++[x]++L.drop (vs.length+1)).toArray,?_,.inr ⟨g,cap,T,L.take vs.length++[x]++L.drop (vs.length+1),by simp,hBg,?_,by simpa using hroom,?_,h3,?_⟩,?_⟩
   ·rw [hs,Nat.mul_one] at hst;simp only [hs] at hf;simp [Builtin.append_,run_underlying hu,sizeOf,typeInfo,hi,Builtin.lenOf,hroom,hs,hf,Addr.add_lit,hst]
   ·exact setRow_heap w g L.toArray _ T _ hR
   ·simp;omega
   ·rw [List.length_append,List.length_singleton,List.take_left' (by rw [List.length_append,List.length_take,List.length_singleton];omega),h4]
   ·exact ⟨⟨rfl,rfl,rfl,by simp,fun k _ hk=>setRow_other w g k _ (fun e=>hk (by rw [e];rfl))⟩,fun g' e=>.inl e⟩
  ·have hcap:cap=vs.length:=by omega
   have hold:∀ j u,vs[j]?=some u→w.cell? ((⟨g,0,none⟩:Addr).add j)=some u:=by
    intro j u hj;rw [addr0,Nat.zero_add,hR.cell,← hj,← h4,List.getElem?_take_of_lt]
    ·have:=(List.getElem?_eq_some_iff.1 hj).1
     simpa using this
   have hr:=run_append_grow (P:=Tryz.prog) w tr ty te i _ hu hi hz ⟨g,0,none⟩ vs.length cap vs (by rw [hs,Nat.mul_one]) hold a 1 c [x] (by simp [hs]) hxs (by omega) (by omega) (growslice_fits (by omega) (Nat.le_trans (Nat.mul_le_mul_left _ hby) (by omega)));have hZs:=size_zeroCells z.cells (grownCap w (vs.length+1) cap te-(vs.length+1));have hge:=grownCap_ge w (vs.length+1) cap te;have hle:=grownCap_le_maxLen w (vs.length+1) cap te (by unfold maxLen;omega);rw [hzs,Nat.mul_one] at hZs;generalize Builtin.zeroCells z.cells (grownCap w (vs.length+1) cap te-(vs.length+1))=Z at hr hZs;generalize grownCap w (vs.length+1) cap te=G at *;have hL:vs.toArray++[x].toArray++Z=(vs++[x]++Z.toList).toArray:=by
    apply Array.ext';simp
   rw [hL] at hr;refine ⟨_,_,hr,.inr ⟨_,_,te,vs++[x]++Z.toList,by simp,?_,heap_alloc_new w.drew _,?_,?_,hle,?_⟩,⟨⟨rfl,rfl,rfl,by simp,fun k hk _=>Below.heap_alloc w.drew _ k hk⟩,fun g' e=>.inr (by simp only [Value.ownBlock,Option.some.injEq] at e;omega)⟩⟩
   ·exact hB
   ·rw [List.length_append,List.length_singleton];exact hge
   ·have hz' : Z.toList.length=Z.size:=Array.length_toList;rw [List.length_append,List.length_append,List.length_singleton,hz'];omega
   ·rw [List.length_append,List.length_singleton,List.take_left' (by simp)]
theorem wpList_append_one (B:Nat) {tr te:TypeId} {i:TypeInfo} {z:Value} (hu:Tryz.prog.underlying tr=some (.slice te)) (hi:Tryz.prog.info? te=some i) (hz:i.zero=some z) (hsz:i.size=1) (hby:i.bytes≤16) (hzs:z.cells.size=1)
  {w:World} {ops:Array Oper} {rest:List Oper} {o:Oper} {a:Act} {Q:Exit→Act→World→Prop} (hgd:o.guard=none) (s y:Operand)
  (ho:o.op=.call { callee:=.builtin .append,args:=#[s,y],argTypes:=#[tr,tr] })
  (v:Value) (vs:List Value) (hs:a.eval s=v) (h:OV B w v vs) (b:Addr) (x:Value) (c:Nat) (hy:a.eval y=.slice (some b) 1 c)
  (hx:w.cell? b=some x) (hx1:x.oneCell'=true) (hmax:vs.length≤1000000000000) (hB:B≤w.heap.size)
  (hk:∀ v' w',OV B w' v' (vs++[x])→w.grownBy w' v.ownBlock→(∀ g,v'.ownBlock=some g→v.ownBlock=some g∨w.heap.size≤g)→wpList Tryz.prog ops Q rest (a.put o.dst v') w'):wpList Tryz.prog ops Q (o::rest) a w:=by
 refine wpList_plain hgd fun K hK=>?_;obtain ⟨v',w',hr,h2,h3,h4⟩:=run_append_one B tr te o.type i z hu hi hz hsz hby hzs w v vs h b x c hx hx1 hmax hB;unfold Oper.wp execOp;simp only [ho,resolve,invoke,builtin,Sem.run_bind,Sem.run_pure,Result.andThen_ok,List.map_toArray,List.map_cons,List.map_nil,hs,hy,hr];exact hK _ _ (hk v' w' h2 h3 h4)
theorem step_append_one (B:Nat) {tr te:TypeId} {i:TypeInfo} {z:Value} (hu:Tryz.prog.underlying tr=some (.slice te)) (hi:Tryz.prog.info? te=some i) (hz:i.zero=some z) (hsz:i.size=1) (hby:i.bytes≤16) (hzs:z.cells.size=1)
  {w:World} {ops:Array Oper} {o:Oper} {a:Act} {K:Act→World→Prop} {Q:Exit→Act→World→Prop} {E:Prop} (hgd:o.guard=none) (s y:Operand)
  (ho:o.op=.call { callee:=.builtin .append,args:=#[s,y],argTypes:=#[tr,tr] })
  (v:Value) (vs:List Value) (hs:a.eval s=v) (h:OV B w v vs) (b:Addr) (x:Value) (c:Nat) (hy:a.eval y=.slice (some b) 1 c)
  (hx:w.cell? b=some x) (hx1:x.oneCell'=true) (hmax:vs.length≤1000000000000) (hB:B≤w.heap.size)
  (hk:∀ v' w',OV B w' v' (vs++[x])→w.grownBy w' v.ownBlock→(∀ g,v'.ownBlock=some g→v.ownBlock=some g∨w.heap.size≤g)→K (a.put o.dst v') w') :
  if Region.wanted o (yielded ops a.tmps)=true then Oper.wp Tryz.prog o a w K Q else E:=by
 have hw:Region.wanted o (yielded ops a.tmps)=true:=by simp [Region.wanted,hgd]
 rw [if_pos hw];obtain ⟨v',w',hr,h2,h3,h4⟩:=run_append_one B tr te o.type i z hu hi hz hsz hby hzs w v vs h b x c hx hx1 hmax hB;unfold Oper.wp execOp;simp only [ho,resolve,invoke,builtin,Sem.run_bind,Sem.run_pure,Result.andThen_ok,List.map_toArray,List.map_cons,List.map_nil,hs,hy,hr];exact hk v' w' h2 h3 h4
theorem infoStr:(Tryz.prog.info? 9).map (fun i=>(i.zero,i.size,i.bytes))=some (some (.string ⟨#[]⟩),1,16):=by kernel_rfl
def RS (w:World) (ad:Option Addr) (L:List ByteArray):Prop:=∀ i (h:i<L.length),∃ b off,ad=some ⟨b,off,none⟩∧b<w.heap.size∧w.cell? ⟨b,off+i,none⟩=some (.string L[i])
theorem RS.nil (w:World) (ad:Option Addr):RS w ad []:=fun i h=>by simp at h
theorem RS.next {w w' : World} {ad:Option Addr} {L:List ByteArray} (h:RS w ad L) (hb:Below w.heap.size w w'):RS w' ad L:=fun i hi=>by
 obtain ⟨b,off,e,hl,hc⟩:=h i hi;exact ⟨b,off,e,Nat.lt_of_lt_of_le hl hb.size,(hb.cell (p:=⟨b,off+i,none⟩) hl).trans hc⟩
theorem OV.rs {B:Nat} {w:World} {v:Value} {L:List ByteArray} (h:OV B w v (L.map Value.string)):∃ ad c,v=.slice ad L.length c∧RS w ad L:=by
 obtain ⟨ad,c,hv,hc⟩:=h.cells;refine ⟨ad,c,by rw [hv,List.length_map],fun i hi=>?_⟩;obtain ⟨b,off,e,hl,hcc⟩:=hc i (by simpa using hi);exact ⟨b,off,e,hl,by rw [hcc,List.getElem_map]⟩
def RetS (L:List ByteArray) (w:World):Ending→World→Prop:=fun e w'=>∃ ad c,e=.returned (.slice ad L.length c)∧RS w' ad L∧Below w.heap.size w w'
theorem make_strs (n:Nat) (hmax:n≤200000000000):∀ w:World,
  (Instr.makeSlice 155 (.int .i64 0) (.int .i64 n)).run Tryz.prog w=.ok (.slice (some ⟨w.heap.size,0,none⟩) 0 n) (w.alloc (.cells (Array.replicate n (Value.string ⟨#[]⟩)) 9)):=by
 intro w;obtain ⟨i,hi,hz,hs,hb⟩:=info_parts infoStr;have h:=run_make (P:=Tryz.prog) w 155 9 i _ Tryz.underlying155 hi hz .i64 .i64 (0:Int) (n:Int) (by omega) (by omega) (by rw [hb];omega) (by omega);rw [h,hs];simp only [Int.toNat_natCast,Nat.mul_one];have e:madeCells (Value.cells (.string ⟨#[]⟩)) n=Array.replicate n (Value.string ⟨#[]⟩):=by
  apply Array.toList_inj.1
  rw [show Value.cells (.string ⟨#[]⟩)=#[.string ⟨#[]⟩] from rfl,toList_madeCells_one,Array.toList_replicate]
 rw [e];rfl
def nthR:List Nat→Nat→List Nat
 | [],_=>[]
 | d::ds,k=>(k % (d+1))::nthR ds (k / (d+1))
def nthT (ds:List Nat) (k:Nat):List Nat:=(nthR ds.reverse k).reverse
def prodT:List Nat→Nat
 | []=>1
 | d::ds=>(d+1)*prodT ds
def stepR:List Nat→List Nat→List Nat
 | d::ds,x::xs=>if x<d then (x+1)::xs else 0::stepR ds xs
 | _,_=>[]
theorem nthR_length:∀ (ds:List Nat) (k:Nat),(nthR ds k).length=ds.length
 | [],_=>rfl
 | d::ds,k=>by simp [nthR,nthR_length ds]
theorem nthT_length (ds:List Nat) (k:Nat):(nthT ds k).length=ds.length:=by simp [nthT,nthR_length]
theorem stepR_nthR:∀ (ds:List Nat) (k:Nat),stepR ds (nthR ds k)=nthR ds (k+1)
 | [],_=>rfl
 | d::ds,k=>by
  have hlt:k % (d+1)<d+1:=Nat.mod_lt k (Nat.succ_pos d)
  by_cases h:k % (d+1)<d
  ·have h1:(k+1) % (d+1)=k % (d+1)+1:=by
    conv=>lhs;rw [← Nat.div_add_mod k (d+1),Nat.add_assoc,Nat.mul_add_mod]
    exact Nat.mod_eq_of_lt (by omega)
   have h2:(k+1) / (d+1)=k / (d+1):=by
    have e1:=Nat.div_add_mod k (d+1);refine Nat.div_eq_of_lt_le ?_ ?_
    ·rw [Nat.mul_comm];omega
    ·rw [Nat.add_mul,Nat.mul_comm];omega
   simp only [nthR,stepR,if_pos h,h1,h2]
  ·have h0:k % (d+1)=d:=by omega
   have e1:=Nat.div_add_mod k (d+1);have e2:k+1=(d+1)*(k / (d+1)+1):=by rw [Nat.mul_add];omega
   have h1:(k+1) % (d+1)=0:=by rw [e2];exact Nat.mul_mod_right _ _
   have h2:(k+1) / (d+1)=k / (d+1)+1:=by
    conv=>lhs;rw [e2]
    exact Nat.mul_div_cancel_left _ (Nat.succ_pos d)
   simp only [nthR,stepR,if_neg h,h1,h2,stepR_nthR ds]
theorem nthR_le:∀ (ds:List Nat) (k i:Nat) (h:i<(nthR ds k).length),(nthR ds k)[i]≤ds[i]'(by rw [nthR_length] at h;exact h)
 | [],_,_,h=>by simp [nthR] at h
 | d::ds,k,0,_=>by
  have hlt:k % (d+1)<d+1:=Nat.mod_lt k (Nat.succ_pos d);simp [nthR];omega
 | d::ds,k,i+1,h=>by
  have:=nthR_le ds (k / (d+1)) i (by simp [nthR] at h;exact h)
  simpa [nthR] using this
theorem nthR_zero:∀ ds:List Nat,nthR ds 0=List.replicate ds.length 0
 | []=>rfl
 | d::ds=>by simp [nthR,nthR_zero ds,List.replicate_succ]
theorem nthT_zero (ds:List Nat):nthT ds 0=List.replicate ds.length 0:=by simp [nthT,nthR_zero]
theorem nthT_snoc (ds:List Nat) (d j:Nat):nthT (ds++[d]) j=nthT ds (j / (d+1))++[j % (d+1)]:=by simp [nthT,nthR]
theorem prodT_snoc (ds:List Nat) (d:Nat):prodT (ds++[d])=prodT ds*(d+1):=by
 induction ds with
 | nil=>simp [prodT]
 | cons x ds ih=>simp only [List.cons_append,prodT,ih,Nat.mul_assoc]
theorem prodT_pos:∀ ds:List Nat,0<prodT ds
 | []=>Nat.one_pos
 | d::ds=>Nat.mul_pos (Nat.succ_pos d) (prodT_pos ds)
theorem prodT_append (ds es:List Nat):prodT (ds++es)=prodT ds*prodT es:=by
 induction ds with
 | nil=>simp [prodT]
 | cons x ds ih=>simp only [List.cons_append,prodT,ih,Nat.mul_assoc]
theorem prodT_take_le (ds:List Nat) (k:Nat):prodT (ds.take k)≤prodT ds:=by
 conv=>rhs;rw [← List.take_append_drop k ds,prodT_append]
 exact Nat.le_mul_of_pos_right _ (prodT_pos _)
theorem nthT_le (ds:List Nat) (k i:Nat) (h:i<ds.length):(nthT ds k)[i]'(by rw [nthT_length];exact h)≤ds[i]:=by
 have h2:ds.length-1-i<(nthR ds.reverse k).length:=by rw [nthR_length,List.length_reverse];omega
 have:=nthR_le ds.reverse k (ds.length-1-i) h2
 simp only [nthT,List.getElem_reverse,nthR_length,List.length_reverse];rw [List.getElem_reverse] at this;simpa [show ds.length-1-(ds.length-1-i)=i by omega] using this
def strT (l:List Nat):ByteArray:=⟨(l.map UInt8.ofNat).toArray⟩
def allL (ns:List Int):List ByteArray:=if okE ns && decide (prodT (ns.map Int.toNat)≤65536) then (List.range (prodT (ns.map Int.toNat))).map fun k=>strT (nthT (ns.map Int.toNat) k) else []
theorem take_rev {l:List Nat} {k:Nat} (h:k<l.length):(l.take (k+1)).reverse=l[k]::(l.take k).reverse:=by
 rw [List.take_succ_eq_append_getElem h,List.reverse_append];rfl
def StepI (ds xs:List Nat) (k:Nat):Prop:=stepR ds.reverse xs.reverse=List.replicate (xs.length-k) 0++stepR (ds.take k).reverse (xs.take k).reverse
theorem StepI.start {ds xs:List Nat} (h:ds.length=xs.length):StepI ds xs xs.length:=by
 unfold StepI;rw [Nat.sub_self,List.take_of_length_le (by omega),List.take_of_length_le (by omega)];rfl
theorem StepI.less {ds xs:List Nat} {k:Nat} (h:StepI ds xs (k+1)) (hd:k<ds.length) (hx:k<xs.length) (hl:xs[k]<ds[k]) :
  (stepR ds.reverse xs.reverse).reverse=xs.take k++(xs[k]+1)::List.replicate (xs.length-(k+1)) 0:=by
 unfold StepI at h;rw [h,take_rev hd,take_rev hx,stepR,if_pos hl];simp
theorem StepI.more {ds xs:List Nat} {k:Nat} (h:StepI ds xs (k+1)) (hd:k<ds.length) (hx:k<xs.length) (hl:¬ xs[k]<ds[k]):StepI ds xs k:=by
 unfold StepI at h ⊢;rw [h,take_rev hd,take_rev hx,stepR,if_neg hl,show xs.length-k=(xs.length-(k+1))+1 by omega,List.replicate_succ'];simp
theorem StepI.all {ds xs:List Nat} (h:StepI ds xs 0):(stepR ds.reverse xs.reverse).reverse=List.replicate xs.length 0:=by
 unfold StepI at h;rw [h];simp [stepR]
theorem step_nth (ds:List Nat) (k:Nat):(stepR ds.reverse (nthT ds k).reverse).reverse=nthT ds (k+1):=by
 unfold nthT;rw [List.reverse_reverse,stepR_nthR]
def addL:List UInt8→List UInt8→List UInt8
 | a::x,b::y=>UInt8.ofNat (a.toNat+b.toNat)::addL x y
 | _,_=>[]
theorem u8_lt {a b:UInt8}:a<b↔a.toNat<b.toNat:=Iff.rfl
theorem ofNat_toNat' {n:Nat} (h:n<256):(UInt8.ofNat n).toNat=n:=by rw [UInt8.toNat_ofNat'];exact Nat.mod_eq_of_lt h
theorem u8_beq (a b:UInt8):(a == b)=decide (a.toNat=b.toNat):=by
 rw [Bool.eq_iff_iff,beq_iff_eq,decide_eq_true_eq];exact UInt8.toNat_inj.symm
theorem less_add:∀ (a b c:List UInt8),a.length=c.length→b.length=c.length→okM a=true→okM b=true→okM c=true→Op.bytesLess (addL a c) (addL b c)=Op.bytesLess a b
 | [],[],[],_,_,_,_,_=>rfl
 | [],_::_,[],_,h,_,_,_=>by simp at h
 | _::_,_,[],h,_,_,_,_=>by simp at h
 | [],_,_::_,h,_,_,_,_=>by simp at h
 | _::_,[],_::_,_,h,_,_,_=>by simp at h
 | x::a,y::b,z::c,h1,h2,ha,hb,hc=>by
  simp only [okM,List.all_cons,Bool.and_eq_true,decide_eq_true_eq] at ha hb hc;have ih:=less_add a b c (by simpa using h1) (by simpa using h2) ha.2 hb.2 hc.2;simp only [addL,Op.bytesLess,ih];have e1:(UInt8.ofNat (x.toNat+z.toNat)).toNat=x.toNat+z.toNat:=ofNat_toNat' (by omega);have e2:(UInt8.ofNat (y.toNat+z.toNat)).toNat=y.toNat+z.toNat:=ofNat_toNat' (by omega);rw [u8_beq,u8_beq,e1,e2];have e3:decide (UInt8.ofNat (x.toNat+z.toNat)<UInt8.ofNat (y.toNat+z.toNat))=decide (x<y):=by
   rw [decide_eq_decide,u8_lt,u8_lt,e1,e2];omega
  have e4:decide (x.toNat+z.toNat=y.toNat+z.toNat)=decide (x.toNat=y.toNat):=by rw [decide_eq_decide];omega
  rw [e3,e4]
theorem less_snoc:∀ (a b:List UInt8) (x y:UInt8),a.length=b.length→Op.bytesLess (a++[x]) (b++[y])=(Op.bytesLess a b || (a == b && decide (x<y)))
 | [],[],x,y,_=>by simp [Op.bytesLess]
 | u::a,v::b,x,y,h=>by
  have ih:=less_snoc a b x y (by simpa using h);simp only [List.cons_append,Op.bytesLess,ih,List.cons_beq_cons]
  cases decide (u<v) <;> cases (u == v) <;> simp
theorem nthT_bytes (ds:List Nat) (k:Nat) (h:∀ d∈ds,d≤127):∀ x∈nthT ds k,x<256:=by
 intro x hx;obtain ⟨i,hi,rfl⟩:=List.getElem_of_mem hx;rw [nthT_length] at hi
 have:=nthT_le ds k i hi
 have:=h _ (List.getElem_mem hi)
 omega
open Go.RowKit Go.Shelf Go.Lib
abbrev TV:=ByteArray × NV
def tcells:List TV→List Value
 | []=>[]
 | x::l=>.string x.1::.bool x.2.1::.string x.2.2.1::.int .i64 x.2.2.2::tcells l
theorem tcells_app:∀ (l m:List TV),tcells (l++m)=tcells l++tcells m
 | [],m=>rfl
 | x::l,m=>by
  show Value.string x.1::Value.bool x.2.1::Value.string x.2.2.1::Value.int .i64 x.2.2.2::tcells (l++m)=_;rw [tcells_app l m];rfl
theorem tcells_len:∀ (l:List TV),(tcells l).length=l.length*4
 | []=>rfl
 | x::l=>by
  show (tcells l).length+1+1+1+1=(l.length+1)*4;rw [tcells_len l];omega
theorem tcells_one:∀ (l:List TV),∀ u∈tcells l,u.oneCell'=true
 | [],_,h=>by cases h
 | x::l,u,h=>by
  rcases List.mem_cons.1 h with rfl|h
  ·rfl
  rcases List.mem_cons.1 h with rfl|h
  ·rfl
  rcases List.mem_cons.1 h with rfl|h
  ·rfl
  rcases List.mem_cons.1 h with rfl|h
  ·rfl
  exact tcells_one l u h
theorem tcells_get:∀ (l:List TV) (i:Nat) (h:i<l.length),(tcells l)[i*4]?=some (.string l[i].1)∧(tcells l)[i*4+1]?=some (.bool l[i].2.1)∧(tcells l)[i*4+2]?=some (.string l[i].2.2.1)∧(tcells l)[i*4+3]?=some (.int .i64 l[i].2.2.2)
 | [],i,h=>by simp at h
 | x::l,0,h=>⟨rfl,rfl,rfl,rfl⟩
 | x::l,i+1,h=>by
  have:=tcells_get l i (by simpa using h)
  rw [show (i+1)*4=i*4+1+1+1+1 by omega];exact this
def TAt (w:World) (ad:Option Addr) (l:List TV):Prop:=∀ i (h:i<l.length),∃ lb lo,ad=some ⟨lb,lo,none⟩∧lb<w.heap.size ∧
 w.cell? ⟨lb,lo+i*4,none⟩=some (.string l[i].1)∧w.cell? ⟨lb,lo+i*4+1,none⟩=some (.bool l[i].2.1)∧w.cell? ⟨lb,lo+i*4+2,none⟩=some (.string l[i].2.2.1)∧w.cell? ⟨lb,lo+i*4+3,none⟩=some (.int .i64 l[i].2.2.2)
theorem TAt.below {w w' : World} {ad:Option Addr} {l:List TV} (h:TAt w ad l) (hb:Below w.heap.size w w'):TAt w' ad l:=by
 intro i hi;obtain ⟨lb,lo,e,hl,h1,h2,h3,h4⟩:=h i hi;have hsz:=hb.size;exact ⟨lb,lo,e,by omega,by rw [hb.cell hl];exact h1,by rw [hb.cell hl];exact h2,by rw [hb.cell hl];exact h3,by rw [hb.cell hl];exact h4⟩
theorem TAt.alloc {w:World} {ad:Option Addr} {l:List TV} (h:TAt w ad l) (o:Obj):TAt (w.alloc o) ad l:=h.below ((Below.refl _ _).alloc (Nat.le_refl _) _)
theorem TAt.drew {w:World} {ad:Option Addr} {l:List TV} (h:TAt w ad l):TAt w.drew ad l:=h
theorem TAt.nil (w:World) (ad:Option Addr):TAt w ad []:=fun i h=>by simp at h
theorem TAt.new (w:World) (t:TypeId) (l:List TV) (L:Array Value) (hL:L=(tcells l).toArray):TAt (w.alloc (.cells L t)) (some ⟨w.heap.size,0,none⟩) l:=by
 subst hL;intro i hi;have hR:=Rw.new w t (tcells l);obtain ⟨h1,h2,h3,h4⟩:=tcells_get l i hi;refine ⟨w.heap.size,0,rfl,by rw [World.size_alloc];omega,?_,?_,?_,?_⟩
 ·rw [Nat.zero_add,hR.cell];exact h1
 ·rw [Nat.zero_add,hR.cell];exact h2
 ·rw [Nat.zero_add,hR.cell];exact h3
 ·rw [Nat.zero_add,hR.cell];exact h4
theorem TAt.drop {w:World} {b o:Nat} {l:List TV} (h:TAt w (some ⟨b,o,none⟩) l) (k:Nat):TAt w (some ⟨b,o+k*4,none⟩) (l.drop k):=by
 intro i hi;rw [List.length_drop] at hi;obtain ⟨lb,lo,e,hl,h1,h2,h3,h4⟩:=h (k+i) (by omega);simp only [Option.some.injEq,Addr.mk.injEq,and_true] at e;obtain ⟨rfl,rfl⟩:=e;rw [List.getElem_drop];have e0:o+(k+i)*4=o+k*4+i*4:=by omega
 rw [e0] at h1 h2 h3 h4;exact ⟨b,o+k*4,rfl,hl,h1,h2,h3,h4⟩
theorem TAt.take {w:World} {ad:Option Addr} {l:List TV} (h:TAt w ad l) (k:Nat):TAt w ad (l.take k):=by
 intro i hi;rw [List.length_take] at hi;obtain ⟨lb,lo,e,hl,h1⟩:=h i (by omega);rw [List.getElem_take];exact ⟨lb,lo,e,hl,h1⟩
theorem TAt.reads {w:World} {a:Addr} {l:List TV} (h:TAt w (some a) l):∀ j u,(tcells l)[j]?=some u→w.cell? (a.add j)=some u:=by
 intro j u hj;have hjl:j<l.length*4:=by
  rw [← tcells_len];exact (List.getElem?_eq_some_iff.1 hj).1
 obtain ⟨lb,lo,e,-,h1,h2,h3,h4⟩:=h (j / 4) (by omega);obtain rfl:a=⟨lb,lo,none⟩:=by simpa using e
 obtain ⟨g1,g2,g3,g4⟩:=tcells_get l (j / 4) (by omega);have ea:(⟨lb,lo,none⟩:Addr).add j=⟨lb,lo+j,none⟩:=by unfold Addr.add;split <;> simp_all
 rw [ea]
 rcases (show j % 4=0∨j % 4=1∨j % 4=2∨j % 4=3 by omega) with e|e|e|e
 ·rw [show j=j / 4*4 by omega] at hj ⊢;rw [← hj,g1];exact h1
 ·rw [show j=j / 4*4+1 by omega] at hj ⊢;rw [← hj,g2];exact h2
 ·rw [show j=j / 4*4+2 by omega] at hj ⊢;rw [← hj,g3];exact h3
 ·rw [show j=j / 4*4+3 by omega] at hj ⊢;rw [← hj,g4];exact h4
theorem infoT4:(Tryz.prog.info? 58).map (fun i=>(i.zero,i.size,i.bytes))=some (some (.agg #[.string ⟨#[]⟩,.bool false,.string ⟨#[]⟩,.int .i64 0]),4,48):=by kernel_rfl
theorem own_tat {w:World} {B n:Nat} {v:Value} {l:List TV} (hn:l.length=n) (h:w.ownsRow B 58 4 v n (tcells l)):∃ od oc,v=.slice od n oc∧n≤oc∧TAt w od l:=by
 rcases h.2 with ⟨rfl,rfl⟩|⟨g,cap,cur,rfl,_,hg,hc,_,_,_⟩
 ·obtain rfl:l=[]:=List.eq_nil_of_length_eq_zero hn;exact ⟨none,0,rfl,Nat.le_refl _,fun i hi=>by simp at hi⟩
 ·refine ⟨some ⟨g,0,none⟩,cap,rfl,hc,fun i hi=>?_⟩;have hcell:=h.cells (g:=g) rfl;obtain ⟨g1,g2,g3,g4⟩:=tcells_get l i hi;have ea:∀ j:Nat,(⟨g,0,none⟩:Addr).add j=⟨g,0+j,none⟩:=fun j=>by unfold Addr.add;split <;> simp_all
  have h1:=hcell _ _ g1;have h2:=hcell _ _ g2;have h3:=hcell _ _ g3;have h4:=hcell _ _ g4;rw [ea] at h1 h2 h3 h4;exact ⟨g,0,rfl,World.block_lt_of_cell? w _ h1,h1,by rw [Nat.add_assoc];exact h2,by rw [Nat.add_assoc];exact h3,by rw [Nat.add_assoc];exact h4⟩
abbrev PV:=Int × List TV
def PAt (w:World) (ad:Option Addr) (l:List PV):Prop:=∀ i (h:i<l.length),∃ lb lo td tc,ad=some ⟨lb,lo,none⟩∧lb<w.heap.size ∧
 w.cell? ⟨lb,lo+i*2,none⟩=some (.int .i64 l[i].1)∧w.cell? ⟨lb,lo+i*2+1,none⟩=some (.slice td l[i].2.length tc)∧TAt w td l[i].2∧l[i].2.length≤tc
theorem PAt.below {w w' : World} {ad:Option Addr} {l:List PV} (h:PAt w ad l) (hb:Below w.heap.size w w'):PAt w' ad l:=by
 intro i hi;obtain ⟨lb,lo,td,tc,e,hl,h1,h2,h3,h4⟩:=h i hi;have hsz:=hb.size;exact ⟨lb,lo,td,tc,e,by omega,by rw [hb.cell hl];exact h1,by rw [hb.cell hl];exact h2,h3.below hb,h4⟩
theorem PAt.alloc {w:World} {ad:Option Addr} {l:List PV} (h:PAt w ad l) (o:Obj):PAt (w.alloc o) ad l:=h.below ((Below.refl _ _).alloc (Nat.le_refl _) _)
theorem PAt.drew {w:World} {ad:Option Addr} {l:List PV} (h:PAt w ad l):PAt w.drew ad l:=h
def tdv (x:TV):TD:=(x.1.data.toList,nvl x.2)
def tform (x:TV):Prop:=df (nvl x.2)=nu x.2.1 x.2.2.1 x.2.2.2
open Go.RowKit Go.Shelf Go.Lib Go.Op
def canonN (d:Dyadic):NV:=(decide (dm d<0),fb (dm d).natAbs,de d)
theorem canonN_df (d:Dyadic):df d=nu (canonN d).1 (canonN d).2.1 (canonN d).2.2:=rfl
theorem nvl_canon (d:Dyadic):nvl (canonN d)=d:=(df_parts (canonN_df d)).2.2.1
def canonT (x:TD):TV:=(⟨x.1.toArray⟩,canonN x.2)
theorem tdv_canon (x:TD):tdv (canonT x)=x:=by
 show ((⟨x.1.toArray⟩:ByteArray).data.toList,nvl (canonN x.2))=x;rw [nvl_canon]
theorem canon_of {x:TV} (h:tform x):canonT (tdv x)=x:=by
 obtain ⟨h1,h2,h3⟩:=nu_inj (show nu (canonN (nvl x.2)).1 (canonN (nvl x.2)).2.1 (canonN (nvl x.2)).2.2=nu x.2.1 x.2.2.1 x.2.2.2 from h);refine Prod.ext ?_ (Prod.ext h1 (Prod.ext h2 h3));show (⟨x.1.data.toList.toArray⟩:ByteArray)=x.1;rw [Array.toArray_toList]
theorem canon_form (x:TD):tform (canonT x):=by
 show df (nvl (canonN x.2))=_;rw [nvl_canon];rfl
theorem tv_inj:∀ {a b:List TV},(∀ x∈a,tform x)→(∀ x∈b,tform x)→a.map tdv=b.map tdv→a=b
 | [],[],_,_,_=>rfl
 | [],_::_,_,_,h=>by simp at h
 | _::_,[],_,_,h=>by simp at h
 | x::a,y::b,ha,hb,h=>by
  rw [List.map_cons,List.map_cons] at h
  injection h with h1 h2
  rw [tv_inj (fun z hz=>ha z (List.mem_cons_of_mem _ hz)) (fun z hz=>hb z (List.mem_cons_of_mem _ hz)) h2];rw [← canon_of (ha x List.mem_cons_self),h1,canon_of (hb y List.mem_cons_self)]
def outV (l:List TV):List TV:=(dropNought (l.map tdv)).map canonT
theorem outV_tdv (l:List TV):(outV l).map tdv=dropNought (l.map tdv):=by
 unfold outV;rw [List.map_map]
 conv=>rhs;rw [← List.map_id (dropNought (l.map tdv))]
 exact List.map_congr_left fun x _=>tdv_canon x
theorem outV_nil:outV []=[]:=rfl
theorem outV_snoc (l:List TV) (x:TV):outV (l++[x])=if nvl x.2=0 then outV l else outV l++[canonT (tdv x)]:=by
 unfold outV dropNought;rw [List.map_append,List.filter_append,List.map_append]
 by_cases h:nvl x.2=0
 ·rw [if_pos h];have e:(List.map tdv [x]).filter (fun x=>!(x.2 == 0))=[]:=by simp [tdv,h]
  rw [e];simp
 ·rw [if_neg h];have e:(List.map tdv [x]).filter (fun x=>!(x.2 == 0))=[tdv x]:=by simp [tdv,h]
  rw [e];rfl
theorem out_poly {r l:List TV} (h1:Rising (r.map tdv)) (h2:∀ m,coef (r.map tdv) m=coef (l.map tdv) m):outV r=(polyOf (l.map tdv)).map canonT:=by
 unfold outV;rw [polyOf_of h1 h2]
theorem out_may (l:List TD):(∀ x∈(polyOf l).map canonT,tform x)∧Rising (((polyOf l).map canonT).map tdv)∧NoNought (((polyOf l).map canonT).map tdv):=by
 have e:((polyOf l).map canonT).map tdv=polyOf l:=by
  rw [List.map_map]
  conv=>rhs;rw [← List.map_id (polyOf l)]
  exact List.map_congr_left fun x _=>tdv_canon x
 rw [e];refine ⟨fun x hx=>?_,polyOf_rising l,polyOf_none l⟩;obtain ⟨y,_,rfl⟩:=List.mem_map.1 hx;exact canon_form y
def putT:List TD→TD→List TD
 | [],x=>[x]
 | y::l,x=>if bytesLess y.1 x.1 then y::putT l x else if y.1=x.1 then (x.1,y.2+x.2)::l else x::y::l
theorem putT_mem:∀ {l:List TD} {x z:TD},z∈putT l x→z.1=x.1∨∃ y∈l,y.1=z.1
 | [],x,z,h=>by
  obtain rfl:z=x:=by simpa [putT] using h
  exact .inl rfl
 | y::l,x,z,h=>by
  unfold putT at h
  split at h
  ·rcases List.mem_cons.1 h with rfl|h
   ·exact .inr ⟨_,List.mem_cons_self,rfl⟩
   ·rcases putT_mem h with h|⟨u,hu,e⟩
    ·exact .inl h
    ·exact .inr ⟨u,List.mem_cons_of_mem _ hu,e⟩
  ·split at h
   ·rcases List.mem_cons.1 h with rfl|h
    ·exact .inl rfl
    ·exact .inr ⟨z,List.mem_cons_of_mem _ h,rfl⟩
   ·rcases List.mem_cons.1 h with rfl|h
    ·exact .inl rfl
    ·exact .inr ⟨z,h,rfl⟩
theorem putT_rising:∀ {l:List TD} (x:TD),Rising l→Rising (putT l x)
 | [],x,_=>List.pairwise_singleton _ _
 | y::l,x,h=>by
  obtain ⟨h1,h2⟩:=rising_cons.1 h;unfold putT
  split
  ·rename_i hl
   refine rising_cons.2 ⟨fun z hz=>?_,putT_rising x h2⟩
   rcases putT_mem hz with e|⟨u,hu,e⟩
   ·rw [e];exact hl
   ·rw [← e];exact h1 u hu
  ·split
   ·rename_i e
    exact rising_cons.2 ⟨fun z hz=>by show bytesLess x.1 z.1=true;rw [← e];exact h1 z hz,h2⟩
   ·rename_i hl e
    have hx:bytesLess x.1 y.1=true:=by
     cases hb:bytesLess x.1 y.1 with
     | true=>rfl
     | false=>exact absurd (less_total _ _ (by simpa using hl) hb) e
    refine rising_cons.2 ⟨fun z hz=>?_,h⟩
    rcases List.mem_cons.1 hz with rfl|hz
    ·exact hx
    ·exact less_trans hx (h1 z hz)
theorem putT_coef:∀ (l:List TD) (x:TD) (m:List UInt8),coef (putT l x) m=coef l m+coef [x] m
 | [],x,m=>(Dyadic.zero_add _).symm
 | y::l,x,m=>by
  unfold putT
  split
  ·show _+coef (putT l x) m=_+coef l m+_;rw [putT_coef l x m,Dyadic.add_assoc]
  ·split
   ·rename_i e
    show (if x.1=m then y.2+x.2 else 0)+coef l m=((if y.1=m then y.2 else 0)+coef l m)+((if x.1=m then x.2 else 0)+0);rw [e]
    split <;> grind
   ·show (if x.1=m then x.2 else 0)+coef (y::l) m=coef (y::l) m+((if x.1=m then x.2 else 0)+0)
    grind
def putAll (l:List TD):List TD:=l.foldl putT []
theorem putAll_snoc (l:List TD) (x:TD):putAll (l++[x])=putT (putAll l) x:=by
 unfold putAll;rw [List.foldl_append];rfl
theorem putAll_facts (l:List TD):Rising (putAll l)∧∀ m,coef (putAll l) m=coef l m:=by
 have h:∀ (l a:List TD),Rising a→Rising (l.foldl putT a)∧∀ m,coef (l.foldl putT a) m=coef a m+coef l m:=by
  intro l
  induction l with
  | nil=>exact fun a ha=>⟨ha,fun m=>(Dyadic.add_zero _).symm⟩
  | cons x l ih =>
   intro a ha;obtain ⟨h1,h2⟩:=ih (putT a x) (putT_rising x ha);refine ⟨h1,fun m=>?_⟩;show coef (l.foldl putT (putT a x)) m=coef a m+((if x.1=m then x.2 else 0)+coef l m);rw [h2 m,putT_coef,Dyadic.add_assoc];show _+(((if x.1=m then x.2 else 0)+0)+_)=_;rw [Dyadic.add_zero]
 obtain ⟨h1,h2⟩:=h l [] List.Pairwise.nil;exact ⟨h1,fun m=>by rw [show putAll l=l.foldl putT [] from rfl,h2 m];exact Dyadic.zero_add _⟩
theorem putAll_poly (l:List TD):dropNought (putAll l)=polyOf l:=polyOf_of (putAll_facts l).1 (putAll_facts l).2
def mayB (s:ByteArray) (v:Int):Bool:=(s.data.toList.all fun b=>decide (b.toNat<128)) && decide ((s.size:Int)=v)
def goodB (v:Int) (x:TV):Bool:=mayB x.1 v && !(nvl x.2 == 0) && decide (canonN (nvl x.2)=x.2)
def risB:List TV→Bool
 | []=>true
 | [_]=>true
 | x::y::l=>bytesLess x.1.data.toList y.1.data.toList && risB (y::l)
theorem risB_rising:∀ {l:List TV},risB l=true→Rising (l.map tdv)
 | [],_=>List.Pairwise.nil
 | [_],_=>List.pairwise_singleton _ _
 | x::y::l,h=>by
  unfold risB at h;rw [Bool.and_eq_true] at h;have h2:=risB_rising h.2;refine rising_cons.2 ⟨fun z hz=>?_,h2⟩
  rcases List.mem_cons.1 hz with rfl|hz
  ·exact h.1
  ·exact less_trans h.1 ((rising_cons.1 h2).1 z hz)
theorem rising_risB:∀ {l:List TV},Rising (l.map tdv)→risB l=true
 | [],_=>rfl
 | [_],_=>rfl
 | x::y::l,h=>by
  obtain ⟨h1,h2⟩:=rising_cons.1 h;unfold risB;rw [Bool.and_eq_true];exact ⟨h1 (tdv y) List.mem_cons_self,rising_risB h2⟩
def checkE (v:Int) (l:List TV):Int:=if ¬ (0≤v∧v≤12) then 1 else if 4096<l.length then 3 else if l.all (goodB v) && risB l then 0 else 1
theorem good_form {v:Int} {x:TV} (h:goodB v x=true):tform x∧nvl x.2≠0∧mayB x.1 v=true:=by
 unfold goodB at h;simp only [Bool.and_eq_true,Bool.not_eq_true',decide_eq_true_eq,beq_eq_false_iff_ne] at h;refine ⟨?_,h.1.2,h.1.1⟩;show df (nvl x.2)=nu x.2.1 x.2.2.1 x.2.2.2;rw [canonN_df,h.2]
theorem check_ok {v:Int} {l:List TV} (h:checkE v l=0):(0≤v∧v≤12)∧l.length≤4096∧(∀ x∈l,goodB v x=true)∧Rising (l.map tdv)∧NoNought (l.map tdv):=by
 unfold checkE at h
 split at h
 ·omega
 ·split at h
  ·omega
  ·split at h
   ·rename_i h1 h2 h3
    rw [Bool.and_eq_true,List.all_eq_true] at h3;refine ⟨by omega,by omega,h3.1,risB_rising h3.2,fun x hx=>?_⟩;obtain ⟨y,hy,rfl⟩:=List.mem_map.1 hx;exact (good_form (h3.1 y hy)).2.1
   ·omega
def unitD (z:Int):Dyadic:=.ofIntWithPrec z 2000
theorem unit_add (a b:Int):unitD a+unitD b=unitD (a+b):=by
 unfold unitD;rw [← Dyadic.toRat_inj,Dyadic.toRat_add,Dyadic.toRat_ofIntWithPrec_eq_mul_two_pow,Dyadic.toRat_ofIntWithPrec_eq_mul_two_pow,Dyadic.toRat_ofIntWithPrec_eq_mul_two_pow,Rat.intCast_add]
 grind
def Fits:Nat→List TD→Prop
 | _,[]=>True
 | N,x::l=>∃ (z:Int) (M:Nat),x.2=unitD z∧z.natAbs+M≤N∧Fits M l
theorem Fits.mono:∀ {l:List TD} {M N:Nat},Fits M l→M≤N→Fits N l
 | [],_,_,_,_=>trivial
 | _::_,_,_,⟨z,K,h1,h2,h3⟩,h=>⟨z,K,h1,by omega,h3⟩
theorem Fits.app:∀ {a b:List TD} {M N:Nat},Fits M a→Fits N b→Fits (M+N) (a++b)
 | [],_,_,_,_,h=>h.mono (by omega)
 | x::a,b,M,N,⟨z,K,h1,h2,h3⟩,h=>⟨z,K+N,h1,by omega,Fits.app h3 h⟩
theorem Fits.mem:∀ {l:List TD} {N:Nat} {x:TD},Fits N l→x∈l→∃ z:Int,x.2=unitD z∧z.natAbs≤N
 | y::l,N,x,⟨z,K,h1,h2,h3⟩,hx=>by
  rcases List.mem_cons.1 hx with rfl|hx
  ·exact ⟨z,h1,by omega⟩
  ·obtain ⟨u,h4,h5⟩:=Fits.mem h3 hx;exact ⟨u,h4,by omega⟩
theorem Fits.merge:∀ {a b:List TD} {M N:Nat},Fits M a→Fits N b→Fits (M+N) (merge2 a b)
 | [],b,M,N,_,h=>by
  rw [merge2];exact h.mono (by omega)
 | x::a,[],M,N,h,_=>by
  rw [merge2];exact h.mono (by omega)
 | x::a,y::b,M,N,ha,hb=>by
  obtain ⟨z,K,h1,h2,h3⟩:=ha;obtain ⟨u,J,g1,g2,g3⟩:=hb;rw [merge2]
  split
  ·exact ⟨z,K+N,h1,by omega,Fits.merge h3 ⟨u,J,g1,g2,g3⟩⟩
  ·split
   ·exact ⟨u,M+J,g1,by omega,Fits.merge ⟨z,K,h1,h2,h3⟩ g3⟩
   ·refine ⟨z+u,K+J,?_,by omega,Fits.merge h3 g3⟩;show x.2+y.2=_;rw [h1,g1,unit_add]
termination_by a b=>a.length+b.length
theorem Fits.drop:∀ {l:List TD} {N:Nat},Fits N l→Fits N (dropNought l)
 | [],_,h=>h
 | x::l,N,⟨z,K,h1,h2,h3⟩=>by
  have h:=Fits.drop h3;unfold dropNought at *;rw [List.filter_cons]
  split
  ·exact ⟨z,K,h1,h2,h⟩
  ·exact h.mono (by omega)
theorem Fits.put:∀ {l:List TD} {N M:Nat} {x:TD},Fits N l→Fits M [x]→Fits (N+M) (putT l x)
 | [],N,M,x,_,h=>h.mono (by omega)
 | y::l,N,M,x,⟨z,K,h1,h2,h3⟩,hx=>by
  unfold putT
  split
  ·exact ⟨z,K+M,h1,by omega,Fits.put h3 hx⟩
  ·split
   ·obtain ⟨u,J,g1,g2,-⟩:=hx;refine ⟨z+u,K,?_,by omega,h3⟩;show y.2+x.2=_;rw [h1,g1,unit_add]
   ·obtain ⟨u,J,g1,g2,-⟩:=hx;exact ⟨u,N,g1,by omega,z,K,h1,h2,h3⟩
theorem fit_small {d:Dyadic} {z:Int} {k:Nat} (h:d=unitD z) (hz:z.natAbs<256 ^ k) (_hk:250≤k):(canonN d).2.1.size≤k∧-2000≤(canonN d).2.2∧(canonN d).2.2≤8*k:=by
 obtain ⟨m,s,hw,-,hs⟩:=nmw hz;have h1:df (nv m s (-2000))=nu (canonN d).1 (canonN d).2.1 (canonN d).2.2:=by
  rw [nv_of (-2000) hw,h];exact canonN_df _
 obtain ⟨h2,h3⟩:=df_exp h1 hs;exact ⟨h3,by omega,by omega⟩
theorem fit_raw {x:NV} {k j:Nat} (h1:x.2.1.size≤k) (h2:-2000≤x.2.2∧x.2.2≤j):∃ z:Int,nvl x=unitD z∧z.natAbs<256 ^ k*2 ^ (2000+j):=by
 obtain ⟨t,ht⟩:∃ t:Nat,(t:Int)=2000+x.2.2:=⟨(2000+x.2.2).toNat,by omega⟩;refine ⟨wv x.1 x.2.1*((2 ^ t:Nat):Int),?_,?_⟩
 ·show nv x.1 x.2.1 x.2.2=_;unfold unitD;rw [← Dyadic.toRat_inj,nv_toRat,Dyadic.toRat_ofIntWithPrec_eq_mul_two_pow,Rat.intCast_mul];have e1:x.2.2=(t:Int)+(-2000):=by omega
  rw [e1,Rat.zpow_add (by decide)];have e2:(((2 ^ t:Nat):Int):Rat)=2 ^ (t:Int):=by
   rw [Rat.zpow_natCast,Int.natCast_pow,Rat.intCast_pow];rfl
  rw [e2]
  grind
 ·rw [Int.natAbs_mul,wv_abs,Int.natAbs_natCast];have h3:num x.2.1<256 ^ k:=Nat.lt_of_lt_of_le (num_lt _) (Nat.pow_le_pow_right (by decide) h1);have h4:2 ^ t≤2 ^ (2000+j):=Nat.pow_le_pow_right (by decide) (by omega);exact Nat.mul_lt_mul_of_lt_of_le h3 h4 (Nat.two_pow_pos _)
theorem addL_comm:∀ (a b:List UInt8),addL a b=addL b a
 | [],[]=>rfl
 | [],_::_=>rfl
 | _::_,[]=>rfl
 | x::a,y::b=>by
  show _::addL a b=_::addL b a;rw [addL_comm a b,Nat.add_comm]
def mulM (a b:List UInt8):List UInt8:=addL b a
theorem mulM_comm (a b:List UInt8):mulM a b=mulM b a:=addL_comm _ _
theorem scale_rising {x:TD} {q:List TD} {n:Nat} (hx:okM x.1=true∧x.1.length=n) (hq:∀ y∈q,okM y.1=true∧y.1.length=n) (h:Rising q):Rising (scaleT mulM x q):=by
 induction q with
 | nil=>exact List.Pairwise.nil
 | cons y q ih =>
  obtain ⟨h1,h2⟩:=rising_cons.1 h;have h3:=ih (fun z hz=>hq z (List.mem_cons_of_mem _ hz)) h2;refine rising_cons.2 ⟨fun z hz=>?_,h3⟩;obtain ⟨u,hu,rfl⟩:=List.mem_map.1 hz;obtain ⟨y1,y2⟩:=hq y List.mem_cons_self;obtain ⟨u1,u2⟩:=hq u (List.mem_cons_of_mem _ hu);show bytesLess (addL y.1 x.1) (addL u.1 x.1)=true;rw [less_add y.1 u.1 x.1 (by rw [y2,hx.2]) (by rw [u2,hx.2]) y1 u1 hx.1];exact h1 u hu
theorem prodM_comm (p q:List TD) (m:List UInt8):coef (prodTD mulM p q) m=coef (prodTD mulM q p) m:=prod_comm mulM (fun _ _ _ _=>mulM_comm _ _) m
def halves:List (List TD)→List TD
 | []=>[]
 | [r]=>r
 | a::b::l=>merge2 (halves ((a::b::l).take ((l.length+2) / 2))) (halves ((a::b::l).drop ((l.length+2) / 2)))
termination_by l=>l.length
decreasing_by
 ·simp only [List.length_take,List.length_cons];omega
 ·simp only [List.length_drop,List.length_cons];omega
theorem halves_nil:halves []=[]:=by rw [halves]
theorem halves_one (r:List TD):halves [r]=r:=by rw [halves]
theorem halves_two:∀ {l:List (List TD)},2≤l.length→halves l=merge2 (halves (l.take (l.length / 2))) (halves (l.drop (l.length / 2)))
 | [],h=>absurd h (by simp)
 | [_],h=>absurd h (by simp)
 | a::b::l,_=>by rw [halves];rfl
theorem halves_ind {P:List (List TD)→Prop} (h0:P []) (h1:∀ r,P [r]) (h2:∀ l:List (List TD),2≤l.length→P (l.take (l.length / 2))→P (l.drop (l.length / 2))→P l):∀ l,P l:=by
 intro l
 induction hn:l.length using Nat.strongRecOn generalizing l with
 | ind n ih =>
  match l,hn with
  | [],_=>exact h0
  | [r],_=>exact h1 r
  | a::b::t,hn =>
   have hn:t.length+2=n:=hn;have hl:(a::b::t).length=t.length+2:=rfl;refine h2 _ (by rw [hl];omega) (ih ((t.length+2) / 2) (by omega) _ ?_) (ih (t.length+2-(t.length+2) / 2) (by omega) _ ?_)
   ·rw [List.length_take,hl];omega
   ·rw [List.length_drop,hl]
theorem halves_rising (l:List (List TD)):(∀ r∈l,Rising r)→Rising (halves l):=by
 refine halves_ind (P:=fun l=>(∀ r∈l,Rising r)→Rising (halves l)) ?_ ?_ ?_ l
 ·intro _;rw [halves_nil];exact List.Pairwise.nil
 ·intro r h;rw [halves_one];exact h r (List.mem_singleton.2 rfl)
 ·intro l h2 ha hb h;rw [halves_two h2];exact merge2_rising (ha fun r hr=>h r (List.mem_of_mem_take hr)) (hb fun r hr=>h r (List.mem_of_mem_drop hr))
theorem halves_coef (l:List (List TD)) (m:List UInt8):coef (halves l) m=coef l.flatten m:=by
 refine halves_ind (P:=fun l=>coef (halves l) m=coef l.flatten m) ?_ ?_ ?_ l
 ·rw [halves_nil];rfl
 ·intro r;rw [halves_one,List.flatten_singleton]
 ·intro l h2 ha hb;rw [halves_two h2,merge2_coef,ha,hb,← coef_app,← List.flatten_append,List.take_append_drop]
theorem halves_mem (l:List (List TD)):∀ z∈halves l,∃ r∈l,∃ y∈r,y.1=z.1:=by
 refine halves_ind (P:=fun l=>∀ z∈halves l,∃ r∈l,∃ y∈r,y.1=z.1) ?_ ?_ ?_ l
 ·intro z hz;rw [halves_nil] at hz;exact absurd hz List.not_mem_nil
 ·intro r z hz;rw [halves_one] at hz;exact ⟨r,List.mem_singleton.2 rfl,z,hz,rfl⟩
 ·intro l h2 ha hb z hz;rw [halves_two h2] at hz
  rcases merge2_mem hz with ⟨x,hx,e⟩|⟨x,hx,e⟩
  ·obtain ⟨r,hr,y,hy,e2⟩:=ha x hx;exact ⟨r,List.mem_of_mem_take hr,y,hy,e2.trans e⟩
  ·obtain ⟨r,hr,y,hy,e2⟩:=hb x hx;exact ⟨r,List.mem_of_mem_drop hr,y,hy,e2.trans e⟩
theorem halves_poly {l:List (List TD)} (h:∀ r∈l,Rising r):dropNought (halves l)=polyOf l.flatten:=polyOf_of (halves_rising l h) (halves_coef l)
theorem halves_fits {N:Nat} (l:List (List TD)):(∀ r∈l,Fits N r)→Fits (l.length*N) (halves l):=by
 refine halves_ind (P:=fun l=>(∀ r∈l,Fits N r)→Fits (l.length*N) (halves l)) ?_ ?_ ?_ l
 ·intro _;rw [halves_nil];trivial
 ·intro r h;rw [halves_one];exact (h r (List.mem_singleton.2 rfl)).mono (by simp)
 ·intro l h2 ha hb h;rw [halves_two h2];refine ((ha fun r hr=>h r (List.mem_of_mem_take hr)).merge (hb fun r hr=>h r (List.mem_of_mem_drop hr))).mono ?_;rw [← Nat.add_mul,List.length_take,List.length_drop];exact Nat.mul_le_mul_right _ (by omega)
theorem rising_tail {x:TD} {l:List TD} (h:Rising (x::l)):Rising l:=(rising_cons.1 h).2
theorem prod_rows (mulM:List UInt8→List UInt8→List UInt8) (q:List TD):∀ p:List TD,(p.map fun x=>scaleT mulM x q).flatten=prodTD mulM p q
 | []=>rfl
 | x::p=>by
  show scaleT mulM x q++(p.map fun x=>scaleT mulM x q).flatten=scaleT mulM x q++prodTD mulM p q;rw [prod_rows mulM q p]
theorem step_append_own (base:Nat) {t e:TypeId} {i:TypeInfo} {z:Value} {size bytes:Nat} (h1:Tryz.prog.underlying t=some (.slice e)) (h2:Tryz.prog.info? e=some i) (h3:i.zero=some z) (h4:i.size=size) (h5:i.bytes=bytes) (h6:z.cells.size=size) (h7:0<size)
  {w:World} {ops:Array Oper} {o:Oper} {a:Act} {K:Act→World→Prop} {Q:Exit→Act→World→Prop} {E:Prop} (hgd:o.guard=none) (s y:Operand)
  (ho:o.op=.call { callee:=.builtin .append,args:=#[s,y],argTypes:=#[t,t] })
  (v:Value) (k:Nat) (xs:List Value) (hs:a.eval s=v) (hown:w.ownsRow base e size v k xs) (ad:Addr) (m c:Nat) (news:List Value) (hx:a.eval y=.slice (some ad) m c) (hn:news.length=m*size)
  (hc:∀ j u,news[j]?=some u→w.cell? (ad.add j)=some u) (h1c:∀ u∈news,u.oneCell'=true) (b1:k+m≤maxLen) (b2:(k+m)*bytes≤140737488355328) (b3:base≤w.heap.size)
  (hk:∀ v' w',w'.ownsRow base e size v' (k+m) (xs++news)→w.grownBy w' v.ownBlock→K (a.put o.dst v') w') :
  if Region.wanted o (yielded ops a.tmps)=true then Oper.wp Tryz.prog o a w K Q else E:=by
 have hw:Region.wanted o (yielded ops a.tmps)=true:=by simp [Region.wanted,hgd]
 rw [if_pos hw];obtain ⟨v',w',hr,g1,g2,_⟩:=run_append_own (P:=Tryz.prog) w base t o.type e i z size bytes h1 h2 h3 h4 h5 h6 h7 v k xs hown ad m c news hn hc h1c b1 b2 b3;unfold Oper.wp execOp;simp only [ho,resolve,invoke,builtin,Sem.run_bind,Sem.run_pure,Result.andThen_ok,List.map_toArray,List.map_cons,List.map_nil,hs,hx,hr];exact hk v' w' g1 g2
theorem grown_same (w:World) (row:Option Nat):w.grownBy w row:=⟨rfl,rfl,rfl,Nat.le_refl _,fun _ _ _=>rfl⟩
theorem run_append_tat {w:World} {B k m oc:Nat} {v:Value} {xs:List Value} {od:Option Addr} {l:List TV} (ty:TypeId) (hown:w.ownsRow B 58 4 v k xs) (hB:B≤w.heap.size) (h:TAt w od l) (hl:l.length=m) (hkm:k+m≤1000000) :
  ∃ v' w',(Builtin.append_ #[22,22] ty #[v,.slice od m oc]).run Tryz.prog w=.ok v' w'∧w'.ownsRow B 58 4 v' (k+m) (xs++tcells l)∧w.grownBy w' v.ownBlock:=by
 obtain ⟨i,hi,hz,hs,hb⟩:=info_parts infoT4
 cases od with
 | none =>
  have hl0:l=[]:=by
   cases l with
   | nil=>rfl
   | cons x l=>obtain ⟨_,_,e,_⟩:=h 0 (by simp);cases e
  subst hl0;obtain rfl:m=0:=hl.symm;refine ⟨v,w,?_,by simpa [tcells] using hown,grown_same _ _⟩;have ht:=Tryz.underlying22
  rcases hown.2 with ⟨rfl,rfl⟩|⟨g,cap,cur,rfl,_,_,hnc,_⟩
  ·simp [Builtin.append_,run_underlying ht,sizeOf,typeInfo,hi,Builtin.lenOf,Builtin.firstCells]
  ·simp [Builtin.append_,run_underlying ht,sizeOf,typeInfo,hi,Builtin.lenOf,Builtin.firstCells,hnc,storeCells]
 | some ad =>
  obtain ⟨v',w',hr,g1,g2,_⟩:=run_append_own (P:=Tryz.prog) w B 22 ty 58 i _ 4 48 Tryz.underlying22 hi hz hs hb rfl (by decide) v k xs hown ad m oc (tcells l) (by rw [tcells_len,hl]) h.reads (tcells_one l) (by unfold maxLen;omega) (by omega) hB;exact ⟨v',w',hr,g1,g2⟩
theorem wp_append_tat {w:World} {o:Oper} {a:Act} {K:Act→World→Prop} {Q:Exit→Act→World→Prop} (s y:Operand)
  (ho:o.op=.call { callee:=.builtin .append,args:=#[s,y],argTypes:=#[22,22] }) {B k m oc:Nat} {v:Value} {xs:List Value} {od:Option Addr} {l:List TV}
  (hs:a.eval s=v) (hown:w.ownsRow B 58 4 v k xs) (hB:B≤w.heap.size) (hx:a.eval y=.slice od m oc) (h:TAt w od l) (hl:l.length=m) (hkm:k+m≤1000000)
  (hk:∀ v' w',w'.ownsRow B 58 4 v' (k+m) (xs++tcells l)→w.grownBy w' v.ownBlock→K (a.put o.dst v') w'):o.wp Tryz.prog a w K Q:=by
 obtain ⟨v',w',hr,g1,g2⟩:=run_append_tat (oc:=oc) o.type hown hB h hl hkm;unfold Oper.wp execOp;simp only [ho,resolve,invoke,builtin,Sem.run_bind,Sem.run_pure,Result.andThen_ok,List.map_toArray,List.map_cons,List.map_nil,hs,hx,hr];exact hk v' w' g1 g2
theorem wpList_append_tat {w:World} {ops:Array Oper} {rest:List Oper} {o:Oper} {a:Act} {Q:Exit→Act→World→Prop} (hgd:o.guard=none) (s y:Operand)
  (ho:o.op=.call { callee:=.builtin .append,args:=#[s,y],argTypes:=#[22,22] }) {B k m oc:Nat} {v:Value} {xs:List Value} {od:Option Addr} {l:List TV}
  (hs:a.eval s=v) (hown:w.ownsRow B 58 4 v k xs) (hB:B≤w.heap.size) (hx:a.eval y=.slice od m oc) (h:TAt w od l) (hl:l.length=m) (hkm:k+m≤1000000)
  (hk:∀ v' w',w'.ownsRow B 58 4 v' (k+m) (xs++tcells l)→w.grownBy w' v.ownBlock→wpList Tryz.prog ops Q rest (a.put o.dst v') w'):wpList Tryz.prog ops Q (o::rest) a w:=
 wpList_plain hgd fun _ hK=>wp_append_tat s y ho hs hown hB hx h hl hkm fun v' w' h2 h3=>hK _ _ (hk v' w' h2 h3)
theorem step_append_tat {w:World} {ops:Array Oper} {o:Oper} {a:Act} {K:Act→World→Prop} {Q:Exit→Act→World→Prop} {E:Prop} (hgd:o.guard=none) (s y:Operand)
  (ho:o.op=.call { callee:=.builtin .append,args:=#[s,y],argTypes:=#[22,22] }) {B k m oc:Nat} {v:Value} {xs:List Value} {od:Option Addr} {l:List TV}
  (hs:a.eval s=v) (hown:w.ownsRow B 58 4 v k xs) (hB:B≤w.heap.size) (hx:a.eval y=.slice od m oc) (h:TAt w od l) (hl:l.length=m) (hkm:k+m≤1000000)
  (hk:∀ v' w',w'.ownsRow B 58 4 v' (k+m) (xs++tcells l)→w.grownBy w' v.ownBlock→K (a.put o.dst v') w') :
  if Region.wanted o (yielded ops a.tmps)=true then Oper.wp Tryz.prog o a w K Q else E:=by
 have hw:Region.wanted o (yielded ops a.tmps)=true:=by simp [Region.wanted,hgd]
 rw [if_pos hw];exact wp_append_tat s y ho hs hown hB hx h hl hkm hk
theorem risB_of:∀ {l:List TV},(∀ j (h:j+1<l.length),bytesLess l[j].1.data.toList l[j+1].1.data.toList=true)→risB l=true
 | [],_=>rfl
 | [_],_=>rfl
 | x::y::l,h=>by
  unfold risB;rw [Bool.and_eq_true];refine ⟨h 0 (by simp),risB_of fun j hj=>?_⟩;exact h (j+1) (by simp at hj ⊢;omega)
theorem risB_at:∀ {l:List TV},risB l=true→∀ j (h:j+1<l.length),bytesLess l[j].1.data.toList l[j+1].1.data.toList=true
 | [],_,j,h=>by simp at h
 | [_],_,j,h=>by simp at h
 | x::y::l,hr,0,_=>by
  unfold risB at hr;rw [Bool.and_eq_true] at hr;exact hr.1
 | x::y::l,hr,j+1,h=>by
  unfold risB at hr;rw [Bool.and_eq_true] at hr;exact risB_at hr.2 j (by simp at h ⊢;omega)
def UpTo (v:Int) (l:List TV) (k:Nat):Prop:=(∀ j (h:j<l.length),j<k→goodB v l[j]=true)∧(∀ j (h:j+1<l.length),j+1<k→bytesLess l[j].1.data.toList l[j+1].1.data.toList=true)
theorem UpTo.zero (v:Int) (l:List TV):UpTo v l 0:=⟨fun _ _ h=>by omega,fun _ _ h=>by omega⟩
theorem UpTo.next {v:Int} {l:List TV} {k:Nat} (h:UpTo v l k) (hk:k<l.length) (h1:goodB v l[k]=true) (h2:∀ (h0:0<k),bytesLess (l[k-1]'(by omega)).1.data.toList l[k].1.data.toList=true):UpTo v l (k+1):=by
 refine ⟨fun j hj hjk=>?_,fun j hj hjk=>?_⟩
 ·by_cases e:j<k
  ·exact h.1 j hj e
  ·obtain rfl:j=k:=by omega
   exact h1
 ·by_cases e:j+1<k
  ·exact h.2 j hj e
  ·obtain rfl:k=j+1:=by omega
   exact h2 (by omega)
theorem UpTo.all {v:Int} {l:List TV} (h:UpTo v l l.length):(l.all (goodB v) && risB l)=true:=by
 rw [Bool.and_eq_true,List.all_eq_true];refine ⟨fun x hx=>?_,risB_of fun j hj=>h.2 j hj hj⟩;obtain ⟨j,hj,rfl⟩:=List.getElem_of_mem hx;exact h.1 j hj hj
theorem bad_good {v:Int} {l:List TV} {k:Nat} (hk:k<l.length) (h:goodB v l[k]=false):(l.all (goodB v) && risB l)=false:=by
 have h1:l.all (goodB v)=false:=by
  rw [List.all_eq_false];exact ⟨l[k],List.getElem_mem hk,by rw [h];decide⟩
 rw [h1];rfl
theorem bad_ris {v:Int} {l:List TV} {k:Nat} (hk:k<l.length) (h0:0<k) (h:bytesLess (l[k-1]'(by omega)).1.data.toList l[k].1.data.toList=false):(l.all (goodB v) && risB l)=false:=by
 cases hr:risB l with
 | false=>exact Bool.and_false _
 | true =>
  exfalso
  have h1:=risB_at hr (k-1) (by omega);have e:k-1+1=k:=by omega
  simp only [e] at h1;rw [h] at h1
  cases h1
theorem checkE_loop {v:Int} {l:List TV} (hv:0≤v∧v≤12) (hl:l.length≤4096):checkE v l=if l.all (goodB v) && risB l then 0 else 1:=by
 unfold checkE;rw [if_neg (by simpa using hv),if_neg (by omega)]
theorem good_parts {v:Int} {x:TV}:goodB v x=(mayB x.1 v && (!(nvl x.2 == 0) && decide (canonN (nvl x.2)=x.2))):=by
 unfold goodB;rw [Bool.and_assoc]
def tc (x:TV):List Value:=[.string x.1,.bool x.2.1,.string x.2.2.1,.int .i64 x.2.2.2]
def Tk (w:World) (b:Nat) (x:TV):Prop:=Rw w b 58 (tc x)
theorem Tk.new (w:World) (s:ByteArray) (m:Bool) (t:ByteArray) (e:Int):Tk (w.alloc (.cells #[.string s,.bool m,.string t,.int .i64 e] 58)) w.heap.size (s,m,t,e):=Rw.new w _ (tc (s,m,t,e))
section
variable {w w' : World} {b : Nat} {x : TV}
theorem Tk.lt (h:Tk w b x):b<w.heap.size:=Rw.lt h
theorem Tk.drew (h:Tk w b x):Tk w.drew b x:=h
theorem Tk.alloc (h:Tk w b x) (o:Obj):Tk (w.alloc o) b x:=Rw.alloc h o
theorem Tk.below (h:Tk w b x) (hq:Below w.heap.size w w'):Tk w' b x:=Rw.below h hq h.lt
theorem Tk.set4 (h:Tk w b x) (y:TV):Tk ((((w.setCell ⟨b,0,none⟩ (.string y.1)).setCell ⟨b,1,none⟩ (.bool y.2.1)).setCell ⟨b,2,none⟩ (.string y.2.2.1)).setCell ⟨b,3,none⟩ (.int .i64 y.2.2.2)) b y:=
 (((Rw.set_ h 0 (.string y.1)).set_ 1 (.bool y.2.1)).set_ 2 (.string y.2.2.1)).set_ 3 (.int .i64 y.2.2.2)
theorem Tk.cells (h:Tk w b x):w.cell? ⟨b,0,none⟩=some (.string x.1)∧w.cell? ⟨b,1,none⟩=some (.bool x.2.1)∧w.cell? ⟨b,2,none⟩=some (.string x.2.2.1)∧w.cell? ⟨b,3,none⟩=some (.int .i64 x.2.2.2):=
 ⟨Rw.cell h 0,Rw.cell h 1,Rw.cell h 2,Rw.cell h 3⟩
theorem Tk.facts (h:Tk w b x):w.cell? ⟨b,0,none⟩=some (.string x.1)∧w.cell? ⟨b,1,none⟩=some (.bool x.2.1)∧w.cell? ⟨b,2,none⟩=some (.string x.2.2.1)∧w.cell? ⟨b,3,none⟩=some (.int .i64 x.2.2.2) ∧
  w.frozen? ⟨b,0,none⟩=false∧w.frozen? ⟨b,1,none⟩=false∧w.frozen? ⟨b,2,none⟩=false∧w.frozen? ⟨b,3,none⟩=false:=
 ⟨Rw.cell h 0,Rw.cell h 1,Rw.cell h 2,Rw.cell h 3,Rw.frozen h 0,Rw.frozen h 1,Rw.frozen h 2,Rw.frozen h 3⟩
end
theorem tbelow_set4 {B:Nat} {w W:World} (h:Below B w W) {b:Nat} (hb:B≤b) (i j k l:Nat) (u v x y:Value):Below B w ((((W.setCell ⟨b,i,none⟩ u).setCell ⟨b,j,none⟩ v).setCell ⟨b,k,none⟩ x).setCell ⟨b,l,none⟩ y):=(((h.setCell hb u).setCell hb v).setCell hb x).setCell hb y
theorem infoT1:(Tryz.prog.info? 58).map (·.size)=some 4:=by kernel_rfl
theorem ret_term {fn:Func} {p:Tmp} {tmps:Array Value} {W:World} {r:Nat} {x:TV} {Q:Ending→World→Prop} (h:fn.results=#[.cell p 58]) (hp:tmps.getD p undef=.pointer (some ⟨r,0,none⟩))
  (hr:Tk W r x) (hQ:Q (.returned (.agg #[.string x.1,.bool x.2.1,.string x.2.2.1,.int .i64 x.2.2.2])) W):bodyPost Tryz.prog fn Q Exit.ret {tmps:=tmps,defers:=[] } W:=
 bodyPost_ret (results_cell_row h _ W r _ _ _ _ hp hr Tryz.underlying58 rfl infoT1) rfl hQ
theorem cell_keep {w w' : World} {p:Addr} {v:Value} (hq:Below w.heap.size w w') (h:w.cell? p=some v):w'.cell? p=some v:=by
 rw [hq.cell (World.block_lt_of_cell? w _ h)];exact h
section
variable {w w' : World} {b0 b1 : Nat} {x0 x1 x2 x3 y0 y1 y2 y3 : Value}
theorem h_tt (h:(w.cell? ⟨b0,0,none⟩=some x0∧w.cell? ⟨b0,1,none⟩=some x1∧w.cell? ⟨b0,2,none⟩=some x2∧w.cell? ⟨b0,3,none⟩=some x3)∧(w.cell? ⟨b1,0,none⟩=some y0∧w.cell? ⟨b1,1,none⟩=some y1∧w.cell? ⟨b1,2,none⟩=some y2∧w.cell? ⟨b1,3,none⟩=some y3)) (hq:Below w.heap.size w w') :
  (w'.cell? ⟨b0,0,none⟩=some x0∧w'.cell? ⟨b0,1,none⟩=some x1∧w'.cell? ⟨b0,2,none⟩=some x2∧w'.cell? ⟨b0,3,none⟩=some x3)∧(w'.cell? ⟨b1,0,none⟩=some y0∧w'.cell? ⟨b1,1,none⟩=some y1∧w'.cell? ⟨b1,2,none⟩=some y2∧w'.cell? ⟨b1,3,none⟩=some y3):=
 ⟨⟨cell_keep hq h.1.1,cell_keep hq h.1.2.1,cell_keep hq h.1.2.2.1,cell_keep hq h.1.2.2.2⟩,cell_keep hq h.2.1,cell_keep hq h.2.2.1,cell_keep hq h.2.2.2.1,cell_keep hq h.2.2.2.2⟩
theorem a_tt {o:Obj} (h:(w.cell? ⟨b0,0,none⟩=some x0∧w.cell? ⟨b0,1,none⟩=some x1∧w.cell? ⟨b0,2,none⟩=some x2∧w.cell? ⟨b0,3,none⟩=some x3)∧(w.cell? ⟨b1,0,none⟩=some y0∧w.cell? ⟨b1,1,none⟩=some y1∧w.cell? ⟨b1,2,none⟩=some y2∧w.cell? ⟨b1,3,none⟩=some y3)) :
  ((w.alloc o).cell? ⟨b0,0,none⟩=some x0∧(w.alloc o).cell? ⟨b0,1,none⟩=some x1∧(w.alloc o).cell? ⟨b0,2,none⟩=some x2∧(w.alloc o).cell? ⟨b0,3,none⟩=some x3)∧((w.alloc o).cell? ⟨b1,0,none⟩=some y0∧(w.alloc o).cell? ⟨b1,1,none⟩=some y1∧(w.alloc o).cell? ⟨b1,2,none⟩=some y2∧(w.alloc o).cell? ⟨b1,3,none⟩=some y3):=h_tt h ((Below.refl _ _).alloc (Nat.le_refl _) _)
end
theorem cell_apart4 {w:World} {p:Addr} {x u v y z:Value} {r:Nat} (h:w.cell? p=some x) (hp:p.block≠r):((((w.setCell ⟨r,0,none⟩ u).setCell ⟨r,1,none⟩ v).setCell ⟨r,2,none⟩ y).setCell ⟨r,3,none⟩ z).cell? p=some x:=
 (World.cell?_of_block (Below.heap_setCell _ _ z p.block hp)).trans ((World.cell?_of_block (Below.heap_setCell _ _ y p.block hp)).trans ((World.cell?_of_block (Below.heap_setCell _ _ v p.block hp)).trans ((World.cell?_of_block (Below.heap_setCell w _ u p.block hp)).trans h)))
theorem s_tt {w:World} {b0 b1 r:Nat} {x0 x1 x2 x3 y0 y1 y2 y3 u v y z:Value} (h:(w.cell? ⟨b0,0,none⟩=some x0∧w.cell? ⟨b0,1,none⟩=some x1∧w.cell? ⟨b0,2,none⟩=some x2∧w.cell? ⟨b0,3,none⟩=some x3)∧(w.cell? ⟨b1,0,none⟩=some y0∧w.cell? ⟨b1,1,none⟩=some y1∧w.cell? ⟨b1,2,none⟩=some y2∧w.cell? ⟨b1,3,none⟩=some y3)) (hr:∀ b∈[b0,b1],b≠r) :
  (((((w.setCell ⟨r,0,none⟩ u).setCell ⟨r,1,none⟩ v).setCell ⟨r,2,none⟩ y).setCell ⟨r,3,none⟩ z).cell? ⟨b0,0,none⟩=some x0∧((((w.setCell ⟨r,0,none⟩ u).setCell ⟨r,1,none⟩ v).setCell ⟨r,2,none⟩ y).setCell ⟨r,3,none⟩ z).cell? ⟨b0,1,none⟩=some x1∧((((w.setCell ⟨r,0,none⟩ u).setCell ⟨r,1,none⟩ v).setCell ⟨r,2,none⟩ y).setCell ⟨r,3,none⟩ z).cell? ⟨b0,2,none⟩=some x2∧((((w.setCell ⟨r,0,none⟩ u).setCell ⟨r,1,none⟩ v).setCell ⟨r,2,none⟩ y).setCell ⟨r,3,none⟩ z).cell? ⟨b0,3,none⟩=some x3)∧(((((w.setCell ⟨r,0,none⟩ u).setCell ⟨r,1,none⟩ v).setCell ⟨r,2,none⟩ y).setCell ⟨r,3,none⟩ z).cell? ⟨b1,0,none⟩=some y0∧((((w.setCell ⟨r,0,none⟩ u).setCell ⟨r,1,none⟩ v).setCell ⟨r,2,none⟩ y).setCell ⟨r,3,none⟩ z).cell? ⟨b1,1,none⟩=some y1∧((((w.setCell ⟨r,0,none⟩ u).setCell ⟨r,1,none⟩ v).setCell ⟨r,2,none⟩ y).setCell ⟨r,3,none⟩ z).cell? ⟨b1,2,none⟩=some y2∧((((w.setCell ⟨r,0,none⟩ u).setCell ⟨r,1,none⟩ v).setCell ⟨r,2,none⟩ y).setCell ⟨r,3,none⟩ z).cell? ⟨b1,3,none⟩=some y3):=
 ⟨⟨cell_apart4 h.1.1 (hr b0 (by simp)),cell_apart4 h.1.2.1 (hr b0 (by simp)),cell_apart4 h.1.2.2.1 (hr b0 (by simp)),cell_apart4 h.1.2.2.2 (hr b0 (by simp))⟩,cell_apart4 h.2.1 (hr b1 (by simp)),cell_apart4 h.2.2.1 (hr b1 (by simp)),cell_apart4 h.2.2.2.1 (hr b1 (by simp)),cell_apart4 h.2.2.2.2 (hr b1 (by simp))⟩
end Go.Proofs.YtemedphcafgolaaGreatDoor
