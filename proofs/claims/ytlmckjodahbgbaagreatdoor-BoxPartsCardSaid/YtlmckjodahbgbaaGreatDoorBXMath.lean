/- Boxes: points in halves, volumes, widths; of no function. -/
import Derived.Test.YtlmckjodahbgbaaGreatDoorBXVal
namespace Go.Proofs.YtlmckjodahbgbaaGreatDoor
open Go.RowKit Go.Shelf
theorem inS_iff (x:SV) (p:NV):inS x p=true↔(loS x).toRat≤(nvl p).toRat∧(nvl p).toRat≤(hiS x).toRat:=hasD_iff _ _ _
theorem wiS_iff (x y:SV):wiS x y=true↔((loS y).toRat≤(nvl x.1).toRat∧(nvl x.1).toRat≤(hiS y).toRat)∧(loS y).toRat≤(nvl x.2).toRat∧(nvl x.2).toRat≤(hiS y).toRat:=by
 unfold wiS;rw [Bool.and_eq_true,hasD_iff,hasD_iff]
theorem inS_fS (x:SV) (p:NV):inS (fS x) p=inS x p:=by unfold inS;rw [lo_fS,hi_fS]
def lowH (x:SV):SV:=(x.1,canonN (mS x))
def upH (x:SV):SV:=(canonN (mS x),x.2)
def z6:SV:=((false,⟨#[]⟩,0),(false,⟨#[]⟩,0))
def halfS (up:Bool) (x:SV):SV:=if up then upH x else lowH x
def halfB (up:Bool) (l:List SV) (a:Nat):List SV:=l.set a (halfS up (l.getD a z6))
theorem mid_between (x:SV):(loS x).toRat≤(mS x).toRat∧(mS x).toRat≤(hiS x).toRat:=by rw [mS_rat];have:=lo_le_hi x;grind
theorem lo_lowH (x:SV):loS (lowH (fS x))=loS x:=by
 show dlo (nvl (canonN (loS x))) (nvl (canonN (mS (fS x))))=_;rw [nvl_canon,nvl_canon,mS_fS];exact (dlo_self (mid_between x).1).1
theorem hi_lowH (x:SV):hiS (lowH (fS x))=mS x:=by
 show dhi (nvl (canonN (loS x))) (nvl (canonN (mS (fS x))))=_;rw [nvl_canon,nvl_canon,mS_fS];exact (dlo_self (mid_between x).1).2
theorem lo_upH (x:SV):loS (upH (fS x))=mS x:=by
 show dlo (nvl (canonN (mS (fS x)))) (nvl (canonN (hiS x)))=_;rw [nvl_canon,nvl_canon,mS_fS];exact (dlo_self (mid_between x).2).1
theorem hi_upH (x:SV):hiS (upH (fS x))=hiS x:=by
 show dhi (nvl (canonN (mS (fS x)))) (nvl (canonN (hiS x)))=_;rw [nvl_canon,nvl_canon,mS_fS];exact (dlo_self (mid_between x).2).2
theorem halves_in (x:SV) (p:NV):inS x p=(inS (lowH (fS x)) p || inS (upH (fS x)) p):=by
 rw [Bool.eq_iff_iff,Bool.or_eq_true,inS_iff,inS_iff,inS_iff,lo_lowH,hi_lowH,lo_upH,hi_upH]
 have:=mid_between x
 grind
theorem wS_half (up:Bool) (x:SV):(wS (halfS up (fS x))).toRat=(wS x).toRat / 2:=by
 unfold halfS
 split
 ·rw [wS_rat,wS_rat,lo_upH,hi_upH,mS_rat];grind
 ·rw [wS_rat,wS_rat,lo_lowH,hi_lowH,mS_rat];grind
theorem half_within (up:Bool) (x:SV):wiS (halfS up (fS x)) x=true:=by
 have h:=mid_between x;have h2:=lo_le_hi x;rw [wiS_iff];unfold halfS
 split
 ·show ((loS x).toRat≤(nvl (canonN (mS (fS x)))).toRat∧(nvl (canonN (mS (fS x)))).toRat≤(hiS x).toRat)∧(loS x).toRat≤(nvl (canonN (hiS x))).toRat∧(nvl (canonN (hiS x))).toRat≤(hiS x).toRat;rw [nvl_canon,nvl_canon,mS_fS]
  grind
 ·show ((loS x).toRat≤(nvl (canonN (loS x))).toRat∧(nvl (canonN (loS x))).toRat≤(hiS x).toRat)∧(loS x).toRat≤(nvl (canonN (mS (fS x)))).toRat∧(nvl (canonN (mS (fS x)))).toRat≤(hiS x).toRat;rw [nvl_canon,nvl_canon,mS_fS]
  grind
theorem form_within (x:SV):wiS (fS x) x=true:=by
 have h2:=lo_le_hi x;rw [wiS_iff];show ((loS x).toRat≤(nvl (canonN (loS x))).toRat∧(nvl (canonN (loS x))).toRat≤(hiS x).toRat)∧(loS x).toRat≤(nvl (canonN (hiS x))).toRat∧(nvl (canonN (hiS x))).toRat≤(hiS x).toRat;rw [nvl_canon,nvl_canon]
 grind
/-! Rows. -/
def hasB (l:List SV) (p:List NV):Bool:=decide (l.length=p.length) && (l.zip p).all fun z=>inS z.1 z.2
def withB (l m:List SV):Bool:=decide (l.length=m.length) && (l.zip m).all fun z=>wiS z.1 z.2
theorem zip_all {α β:Type} (f:α × β→Bool) (l:List α) (m:List β):(l.zip m).all f=true↔∀ i (h1:i<l.length) (h2:i<m.length),f (l[i],m[i])=true:=by
 induction l generalizing m with
 | nil=>simp
 | cons x l ih =>
  cases m with
  | nil=>simp
  | cons y m =>
   simp only [List.zip_cons_cons,List.all_cons,Bool.and_eq_true,ih m]
   constructor
   ·rintro ⟨h0,h⟩ i h1 h2
    cases i with
    | zero=>exact h0
    | succ i=>exact h i (by simpa using h1) (by simpa using h2)
   ·intro h;exact ⟨h 0 (by simp) (by simp),fun i h1 h2=>h (i+1) (by simpa using h1) (by simpa using h2)⟩
theorem hasB_iff (l:List SV) (p:List NV):hasB l p=true↔l.length=p.length∧∀ i (h1:i<l.length) (h2:i<p.length),inS l[i] p[i]=true:=by
 unfold hasB;rw [Bool.and_eq_true,decide_eq_true_iff,zip_all]
theorem withB_iff (l m:List SV):withB l m=true↔l.length=m.length∧∀ i (h1:i<l.length) (h2:i<m.length),wiS l[i] m[i]=true:=by
 unfold withB;rw [Bool.and_eq_true,decide_eq_true_iff,zip_all]
theorem half_len (up:Bool) (l:List SV) (a:Nat):(halfB up (l.map fS) a).length=l.length:=by unfold halfB;simp
theorem half_get (up:Bool) (l:List SV) (a i:Nat) (h:i<l.length):(halfB up (l.map fS) a)[i]'(by rw [half_len];exact h)=if a=i then halfS up (fS l[i]) else fS l[i]:=by
 unfold halfB;rw [List.getElem_set]
 split
 ·rename_i e
  subst e;rw [List.getD_eq_getElem?_getD,List.getElem?_eq_getElem (by simpa using h)];simp
 ·simp
theorem half_has_iff (up:Bool) (l:List SV) (a:Nat) (p:List NV):hasB (halfB up (l.map fS) a) p=true↔l.length=p.length∧∀ i (h1:i<l.length) (h2:i<p.length),inS (if a=i then halfS up (fS l[i]) else fS l[i]) p[i]=true:=by
 rw [hasB_iff]
 constructor
 ·rintro ⟨h,k⟩;refine ⟨by rw [← half_len up l a];exact h,fun i h1 h2=>?_⟩
  have:=k i (by rw [half_len];exact h1) h2
  rwa [half_get _ _ _ _ h1] at this
 ·rintro ⟨h,k⟩;refine ⟨by rw [half_len];exact h,fun i h1 h2=>?_⟩;rw [half_len] at h1;rw [half_get _ _ _ _ h1];exact k i h1 h2
theorem half_with_iff (up:Bool) (l:List SV) (a:Nat) (m:List SV):withB (halfB up (l.map fS) a) m=true↔l.length=m.length∧∀ i (h1:i<l.length) (h2:i<m.length),wiS (if a=i then halfS up (fS l[i]) else fS l[i]) m[i]=true:=by
 rw [withB_iff]
 constructor
 ·rintro ⟨h,k⟩;refine ⟨by rw [← half_len up l a];exact h,fun i h1 h2=>?_⟩
  have:=k i (by rw [half_len];exact h1) h2
  rwa [half_get _ _ _ _ h1] at this
 ·rintro ⟨h,k⟩;refine ⟨by rw [half_len];exact h,fun i h1 h2=>?_⟩;rw [half_len] at h1;rw [half_get _ _ _ _ h1];exact k i h1 h2
theorem halves_has (l:List SV) (p:List NV) (a:Nat) (ha:a<l.length):hasB l p=(hasB (halfB false (l.map fS) a) p || hasB (halfB true (l.map fS) a) p):=by
 rw [Bool.eq_iff_iff,Bool.or_eq_true,half_has_iff,half_has_iff,hasB_iff]
 constructor
 ·rintro ⟨hn,h⟩;have hk:=h a ha (by omega);rw [halves_in,Bool.or_eq_true] at hk
  rcases hk with hk|hk
  ·refine .inl ⟨hn,fun i h1 h2=>?_⟩
   split
   ·rename_i e;subst e;exact hk
   ·rw [inS_fS];exact h i h1 h2
  ·refine .inr ⟨hn,fun i h1 h2=>?_⟩
   split
   ·rename_i e;subst e;exact hk
   ·rw [inS_fS];exact h i h1 h2
 ·rintro (⟨hn,h⟩|⟨hn,h⟩)
  ·refine ⟨hn,fun i h1 h2=>?_⟩;have hk:=h i h1 h2
   split at hk
   ·rw [halves_in,Bool.or_eq_true];exact .inl hk
   ·rwa [inS_fS] at hk
  ·refine ⟨hn,fun i h1 h2=>?_⟩;have hk:=h i h1 h2
   split at hk
   ·rw [halves_in,Bool.or_eq_true];exact .inr hk
   ·rwa [inS_fS] at hk
theorem halves_with (up:Bool) (l:List SV) (a:Nat):withB (halfB up (l.map fS) a) l=true:=by
 rw [half_with_iff];refine ⟨rfl,fun i h1 h2=>?_⟩
 split
 ·exact half_within _ _
 ·exact form_within _
theorem mid_has (up:Bool) (l:List SV) (a:Nat):hasB (halfB up (l.map fS) a) (l.map fun x=>canonN (mS x))=true:=by
 rw [half_has_iff];refine ⟨by rw [List.length_map],fun i h1 h2=>?_⟩;rw [List.getElem_map,inS_iff,nvl_canon];have h:=mid_between l[i]
 split
 ·unfold halfS
  split
  ·rw [lo_upH,hi_upH];grind
  ·rw [lo_lowH,hi_lowH];grind
 ·rw [lo_fS,hi_fS];exact h
/-! Volumes. -/
def volD (l:List SV):Dyadic:=(l.map wS).foldl (·*·) 1
def vr:List SV→Rat
 | []=>1
 | x::l=>(wS x).toRat*vr l
theorem vol_fold:∀ (l:List SV) (a:Dyadic),((l.map wS).foldl (·*·) a).toRat=a.toRat*vr l
 | [],a=>by simp [vr]
 | x::l,a=>by
  rw [List.map_cons,List.foldl_cons,vol_fold l,Dyadic.toRat_mul];show _=_*((wS x).toRat*vr l);rw [Rat.mul_assoc]
theorem vol_rat (l:List SV):(volD l).toRat=vr l:=by
 unfold volD;rw [vol_fold,show (1:Dyadic).toRat=1 by decide +kernel,Rat.one_mul]
theorem vr_form:∀ l:List SV,vr (l.map fS)=vr l
 | []=>rfl
 | x::l=>by
  show (wS (fS x)).toRat*vr (l.map fS)=_;rw [wS_fS,vr_form l];rfl
theorem vr_parts:∀ (l:List SV) (i:Nat) (h:i<l.length) (y z:SV),(wS y).toRat+(wS z).toRat=(wS l[i]).toRat→vr (l.set i y)+vr (l.set i z)=vr l
 | x::l,0,_,y,z,e=>by
  show (wS y).toRat*vr l+(wS z).toRat*vr l=(wS x).toRat*vr l;rw [← Rat.add_mul,e];rfl
 | x::l,i+1,h,y,z,e=>by
  show (wS x).toRat*vr (l.set i y)+(wS x).toRat*vr (l.set i z)=(wS x).toRat*vr l;rw [← Rat.mul_add,vr_parts l i (by simpa using h) y z (by simpa using e)]
theorem vol_halves (l:List SV) (a:Nat) (ha:a<l.length):volD (halfB false (l.map fS) a)+volD (halfB true (l.map fS) a)=volD l:=by
 rw [← Dyadic.toRat_inj,Dyadic.toRat_add,vol_rat,vol_rat,vol_rat,← vr_form l];unfold halfB;refine vr_parts _ a (by simpa using ha) _ _ ?_;rw [List.getD_eq_getElem?_getD,List.getElem?_eq_getElem (by simpa using ha)];simp only [Option.getD_some,List.getElem_map];rw [wS_half,wS_half,wS_fS]
 grind
theorem vr_nonneg:∀ l:List SV,0≤vr l
 | []=>by decide
 | x::l=>Rat.mul_nonneg (wS_nonneg x) (vr_nonneg l)
theorem vr_pos:∀ l:List SV,0<vr l↔∀ x∈l,0<(wS x).toRat
 | []=>⟨fun _ x h=>(by cases h),fun _=>(by decide:(0:Rat)<1)⟩
 | x::l=>by
  show 0<(wS x).toRat*vr l↔_;have h1:=wS_nonneg x;have h2:=vr_nonneg l;rw [List.forall_mem_cons,← vr_pos l]
  constructor
  ·intro h
   constructor
   ·rcases Rat.le_iff_lt_or_eq.1 h1 with k|k
    ·exact k
    ·rw [← k,Rat.zero_mul] at h;exact absurd h (by decide)
   ·rcases Rat.le_iff_lt_or_eq.1 h2 with k|k
    ·exact k
    ·rw [← k,Rat.mul_zero] at h;exact absurd h (by decide)
  ·rintro ⟨h3,h4⟩;exact Rat.mul_pos h3 h4
/-! Halved along the widest axis as often as it has axes. -/
theorem count_set {α:Type} (p:α→Bool):∀ (l:List α) (a:Nat) (h:a<l.length) (y:α),(l.set a y).countP p+(if p l[a] then 1 else 0)=l.countP p+(if p y then 1 else 0)
 | x::l,0,_,y=>by
  simp only [List.set_cons_zero,List.countP_cons,List.getElem_cons_zero];omega
 | x::l,a+1,h,y=>by
  have ih:=count_set p l a (by simpa using h) y;simp only [List.set_cons_succ,List.countP_cons,List.getElem_cons_succ];omega
def wide (W:Rat) (x:SV):Bool:=decide (W<2*(wS x).toRat)
theorem wide_fS (W:Rat) (x:SV):wide W (fS x)=wide W x:=by unfold wide;rw [wS_fS]
theorem count_form (W:Rat) (l:List SV):(l.map fS).countP (wide W)=l.countP (wide W):=by
 rw [List.countP_map]
 congr 1
 funext x
 exact wide_fS W x
theorem half_count (W:Rat) (up:Bool) (l:List SV) (a:Nat) (ha:a<l.length) (hW:∀ x∈l,(wS x).toRat≤W) (hw:∀ x∈l,(wS x).toRat≤(wS l[a]).toRat) :
  (halfB up (l.map fS) a).countP (wide W)≤l.countP (wide W)-1∧∀ x∈halfB up (l.map fS) a,(wS x).toRat≤W:=by
 have h0:=wS_nonneg l[a];have h1:=hW _ (List.getElem_mem ha);have hg:(l.map fS).getD a z6=fS l[a]:=by
  rw [List.getD_eq_getElem?_getD,List.getElem?_eq_getElem (by simpa using ha)];simp
 have hh:=wS_half up l[a]
 constructor
 ·have hc:=count_set (wide W) (l.map fS) a (by simpa using ha) (halfS up (fS l[a]));rw [count_form,List.getElem_map,wide_fS] at hc;have hn:wide W (halfS up (fS l[a]))=false:=by
   unfold wide;rw [hh,decide_eq_false_iff_not]
   grind
  rw [hn] at hc;unfold halfB;rw [hg]
  cases hk:wide W l[a] with
  | true=>rw [hk] at hc;simp only [if_true,if_false,Bool.false_eq_true] at hc;omega
  | false =>
   have hz:l.countP (wide W)=0:=by
    rw [List.countP_eq_zero];intro x hx;have h2:=hw x hx;unfold wide at hk ⊢;rw [decide_eq_false_iff_not] at hk;rw [decide_eq_true_iff]
    grind
   rw [hk,hz] at hc;simp only [if_false,Bool.false_eq_true] at hc;omega
 ·intro x hx;unfold halfB at hx;rw [hg] at hx
  rcases List.mem_or_eq_of_mem_set hx with hx|rfl
  ·obtain ⟨y,hy,rfl⟩:=List.mem_map.1 hx;rw [wS_fS];exact hW y hy
  ·rw [hh];grind
theorem count_none {W:Rat} {l:List SV} (h:l.countP (wide W)=0):∀ x∈l,2*(wS x).toRat≤W:=by
 intro x hx
 have:=(List.countP_eq_zero.1 h) x hx
 unfold wide at this;rw [decide_eq_true_iff] at this
 grind
theorem half_inside (up:Bool) (l m:List SV) (a:Nat) (h:withB l m=true):withB (halfB up (l.map fS) a) m=true:=by
 rw [half_with_iff];rw [withB_iff] at h;refine ⟨h.1,fun i hi h2=>?_⟩;have hk:=h.2 i hi h2;rw [wiS_iff] at hk;have e1:=mid_between l[i];have e2:(loS m[i]).toRat≤(loS l[i]).toRat∧(hiS l[i]).toRat≤(hiS m[i]).toRat:=by
  have h3:=(dlo_spec (nvl l[i].1) (nvl l[i].2)).2.2;have h4:=(dhi_spec (nvl l[i].1) (nvl l[i].2)).2.2;show (loS m[i]).toRat≤(dlo (nvl l[i].1) (nvl l[i].2)).toRat∧(dhi (nvl l[i].1) (nvl l[i].2)).toRat≤(hiS m[i]).toRat
  constructor
  ·rcases h3 with e|e <;> rw [e]
   ·exact hk.1.1
   ·exact hk.2.1
  ·rcases h4 with e|e <;> rw [e]
   ·exact hk.1.2
   ·exact hk.2.2
 have e3:=wiS_iff (fS l[i]) l[i]
 split
 ·have e4:=(wiS_iff _ _).1 (half_within up l[i]);rw [wiS_iff]
  grind
 ·have e4:=e3.1 (form_within l[i]);rw [wiS_iff]
  grind
end Go.Proofs.YtlmckjodahbgbaaGreatDoor
