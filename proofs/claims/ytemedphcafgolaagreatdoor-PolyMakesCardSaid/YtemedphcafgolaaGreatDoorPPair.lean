/- Make, Const, Var of both sides, in pairs: the same answers (PolyMakes). No function is walked in this text. -/
import Derived.Test.YtemedphcafgolaaGreatDoorPRVar
import Derived.Test.YtemedphcafgolaaGreatDoorPRDegs
import Derived.Test.YtemedphcafgolaaGreatDoorPClr
namespace Go.Proofs.YtemedphcafgolaaGreatDoor
open Go.RowKit Go.Shelf Go.Lib
def OutP (w w' : World) (e:Ending) (v g:Int) (r:List TV):Prop:=∃ (od:Option Addr) (oc:Nat),e=.returned (.tuple #[.agg #[.int .i64 v,.slice od r.length oc],.int .i64 g])∧r.length≤oc∧TAt w' od r∧(∀ lb lo,od=some ⟨lb,lo,none⟩→w.heap.size≤lb)∧Below w.heap.size w w'
def OutO (w w' : World) (e:Ending) (v g:Int) (r:List TV):Prop:=∃ (od:Option Addr) (oc:Nat),e=.returned (.tuple #[.agg #[.int .i64 v,.slice od r.length oc],.int .i64 g])∧r.length≤oc∧w'.ownsRow w.heap.size 58 4 (.slice od r.length oc) r.length (tcells r)∧Below w.heap.size w w'
theorem out_ok {w w' : World} {e:Ending} {v:Int} {r:List TV} (h:PolyOut w w' e v r):OutP w w' e v 0 r:=h
theorem out_bad {w w' : World} {e:Ending} {c:Int} (h:PolyErr w w' e c):OutP w w' e 0 c []:=by
 obtain ⟨rfl,h4⟩:=h;exact ⟨none,0,rfl,Nat.le_refl _,TAt.nil _ _,fun _ _ h=>(by cases h),h4⟩
theorem outo_bad {w w' : World} {e:Ending} {c:Int} (h:PolyErr w w' e c):OutO w w' e 0 c []:=by
 obtain ⟨rfl,h4⟩:=h;exact ⟨none,0,rfl,Nat.le_refl _,World.ownsRow_nil ..,h4⟩
def SzP (r:List TV):Prop:=r.length≤12∧∀ x∈r,x.1.size≤1000000∧x.2.2.1.size≤90000∧-10000000≤x.2.2.2∧x.2.2.2≤10000000
theorem heavy_sz {l:List TV} (h:pheavyB l=false):SzP l:=by
 obtain ⟨h1,h2⟩:=heavy_no h;exact ⟨h1,fun x hx=>by have:=h2 x hx;omega⟩
theorem good_sz {u A v:Nat} {l:List TV} (h:Good u A v l) (hv:v≤12) (hu:u≤2000) (hA:4000*(A*2 ^ 2000)<256 ^ 1000) (hl:l.length≤12):SzP l:=⟨hl,fun x hx=>by
 have h1:=(h.okN (k:=1000) (by decide) (by decide) hu (cap_one hA) x hx).1;have h2:=(may_parts (h.1 x hx).1).1;unfold fitsN at h1;omega⟩
theorem grid_fits {u A:Nat} (hu:u≤2000) (hA:4000*(A*2 ^ 2000)<256 ^ 1000) {l:List TD} (hg:GF u A l):∃ N,N<256 ^ 1000∧4000*N<256 ^ 1000∧Fits N l∧∀ x∈l,Fits N [x]:=
 ⟨A*2 ^ (2000-u),cap_one hA,cap_n (Nat.le_refl _) hA,GF.fits hu hg,fun x hx=>by
  obtain ⟨z,h1,h2⟩:=hg.mem hx;exact GF.fits hu (show GF u A [x] from ⟨z,0,h1,by omega,trivial⟩)⟩
theorem make_pair (v:Int) (l:List TV) (hh:pheavyB l=false):∃ (v' g:Int) (r:List TV),SzP r ∧
  (∀ (W:World) (ad:Option Addr) (n c:Nat),l.length=n→n≤c→TAt W ad l→Calls Tryz.prog 10 #[.int .i64 v,.slice ad n c] W (fun e w'=>OutO W w' e v' g r)) ∧
  ∀ (W:World) (ad:Option Addr) (n c:Nat),l.length=n→TAt W ad l→Calls Tryz.prog 11 #[.int .i64 v,.slice ad n c] W (fun e w'=>OutP W w' e v' g r):=by
 have h12:=(heavy_no hh).1;obtain ⟨N,hN,hN4,hf,hf1⟩:=grid_fits (u:=300) (A:=rawH) (by decide) raw_cap0 (heavy_gf hh);have hraw:=raw_fit hh
 by_cases hc:(0≤v∧v≤12)∧(∀ x∈l,mayB x.1 v=true)
 ·have hs:SzP ((polyOf (l.map tdv)).map canonT):=by
   obtain ⟨m,rfl⟩:∃ m:Nat,v=m:=⟨v.toNat,by omega⟩;have hl:=polyOf_len (l.map tdv);rw [List.length_map] at hl;exact good_sz (good_canon (v:=m) (fun z hz=>by
    obtain ⟨x,hx,rfl⟩:=List.mem_map.1 hz;exact may_td (hc.2 x hx)) (heavy_gf hh)) (by omega) (by decide) raw_cap0 (by rw [List.length_map];omega)
  refine ⟨v,0,_,hs,fun W ad n c hn hcc hp=>?_,fun W ad n c hn hp=>?_⟩
  ·refine (make_own W 1000 N (by decide) (by decide) v ad n c l hn hcc (by omega) (Nat.lt_of_le_of_lt (Nat.mul_le_mul_right _ (by omega:n≤4000)) hN4) hp (fun x hx=>⟨hf1 _ (List.mem_map_of_mem hx),hraw x hx⟩)).mono ?_;rintro e w' (⟨-,-,h⟩|⟨h,-⟩)
   ·exact h
   ·exact absurd hc h
  ·refine (prmake_any W N hN v ad n c l hn (by omega) hp hf hraw).mono ?_;rintro e w' (⟨-,-,h⟩|⟨h,-⟩)
   ·exact out_ok h
   ·exact absurd hc h
 ·refine ⟨0,1,[],⟨Nat.zero_le _,fun x hx=>absurd hx List.not_mem_nil⟩,fun W ad n c hn hcc hp=>?_,fun W ad n c hn hp=>?_⟩
  ·refine (make_own W 1000 N (by decide) (by decide) v ad n c l hn hcc (by omega) (Nat.lt_of_le_of_lt (Nat.mul_le_mul_right _ (by omega:n≤4000)) hN4) hp (fun x hx=>⟨hf1 _ (List.mem_map_of_mem hx),hraw x hx⟩)).mono ?_;rintro e w' (⟨h1,h2,-⟩|⟨-,h⟩)
   ·exact absurd ⟨h1,h2⟩ hc
   ·exact outo_bad h
  ·refine (prmake_any W N hN v ad n c l hn (by omega) hp hf hraw).mono ?_;rintro e w' (⟨h1,h2,-⟩|⟨-,h⟩)
   ·exact absurd ⟨h1,h2⟩ hc
   ·exact out_bad h
theorem far_gf {c:NV} (h:pfarB c=false):∀ s:ByteArray,s.size≤50→GF 300 rawH [tdv (s,c)]∧fitsN 1000 c:=fun s hs=>by
 have hh:pheavyB [(s,c)]=false:=by
  unfold pheavyB;simp only [List.length_singleton,List.any_cons,List.any_nil,Bool.or_false,Bool.or_eq_false_iff,decide_eq_false_iff_not];exact ⟨by omega,h,by omega⟩
 exact ⟨heavy_gf hh,(raw_fit hh _ List.mem_cons_self).1⟩
theorem oneB_size (n:Nat):(oneB n).size=n:=by
 show (List.replicate n (0:UInt8)).toArray.size=n;simp
theorem const_pair (v:Int) (m:Bool) (s:ByteArray) (d:Int) (hh:pfarB (m,s,d)=false):∃ (v' g:Int) (r:List TV),r.length≤12 ∧
  (∀ W:World,Calls Tryz.prog 18 #[.int .i64 v,.agg #[.bool m,.string s,.int .i64 d]] W (fun e w'=>OutP W w' e v' g r)) ∧
  ∀ W:World,Calls Tryz.prog 19 #[.int .i64 v,.agg #[.bool m,.string s,.int .i64 d]] W (fun e w'=>OutP W w' e v' g r):=by
 obtain ⟨u,hu⟩:∃ u,u=300:=⟨_,rfl⟩;have hu2:u≤2000:=by omega
 have hf:∀ n:Nat,n≤12→Fits (rawH*2 ^ (2000-u)) [tdv (oneB n,m,s,d)]:=fun n hn=>GF.fits hu2 (by rw [hu];exact (far_gf hh (oneB n) (by rw [oneB_size];omega)).1);have hf2:=(far_gf hh (oneB 0) (by rw [oneB_size];omega)).2
 by_cases hc:0≤v∧v≤12
 ·obtain ⟨n,rfl⟩:∃ n:Nat,v=n:=⟨v.toNat,by omega⟩;refine ⟨n,0,constV n (m,s,d),Nat.le_trans (const_len _ _) (by decide),fun W=>?_,fun W=>?_⟩
  ·refine (const_any W 1000 _ (by decide) (by decide) (n:Int) m s d hf hf2 (cap_one raw_cap0)).mono ?_;rintro e w' (⟨n',h1,-,h⟩|⟨h,-⟩)
   ·obtain rfl:n=n':=by omega
    exact out_ok h
   ·exact absurd hc h
  ·refine (prconst_any W _ (cap_one raw_cap0) (n:Int) m s d hf hf2).mono ?_;rintro e w' (⟨n',h1,-,h⟩|⟨h,-⟩)
   ·obtain rfl:n=n':=by omega
    exact out_ok h
   ·exact absurd hc h
 ·refine ⟨0,1,[],Nat.zero_le _,fun W=>?_,fun W=>?_⟩
  ·refine (const_any W 1000 _ (by decide) (by decide) v m s d hf hf2 (cap_one raw_cap0)).mono ?_;rintro e w' (⟨n',h1,h2,h⟩|⟨-,h⟩)
   ·omega
   ·exact out_bad h
  ·refine (prconst_any W _ (cap_one raw_cap0) v m s d hf hf2).mono ?_;rintro e w' (⟨n',h1,h2,h⟩|⟨-,h⟩)
   ·omega
   ·exact out_bad h
theorem var_len (n k:Nat):(varV n k).length≤1:=by
 unfold varV;rw [List.length_map];exact polyOf_len _
theorem var_pair (v u:Int):∃ (v' g:Int) (r:List TV),r.length≤12 ∧
  (∀ W:World,Calls Tryz.prog 20 #[.int .i64 v,.int .i64 u] W (fun e w'=>OutP W w' e v' g r)) ∧
  ∀ W:World,Calls Tryz.prog 21 #[.int .i64 v,.int .i64 u] W (fun e w'=>OutP W w' e v' g r):=by
 obtain ⟨N,hN,hf⟩:∃ N,N<256 ^ 1000∧∀ s:ByteArray,Fits N [tdv (s,oneN)]:=by
  obtain ⟨t,ht⟩:∃ t,t=0:=⟨_,rfl⟩;refine ⟨rawH*2 ^ (2000-t),cap_one raw_cap0,fun s=>GF.fits (u:=t) (by omega) ⟨1,0,by rw [ht];exact oneN_val.1,rawH_pos,trivial⟩⟩
 by_cases hc:(0≤v∧v≤12)∧0≤u∧u<v
 ·obtain ⟨n,rfl⟩:∃ n:Nat,v=n:=⟨v.toNat,by omega⟩;obtain ⟨k,rfl⟩:∃ k:Nat,u=k:=⟨u.toNat,by omega⟩;refine ⟨n,0,varV n k,Nat.le_trans (var_len _ _) (by decide),fun W=>?_,fun W=>?_⟩
  ·refine (pvar_any W N hN hf n k).mono ?_;rintro e w' (⟨n',k',h1,h2,-,-,h⟩|⟨h,-⟩)
   ·obtain rfl:n=n':=by omega
    obtain rfl:k=k':=by omega
    exact out_ok h
   ·exact absurd hc h
  ·refine (prvar_any W N hN hf n k).mono ?_;rintro e w' (⟨n',k',h1,h2,-,-,h⟩|⟨h,-⟩)
   ·obtain rfl:n=n':=by omega
    obtain rfl:k=k':=by omega
    exact out_ok h
   ·exact absurd hc h
 ·refine ⟨0,1,[],Nat.zero_le _,fun W=>?_,fun W=>?_⟩
  ·refine (pvar_any W N hN hf v u).mono ?_;rintro e w' (⟨n',k',h1,h2,h3,h4,h⟩|⟨-,h⟩)
   ·omega
   ·exact out_bad h
  ·refine (prvar_any W N hN hf v u).mono ?_;rintro e w' (⟨n',k',h1,h2,h3,h4,h⟩|⟨-,h⟩)
   ·omega
   ·exact out_bad h
end Go.Proofs.YtemedphcafgolaaGreatDoor
