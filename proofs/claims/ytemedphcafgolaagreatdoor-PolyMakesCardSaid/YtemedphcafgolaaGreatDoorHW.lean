/- Layer 1, laid together: WNum, WMem, W1, W2, WSg, WNum2, WRow, WApp, WAddNum, WAdd1, WAdd2, WAdd3, WMul, WUse, WHeld, WDiv, WShift, WPow, WBase, WArg, WArg2, WDag, WDag2. -/
import Derived.Test.YtemedphcafgolaaGreatDoorG3
import Derived.Deep.RegionHeld3
import Derived.Deep.DeepFit
import Derived.Laws.AppendOwnNone
import Derived.ChangeMaps5
import Derived.Deep.SlicePairs
import Derived.OpenShut
import Derived.Deep.Strs
import Derived.Carry
import Derived.ProofKit
/- Whole numbers,and the values that stand for them;no function is walked in this text. -/
namespace Go.Proofs.YtemedphcafgolaaGreatDoor
set_option maxRecDepth 100000
set_option maxHeartbeats 3200000
open Go.RowKit Go.Shelf
def wv (n:Bool) (s:ByteArray):Int:=if n then -(num s:Int) else num s
def wi (n:Bool) (s:ByteArray):Value:=.agg #[.bool n,.string s]
def wf (z:Int):Value:=wi (decide (z<0)) (fb z.natAbs)
theorem wv_false (s:ByteArray):wv false s=num s:=rfl
theorem wv_true (s:ByteArray):wv true s=-(num s:Int):=rfl
theorem wv_abs (n:Bool) (s:ByteArray):(wv n s).natAbs=num s:=by cases n <;> simp [wv]
theorem wf_sign (n:Bool) (m:Nat):wf (if n then -(m:Int) else m)=wi (n && decide (0<m)) (fb m):=by
 cases n
 ·show wi (decide ((m:Int)<0)) (fb (m:Int).natAbs)=wi false (fb m);rw [decide_eq_false (by omega)];rfl
 ·show wi (decide (-(m:Int)<0)) (fb (-(m:Int)).natAbs)=wi (true && decide (0<m)) (fb m);rw [Int.natAbs_neg,Bool.true_and]
  congr 1
  simp
theorem nmw {z:Int} {k:Nat} (h:z.natAbs<256 ^ k):∃ n s,wf z=wi n s∧wv n s=z∧s.size≤k:=
 ⟨decide (z<0),fb z.natAbs,rfl,by
  unfold wv;rw [num_fb]
  by_cases hz:z<0
  ·simp [hz];omega
  ·simp [hz];omega,fb_size_le h⟩
theorem wi_inj {m n:Bool} {s t:ByteArray} (h:wi m s=wi n t):m=n∧s=t:=by
 unfold wi at h;simpa using h
def sg (z:Int):Int:=if z=0 then 0 else if z<0 then -1 else 1
theorem bl_pos {n:Nat}:bl n=0↔n=0:=by
 constructor
 ·intro h
  rcases Nat.eq_zero_or_pos n with h0|h0
  ·exact h0
  ·have:=(bl_bounds h0).1;omega
 ·intro h;rw [h];rfl
theorem ediv_of {a b q r:Int} (hb:0<b) (h:b*q+r=a) (h0:0≤r) (h1:r<b):a / b=q∧a % b=r:=
 (Int.ediv_emod_unique hb).2 ⟨by rw [Int.add_comm];exact h,h0,h1⟩
theorem ediv_neg_nat (A B:Nat) (hB:0<B):(A % B=0→(-(A:Int)) / B=-((A / B:Nat):Int)∧(-(A:Int)) % B=0) ∧
  (A % B≠0→(-(A:Int)) / B=-((A / B+1:Nat):Int)∧(-(A:Int)) % B=((B-A % B:Nat):Int)):=by
 have e:B*(A / B)+A % B=A:=Nat.div_add_mod A B;have hr:A % B<B:=Nat.mod_lt A hB;have ei:(B:Int)*((A / B:Nat):Int)+((A % B:Nat):Int)=A:=by
  rw [← Int.natCast_mul,← Int.natCast_add,e]
 generalize A / B=Q at *;generalize A % B=R at *
 constructor
 ·intro h;refine ediv_of (by omega) ?_ (Int.le_refl _) (by omega);rw [Int.mul_neg];omega
 ·intro h;refine ediv_of (by omega) ?_ (by omega) (by omega);rw [Int.mul_neg,Int.natCast_add,Int.mul_add];omega
theorem ediv_small {z:Int} {k:Nat} (h:z.natAbs<2 ^ k):z / ((2 ^ k:Nat):Int)=if z<0 then -1 else 0:=by
 have hp:0<2 ^ k:=Nat.two_pow_pos k;generalize 2 ^ k=P at *
 by_cases hz:z<0
 ·rw [if_pos hz];exact (ediv_of (b:=(P:Int)) (q:=-1) (r:=z+P) (by omega) (by omega) (by omega) (by omega)).1
 ·rw [if_neg hz];exact (ediv_of (b:=(P:Int)) (q:=0) (r:=z) (by omega) (by omega) (by omega) (by omega)).1
def sI (n:Bool) (m:Nat):Int:=if n then -(m:Int) else m
theorem sI_div_plain (m n:Bool) (A B:Nat) (hB:0<B) (h:m=true→A % B=0):sI m A / sI n B=sI (m != n) (A / B)∧sI m A % sI n B=((A % B:Nat):Int):=by
 have hp:=(ediv_neg_nat A B hB).1
 cases m <;> cases n
 ·simp [sI]
 ·simp [sI]
 ·obtain ⟨h1,h2⟩:=hp (h rfl);simp only [sI,if_true,Bool.false_eq_true,if_false,Bool.bne_false];rw [h1,h2,h rfl];exact ⟨rfl,rfl⟩
 ·obtain ⟨h1,h2⟩:=hp (h rfl);simp only [sI,if_true,Bool.false_eq_true,if_false,bne_self_eq_false];rw [Int.ediv_neg,Int.emod_neg,h1,h2,h rfl,Int.neg_neg];exact ⟨rfl,rfl⟩
theorem sI_div_next (n:Bool) (A B:Nat) (hB:0<B) (h:A % B≠0):sI true A / sI n B=sI (true != n) (A / B+1)∧sI true A % sI n B=((B-A % B:Nat):Int):=by
 obtain ⟨h1,h2⟩:=(ediv_neg_nat A B hB).2 h
 cases n
 ·simp only [sI,if_true,Bool.false_eq_true,if_false,Bool.bne_false];rw [h1,h2];exact ⟨rfl,rfl⟩
 ·simp only [sI,if_true,Bool.false_eq_true,if_false,bne_self_eq_false];rw [Int.ediv_neg,Int.emod_neg,h1,h2,Int.neg_neg];exact ⟨rfl,rfl⟩
def shiftI (z n:Int):Int:=if 0≤n then z*((2 ^ n.toNat:Nat):Int) else z / ((2 ^ (-n).toNat:Nat):Int)
theorem sI_shr (m:Bool) (A k:Nat) (h:m=true→A % 2 ^ k=0):sI m A / ((2 ^ k:Nat):Int)=sI m (A / 2 ^ k):=by
 have:=(sI_div_plain m false A (2 ^ k) (Nat.two_pow_pos k) h).1
 simpa [sI] using this
theorem sI_shr_next (A k:Nat) (h:A % 2 ^ k≠0):sI true A / ((2 ^ k:Nat):Int)=sI true (A / 2 ^ k+1):=by
 have:=(sI_div_next false A (2 ^ k) (Nat.two_pow_pos k) h).1
 simpa [sI] using this
theorem odd_mod {z j k:Nat}:(2 ^ z*(2*j+1)) % 2 ^ k=0↔k≤z:=by
 constructor
 ·intro h
  rcases Nat.lt_or_ge z k with hlt|hge
  ·exfalso
   have h1:2 ^ (z+1)∣2 ^ z*(2*j+1):=Nat.dvd_trans (Nat.pow_dvd_pow 2 hlt) (Nat.dvd_of_mod_eq_zero h);rw [Nat.pow_succ] at h1;have h2:2∣2*j+1:=Nat.dvd_of_mul_dvd_mul_left (Nat.two_pow_pos z) h1;omega
  ·exact hge
 ·intro h;exact Nat.mod_eq_zero_of_dvd (Nat.dvd_trans (Nat.pow_dvd_pow 2 h) (Nat.dvd_mul_right _ _))
theorem wv_sI (n:Bool) (s:ByteArray):wv n s=sI n (num s):=rfl
theorem sI_mul (m n:Bool) (A B:Nat):sI m A*sI n B=sI (m != n) (A*B):=by
 cases m <;> cases n <;> simp [sI,Int.neg_mul,Int.mul_neg]
theorem sI_fb (n:Bool) (m:Nat):wv n (fb m)=sI n m:=by unfold wv sI;rw [num_fb]
theorem tz_lt_iff {A k:Nat} (h:0<A):tz A<k↔A % 2 ^ k≠0:=by
 obtain ⟨z,j,e⟩:=tz_ex h;have ht:tz A=z:=by rw [e,tz_of]
 rw [ht,e,Ne,odd_mod];omega
def Bk (W:World) (b:Nat) (cs:Array Value):Prop:=W.heap[b]?=some (.cells cs 24 (0,0))
section
variable {W W' : World} {b : Nat} {x y : Value} {cs : Array Value} {n : Bool} {s : ByteArray}
theorem Bk.lt (h:Bk W b cs):b<W.heap.size:=by
 rcases Nat.lt_or_ge b W.heap.size with hlt|hge
 ·exact hlt
 ·unfold Bk at h;rw [Array.getElem?_eq_none hge] at h;cases h
theorem Bk.new (w:World) (cs:Array Value):Bk (w.alloc (.cells cs 24)) w.heap.size cs:=heap_alloc_new w _
theorem Bk.alloc (h:Bk W b cs) (o:Obj):Bk (W.alloc o) b cs:=(Below.heap_alloc W o b h.lt).trans h
theorem Bk.below (h:Bk W b cs) (hq:Below W.heap.size W W'):Bk W' b cs:=(hq.block b h.lt).trans h
theorem Bk.drew (h:Bk W b cs):Bk W.drew b cs:=h
theorem Bk.set_ (h:Bk W b #[x,y]) (u v:Value):Bk ((W.setCell ⟨b,0,none⟩ u).setCell ⟨b,1,none⟩ v) b #[u,v]:=by
 unfold Bk at h ⊢;simp [World.setCell,Array.getElem?_modify,h]
theorem Bk.far (h:Bk W b cs) {p:Addr} (hp:b≠p.block) (u:Value):Bk (W.setCell p u) b cs:=(Below.heap_setCell W p u b hp).trans h
theorem Bk.fr {W:World} {b:Nat} {cs:Array Value} (h:Bk W b cs) (A k:Nat) (u:Value) (hp:b≠A:=by omega):Bk (W.setCell ⟨A,k,none⟩ u) b cs:=h.far (p:=⟨A,k,none⟩) hp u
theorem Bk.facts (h:Bk W b #[x,y]):W.cell? ⟨b,0,none⟩=some x∧W.cell? ⟨b,1,none⟩=some y∧W.frozen? ⟨b,0,none⟩=false∧W.frozen? ⟨b,1,none⟩=false:=by
 unfold Bk at h;refine ⟨?_,?_,?_,?_⟩
 ·rw [cell_of_row W b 0 _ _ _ h];rfl
 ·rw [cell_of_row W b 1 _ _ _ h];rfl
 ·simp [World.frozen?,h]
 ·simp [World.frozen?,h]
theorem Bk.cells (h:Bk W b #[x,y]):W.cell? ⟨b,0,none⟩=some x∧W.cell? ⟨b,1,none⟩=some y:=⟨h.facts.1,h.facts.2.1⟩
theorem held (h:W.cell? ⟨b,0,none⟩=some x∧W.cell? ⟨b,1,none⟩=some y) (hq:Below W.heap.size W W'):W'.cell? ⟨b,0,none⟩=some x∧W'.cell? ⟨b,1,none⟩=some y:=by
 have hl:=block_lt_of_cell h.1;have hl' : (⟨b,1,none⟩:Addr).block<W.heap.size:=hl;exact ⟨(hq.cell hl).trans h.1,(hq.cell hl').trans h.2⟩
theorem held_set {r i:Nat} {v:Value} (h:W.cell? ⟨b,0,none⟩=some x∧W.cell? ⟨b,1,none⟩=some y) (hr:b≠r):(W.setCell ⟨r,i,none⟩ v).cell? ⟨b,0,none⟩=some x∧(W.setCell ⟨r,i,none⟩ v).cell? ⟨b,1,none⟩=some y:=by
 have hk:(W.setCell ⟨r,i,none⟩ v).heap[b]?=W.heap[b]?:=Below.heap_setCell W _ v b hr;exact ⟨(World.cell?_of_block (w:=W) (a:=⟨b,0,none⟩) hk).trans h.1,(World.cell?_of_block (w:=W) (a:=⟨b,1,none⟩) hk).trans h.2⟩
theorem held_set2 {r i j:Nat} {u v:Value} (h:W.cell? ⟨b,0,none⟩=some x∧W.cell? ⟨b,1,none⟩=some y) (hr:b≠r) :
  ((W.setCell ⟨r,i,none⟩ u).setCell ⟨r,j,none⟩ v).cell? ⟨b,0,none⟩=some x∧((W.setCell ⟨r,i,none⟩ u).setCell ⟨r,j,none⟩ v).cell? ⟨b,1,none⟩=some y:=held_set (held_set h hr) hr
theorem held_alloc {o:Obj} (h:W.cell? ⟨b,0,none⟩=some x∧W.cell? ⟨b,1,none⟩=some y):(W.alloc o).cell? ⟨b,0,none⟩=some x∧(W.alloc o).cell? ⟨b,1,none⟩=some y:=
 ⟨cell_past h.1 o,cell_past h.2 o⟩
end
theorem held2 {W W' : World} {b c:Nat} {x y x2 y2:Value} (h:(W.cell? ⟨b,0,none⟩=some x∧W.cell? ⟨b,1,none⟩=some y)∧(W.cell? ⟨c,0,none⟩=some x2∧W.cell? ⟨c,1,none⟩=some y2)) (hq:Below W.heap.size W W'):(W'.cell? ⟨b,0,none⟩=some x∧W'.cell? ⟨b,1,none⟩=some y)∧(W'.cell? ⟨c,0,none⟩=some x2∧W'.cell? ⟨c,1,none⟩=some y2):=
 ⟨held (h.1) hq,held (h.2) hq⟩
theorem held2_set2 {W:World} {b c:Nat} {x y x2 y2:Value} {r i j:Nat} {u v:Value} (h:(W.cell? ⟨b,0,none⟩=some x∧W.cell? ⟨b,1,none⟩=some y)∧(W.cell? ⟨c,0,none⟩=some x2∧W.cell? ⟨c,1,none⟩=some y2)) (hr:b≠r∧c≠r):(((W.setCell ⟨r,i,none⟩ u).setCell ⟨r,j,none⟩ v).cell? ⟨b,0,none⟩=some x∧((W.setCell ⟨r,i,none⟩ u).setCell ⟨r,j,none⟩ v).cell? ⟨b,1,none⟩=some y)∧(((W.setCell ⟨r,i,none⟩ u).setCell ⟨r,j,none⟩ v).cell? ⟨c,0,none⟩=some x2∧((W.setCell ⟨r,i,none⟩ u).setCell ⟨r,j,none⟩ v).cell? ⟨c,1,none⟩=some y2):=
 ⟨held_set2 (h.1) (hr.1),held_set2 (h.2) (hr.2)⟩
theorem below_set2 {B:Nat} {w W:World} (h:Below B w W) {b:Nat} (hb:B≤b) (i j:Nat) (u v:Value):Below B w ((W.setCell ⟨b,i,none⟩ u).setCell ⟨b,j,none⟩ v):=(h.setCell hb u).setCell hb v
theorem infoI:(Tryz.prog.info? 24).map (·.size)=some 2:=by kernel_rfl
theorem fb_empty (m:Nat):(fb m).toList.isEmpty=decide (m=0):=by
 rw [ByteArray.toList_eq,fb_toList]
 by_cases h:m=0
 ·subst h;rfl
 ·rw [decide_eq_false h]
  cases hl:formL m with
  | nil=>exact absurd (formL_inj (hl.trans formL_zero.symm)) h
  | cons _ _=>rfl
theorem ret_whole {fn:Func} {p:Tmp} {tmps:Array Value} {W:World} {r:Nat} {n:Bool} {s:ByteArray} {Q:Ending→World→Prop} (h:fn.results=#[.cell p 24]) (hp:tmps.getD p undef=.pointer (some ⟨r,0,none⟩))
  (hr:Bk W r #[.bool n,.string s]) (hQ:Q (.returned (wi n s)) W):bodyPost Tryz.prog fn Q Exit.ret {tmps:=tmps,defers:=[] } W:=
 bodyPost_ret (results_cell_row h _ W r _ _ _ _ hp hr Tryz.underlying24 rfl infoI) rfl hQ
theorem blocks2 (w:World) (a b:Array Value):Bk ((w.alloc (.cells a 24)).alloc (.cells b 24)) w.heap.size a∧Bk ((w.alloc (.cells a 24)).alloc (.cells b 24)) (w.heap.size+1) b ∧
  Below w.heap.size w ((w.alloc (.cells a 24)).alloc (.cells b 24)):=by
 refine ⟨(Bk.new w a).alloc _,?_,((Below.refl _ _).alloc (Nat.le_refl _) _).alloc (by rw [World.size_alloc];omega) _⟩
 have:=Bk.new (w.alloc (.cells a 24)) b
 rwa [World.size_alloc] at this
theorem blocks3 (w:World) (a b c:Array Value):Bk (((w.alloc (.cells a 24)).alloc (.cells b 24)).alloc (.cells c 24)) w.heap.size a∧Bk (((w.alloc (.cells a 24)).alloc (.cells b 24)).alloc (.cells c 24)) (w.heap.size+1) b ∧
  Bk (((w.alloc (.cells a 24)).alloc (.cells b 24)).alloc (.cells c 24)) (w.heap.size+1+1) c∧Below w.heap.size w (((w.alloc (.cells a 24)).alloc (.cells b 24)).alloc (.cells c 24)):=by
 obtain ⟨h1,h2,h3⟩:=blocks2 w a b;refine ⟨h1.alloc _,h2.alloc _,?_,h3.alloc (by rw [World.size_alloc,World.size_alloc];omega) _⟩
 have:=Bk.new ((w.alloc (.cells a 24)).alloc (.cells b 24)) c
 rwa [World.size_alloc,World.size_alloc] at this
theorem blocks1 (w:World) (a:Array Value):Bk (w.alloc (.cells a 24)) w.heap.size a∧Below w.heap.size w (w.alloc (.cells a 24)):=
 ⟨Bk.new w a,(Below.refl _ _).alloc (Nat.le_refl _) _⟩
theorem blocks4 (w:World) (a b c d:Array Value):Bk ((((w.alloc (.cells a 24)).alloc (.cells b 24)).alloc (.cells c 24)).alloc (.cells d 24)) w.heap.size a∧Bk ((((w.alloc (.cells a 24)).alloc (.cells b 24)).alloc (.cells c 24)).alloc (.cells d 24)) (w.heap.size+1) b ∧
  Bk ((((w.alloc (.cells a 24)).alloc (.cells b 24)).alloc (.cells c 24)).alloc (.cells d 24)) (w.heap.size+1+1) c∧Bk ((((w.alloc (.cells a 24)).alloc (.cells b 24)).alloc (.cells c 24)).alloc (.cells d 24)) (w.heap.size+1+1+1) d∧Below w.heap.size w ((((w.alloc (.cells a 24)).alloc (.cells b 24)).alloc (.cells c 24)).alloc (.cells d 24)):=by
 obtain ⟨h1,h2,h3,h4⟩:=blocks3 w a b c;refine ⟨h1.alloc _,h2.alloc _,h3.alloc _,?_,h4.alloc (by rw [World.size_alloc,World.size_alloc,World.size_alloc];omega) _⟩
 have:=Bk.new (((w.alloc (.cells a 24)).alloc (.cells b 24)).alloc (.cells c 24)) d
 rwa [World.size_alloc,World.size_alloc,World.size_alloc] at this
theorem results_two {fn:Func} {p q u:Tmp} {tmps:Array Value} {W:World} {r1 r2:Nat} {cs ds:Array Value} {v:Value} (h:fn.results=#[.cell p 24,.cell q 24,.tmp u]) (hp:tmps.getD p undef=.pointer (some ⟨r1,0,none⟩)) (hq:tmps.getD q undef=.pointer (some ⟨r2,0,none⟩)) (hu:tmps.getD u undef=v)
  (h1:Bk W r1 cs) (h2:Bk W r2 ds) (hc:cs.size=2) (hd:ds.size=2):(results fn tmps).run Tryz.prog W=.ok (.tuple #[.agg cs,.agg ds,v]) W:=by
 have hp' : tmps[p]?.getD undef=.pointer (some ⟨r1,0,none⟩):=by simpa using hp
 have hq' : tmps[q]?.getD undef=.pointer (some ⟨r2,0,none⟩):=by simpa using hq
 have hu' : tmps[u]?.getD undef=v:=by simpa using hu
 have e1:=run_loadVar_row (P:=Tryz.prog) W r1 _ 24 cs _ _ h1 Tryz.underlying24 rfl (by rw [hc];exact infoI);have e2:=run_loadVar_row (P:=Tryz.prog) W r2 _ 24 ds _ _ h2 Tryz.underlying24 rfl (by rw [hd];exact infoI);simp [results,h,hp',hq',hu',asAddr,e1,e2]
theorem ret_two {fn:Func} {p q u:Tmp} {tmps:Array Value} {W:World} {r1 r2:Nat} {x y x' y' v:Value} {Q:Ending→World→Prop} (h:fn.results=#[.cell p 24,.cell q 24,.tmp u]) (hp:tmps.getD p undef=.pointer (some ⟨r1,0,none⟩)) (hq:tmps.getD q undef=.pointer (some ⟨r2,0,none⟩)) (hu:tmps.getD u undef=v)
  (h1:Bk W r1 #[x,y]) (h2:Bk W r2 #[x',y']) (hQ:Q (.returned (.tuple #[.agg #[x,y],.agg #[x',y'],v])) W):bodyPost Tryz.prog fn Q Exit.ret {tmps:=tmps,defers:=[] } W:=
 bodyPost_ret (results_two h hp hq hu h1 h2 rfl rfl) rfl hQ
theorem two_set {W:World} {c d:Nat} {x y x' y' : Value} (hC:Bk W c #[x,y]) (hD:Bk W d #[x',y']) (hne:c≠d) (u v u' v' : Value):Bk ((((W.setCell ⟨c,0,none⟩ u).setCell ⟨c,1,none⟩ v).setCell ⟨d,0,none⟩ u').setCell ⟨d,1,none⟩ v') c #[u,v]∧Bk ((((W.setCell ⟨c,0,none⟩ u).setCell ⟨c,1,none⟩ v).setCell ⟨d,0,none⟩ u').setCell ⟨d,1,none⟩ v') d #[u',v']:=
 ⟨((hC.set_ u v).far hne u').far hne v',((hD.far (Ne.symm hne) u).far (Ne.symm hne) v).set_ u' v'⟩
theorem below_set4 {B:Nat} {w W:World} (h:Below B w W) {c d:Nat} (hc:B≤c) (hd:B≤d) (u v u' v' : Value):Below B w ((((W.setCell ⟨c,0,none⟩ u).setCell ⟨c,1,none⟩ v).setCell ⟨d,0,none⟩ u').setCell ⟨d,1,none⟩ v'):=
 below_set2 (below_set2 h hc _ _ _ _) hd _ _ _ _
theorem signed_any (w:World) (n:Bool) (s:ByteArray) (m:Nat) (z:Bool) (o:ByteArray) (hs:fb m=s) (hz:wf (sI n m)=wi z o) :
  Calls Tryz.prog 123 #[.bool n,.string s] w (Ret (.agg #[.bool z,.string o]) w):=by
 show Calls _ _ _ _ (Ret (wi z o) w);rw [← hz];clear hz;have hw:wf (sI n m)=wi (n && decide (0<m)) (fb m):=wf_sign n m;have he:=fb_empty m;rw [hs] at hw he;obtain ⟨e,hd⟩:∃ e,decide (m=0)=e:=⟨_,rfl⟩;have hd2:decide (0<m)=!e:=by rw [← hd];by_cases h:m=0 <;> simp [h];omega
 rw [hd] at he;rw [hw,hd2];clear hw hd hd2 hs;go_enter Tryz.func123,Tryz.ntmps123
 cases n
 ·go_wp2;exact ret_whole rfl rfl (Bk.new _ _) ⟨rfl,(blocks1 w _).2⟩
 ·cases e
  ·go_wp2;exact ret_whole rfl rfl (Bk.new _ _) ⟨rfl,(blocks1 w _).2⟩
  ·go_wp2;exact ret_whole rfl rfl (Bk.new _ _) ⟨rfl,(blocks1 w _).2⟩
theorem next_any (w:World) (s:ByteArray) (hs:s.size≤1000000) (o:ByteArray) (ho:fb (num s+1)=o) :
  Calls Tryz.prog 165 #[.string s] w (Ret (.string o) w):=by
 have hb:=Below.refl w.heap.size w;go_enter Tryz.func165,Tryz.ntmps165;go_wp2_with fail;refine (use_of _ ⟨#[1]⟩ 1 (by unfold B64;omega) (by kernel_rfl)).mono ?_;rintro e W ⟨rfl,hq⟩;replace hb:=below_next hb hq;clear hq;go_wp2_with fail;refine (use_add _ s ⟨#[1]⟩ o hs (by decide) (by rw [show num ⟨#[1]⟩=1 from by kernel_rfl,ho])).mono ?_;rintro e W ⟨rfl,hq⟩;replace hb:=below_next hb hq;clear hq;go_wp2;go_ret;exact ⟨rfl,hb⟩
theorem wform_any (w:World) (n:Bool) (s:ByteArray) (hs:s.size≤100000000) (z:Bool) (o:ByteArray) (hz:wf (wv n s)=wi z o) :
  Calls Tryz.prog 93 #[wi n s] w (Ret (.agg #[.bool z,.string o]) w):=by
 unfold wi;go_enter Tryz.func93,Tryz.ntmps93;go_wp2_with fail;obtain ⟨hin,hr,hb⟩:=blocks2 w #[.bool n,.string s] #[.bool false,.string ⟨#[]⟩];generalize ((w.alloc (.cells #[.bool n,.string s] 24)).alloc (.cells #[.bool false,.string ⟨#[]⟩] 24))=W0 at *;replace hin:=hin.drew.cells;replace hr:=hr.drew;replace hb:=hb.drew;have HZ:=Lib.hid hz;clear hz
 go_region_held3 (fun w'=>w'.cell? ⟨w.heap.size,0,none⟩=some (.bool n)∧w'.cell? ⟨w.heap.size,1,none⟩=some (.string s))
  (first|assumption|exact held (by assumption) (by assumption)|exact held_set2 (by assumption) (by omega))
  (first
   | (go_at_call 124;refine (use_trim _ s _ hs rfl).mono ?_;rintro e W1 ⟨rfl,hq⟩;replace hb:=below_next hb hq;replace hr:=hr.below hq)
   | (go_at_call 123;refine (signed_any _ n _ (num s) z o rfl HZ.out).mono ?_;rintro e W2 ⟨rfl,hq⟩;replace hb:=below_next hb hq;replace hr:=hr.below hq;obtain ⟨hr0,hr1,hr2,hr3⟩:=hr.facts))
 go_wp2;exact ret_whole rfl rfl (hr.set_ _ _) ⟨rfl,below_set2 hb (by omega) _ _ _ _⟩
theorem wof_any (w:World) (n:Int) (h1:-9223372036854775808≤n) (h2:n≤9223372036854775807) (z:Bool) (o:ByteArray) (hz:wf n=wi z o) :
  Calls Tryz.prog 72 #[.int .i64 n] w (Ret (.agg #[.bool z,.string o]) w):=by
 obtain ⟨hz1,hz2⟩:=wi_inj hz;clear hz;have HZ:=Lib.hid hz2;clear hz2;subst hz1;go_enter Tryz.func72,Tryz.ntmps72;obtain ⟨hr,hb⟩:=blocks1 w #[.bool false,.string ⟨#[]⟩]
 by_cases h:n<0
 ·have hd:decide (n<0)=true:=by simp [h]
  have ha:IntKind.u64.wrap (-IntKind.u64.wrap n)=(n.natAbs:Int):=by rw [IntKind.wrap_u64,IntKind.wrap_u64];omega
  have ha2:n.natAbs<B64:=by unfold B64;omega
  rw [hd];go_wp2_with fail;generalize (w.alloc (.cells #[.bool false,.string ⟨#[]⟩] 24))=W0 at *;refine (use_of _ o n.natAbs ha2 HZ.out).mono ?_;rintro e W ⟨rfl,hq⟩;replace hb:=below_next hb hq;replace hr:=hr.below hq;obtain ⟨hr0,hr1,hr2,hr3⟩:=hr.facts;go_wp2;exact ret_whole rfl rfl (hr.set_ _ _) ⟨rfl,below_set2 hb (by omega) _ _ _ _⟩
 ·have hd:decide (n<0)=false:=by simp [h]
  have ha:n=(n.natAbs:Int):=by omega
  have ha2:n.natAbs<B64:=by unfold B64;omega
  rw [hd];generalize n.natAbs=m at *;subst ha;go_wp2_with fail;generalize (w.alloc (.cells #[.bool false,.string ⟨#[]⟩] 24))=W0 at *;refine (use_of _ o m ha2 HZ.out).mono ?_;rintro e W ⟨rfl,hq⟩;replace hb:=below_next hb hq;replace hr:=hr.below hq;obtain ⟨hr0,hr1,hr2,hr3⟩:=hr.facts;go_wp2;exact ret_whole rfl rfl (hr.set_ _ _) ⟨rfl,below_set2 hb (by omega) _ _ _ _⟩
theorem wsign_any (w:World) (n:Bool) (s:ByteArray) (hs:s.size≤100000000) (c:Int) (hc:sg (wv n s)=c) :
  Calls Tryz.prog 65 #[wi n s] w (Ret (.int .i64 c) w):=by
 subst hc;unfold wi;obtain ⟨hin,hb⟩:=blocks1 w #[.bool n,.string s];go_enter Tryz.func65,Tryz.ntmps65;go_wp2_with fail;generalize (w.alloc (.cells #[.bool n,.string s] 24))=W0 at *;refine (use_len _ s _ hs rfl).mono ?_;rintro e W ⟨rfl,hq⟩;replace hb:=below_next hb hq;have hin2:=(hin.below hq).cells;obtain ⟨hin3,hin4⟩:=hin2
 by_cases h0:num s=0
 ·have hc:sg (wv n s)=0:=by cases n <;> simp [sg,wv,h0]
  rw [h0,bl_zero];clear h0;go_wp2;go_ret;exact ⟨by rw [hc];rfl,hb⟩
 ·have hbl:(((bl (num s):Nat):Int) == 0)=false:=by simp;exact fun h=>h0 (bl_pos.1 h)
  cases n
  ·have hc:sg (wv false s)=1:=by unfold sg;rw [wv_false,if_neg (by omega),if_neg (by omega)]
   go_wp2;go_ret;exact ⟨by rw [hc];rfl,hb⟩
  ·have hc:sg (wv true s)=-1:=by unfold sg;rw [wv_true,if_neg (by omega),if_pos (by omega)]
   go_wp2;go_ret;exact ⟨by rw [hc];rfl,hb⟩
theorem sg_cases (z:Int):(z=0∧sg z=0)∨(z<0∧sg z=-1)∨(0<z∧sg z=1):=by
 unfold sg
 by_cases h0:z=0
 ·exact .inl ⟨h0,by rw [if_pos h0]⟩
 ·by_cases h1:z<0
  ·exact .inr (.inl ⟨h1,by rw [if_neg h0,if_pos h1]⟩)
  ·exact .inr (.inr ⟨by omega,by rw [if_neg h0,if_neg h1]⟩)
theorem cmpN_cases (A B:Nat):(A=B∧cmpN A B=0)∨(A<B∧cmpN A B=-1)∨(B<A∧cmpN A B=1):=by
 unfold cmpN
 by_cases h0:A<B
 ·exact .inr (.inl ⟨h0,by rw [if_pos h0]⟩)
 ·by_cases h1:B<A
  ·exact .inr (.inr ⟨h1,by rw [if_neg h0,if_pos h1]⟩)
  ·exact .inl ⟨by omega,by rw [if_neg h0,if_neg h1]⟩
theorem sg_less {y z:Int} (h:sg y≠sg z):sg (y-z)=if sg y<sg z then -1 else 1:=by
 rcases sg_cases y with ⟨a,b⟩|⟨a,b⟩|⟨a,b⟩ <;> rcases sg_cases z with ⟨c,d⟩|⟨c,d⟩|⟨c,d⟩ <;> rcases sg_cases (y-z) with ⟨e,f⟩|⟨e,f⟩|⟨e,f⟩ <;>
  first|(exfalso;omega)|(rw [b,d,f];rfl)
theorem sg_same (m n:Bool) (A B:Nat) (h:sg (sI m A)=sg (sI n B)):sg (sI m A-sI n B)=sg (sI m A)*cmpN A B:=by
 rcases sg_cases (sI m A) with ⟨a,b⟩|⟨a,b⟩|⟨a,b⟩ <;> rcases sg_cases (sI n B) with ⟨c,d⟩|⟨c,d⟩|⟨c,d⟩ <;> rcases sg_cases (sI m A-sI n B) with ⟨e,f⟩|⟨e,f⟩|⟨e,f⟩ <;>
  rcases cmpN_cases A B with ⟨g,i⟩|⟨g,i⟩|⟨g,i⟩ <;> rw [b,d] at h <;>
  first|(exfalso;revert h;decide)|(rw [b,f,i];rfl)|(exfalso;clear h b d f i;cases m <;> cases n <;> simp only [sI,if_true,if_false,Bool.false_eq_true] at a c e <;> omega)
theorem wcmp_any (w:World) (m n:Bool) (s t:ByteArray) (hs:s.size≤100000000) (ht:t.size≤100000000) (c:Int) (hc:sg (wv m s-wv n t)=c) :
  Calls Tryz.prog 87 #[wi m s,wi n t] w (Ret (.int .i64 c) w):=by
 have HC:=Lib.hid hc;clear hc;unfold wi;go_enter Tryz.func87,Tryz.ntmps87;go_wp2_with fail;obtain ⟨hA,hB,hb⟩:=blocks2 w #[.bool m,.string s] #[.bool n,.string t];generalize ((w.alloc (.cells #[.bool m,.string s] 24)).alloc (.cells #[.bool n,.string t] 24))=W0 at *;obtain ⟨g,hg⟩:∃ g,sg (wv m s)=g:=⟨_,rfl⟩;obtain ⟨k,hk⟩:∃ k,sg (wv n t)=k:=⟨_,rfl⟩;have hg2:g=0∨g=-1∨g=1:=by rw [← hg];rcases sg_cases (wv m s) with ⟨_,h⟩|⟨_,h⟩|⟨_,h⟩ <;> rw [h] <;> omega
 have hk2:-1≤k∧k≤1:=by rw [← hk];rcases sg_cases (wv n t) with ⟨_,h⟩|⟨_,h⟩|⟨_,h⟩ <;> rw [h] <;> omega
 have HG:=Lib.hid hg;clear hg;have HK:=Lib.hid hk;clear hk;refine (wsign_any _ m s hs g HG.out).mono ?_;rintro e W1 ⟨rfl,hq⟩;replace hb:=below_next hb hq;replace hA:=hA.below hq;replace hB:=hB.below hq;obtain ⟨hA0,hA1⟩:=hA.cells;obtain ⟨hB0,hB1⟩:=hB.cells;clear hq;go_wp2_with fail;refine (wsign_any _ n t ht k HK.out).mono ?_;rintro e W2 ⟨rfl,hq⟩;replace hb:=below_next hb hq;replace hA:=hA.below hq;replace hB:=hB.below hq;clear hA0 hA1 hB0 hB1;obtain ⟨hA0,hA1⟩:=hA.cells;obtain ⟨hB0,hB1⟩:=hB.cells;clear hq
 by_cases he:g=k
 ·subst he;have hr:=sg_same m n (num s) (num t) (HG.out.trans HK.out.symm);rw [← wv_sI,← wv_sI,HC.out,HG.out] at hr;obtain ⟨d,hd⟩:∃ d,cmpN (num s) (num t)=d:=⟨_,rfl⟩;rw [hd] at hr;have hd2:-1≤d∧d≤1:=by rw [← hd];rcases cmpN_cases (num s) (num t) with ⟨_,h⟩|⟨_,h⟩|⟨_,h⟩ <;> rw [h] <;> omega
  have HD:=Lib.hid hd;clear hd;have HR:=Lib.hid hr;clear hr
  rcases hg2 with rfl|rfl|rfl
  all_goals
   go_wp2_with fail;refine (use_cmp _ s t d HD.out).mono ?_;rintro e W ⟨rfl,hq⟩;replace hb:=below_next hb hq;clear hq;go_wp2;go_ret;refine ⟨?_,hb⟩;rw [HR.out]
   first|rfl|simp
 ·have hne:sg (wv m s)≠sg (wv n t):=by rw [HG.out,HK.out];exact he
  have hr:=sg_less hne;rw [HC.out,HG.out,HK.out] at hr;have HR:=Lib.hid hr;clear hr hne;go_wp2_with fail;refine (Tryz.cmp_Compare_int g k _).mono ?_;rintro e W ⟨rfl,rfl⟩;have hcc:Lib.compareInt g k=c:=by
   unfold Lib.compareInt;rw [HR.out]
   by_cases hgk:g<k
   ·rw [if_pos hgk,if_pos hgk]
   ·rw [if_neg hgk,if_neg hgk,if_pos (by omega)]
  go_wp2;go_ret;exact ⟨rfl,hb⟩
theorem wv_lt {n:Bool} {s:ByteArray} {k:Nat} (h:s.size≤k):(wv n s).natAbs<256 ^ k:=by rw [wv_abs];exact lt_size h
theorem form_nmw (n:Bool) (t:ByteArray) {k:Nat} (h:t.size≤k):∃ p u,wf (wv n t)=wi p u∧wv p u=wv n t∧u.size≤k:=nmw (wv_lt h)
theorem plus_nmw (m n:Bool) (s t:ByteArray) {k:Nat} (hs:s.size≤k) (ht:t.size≤k):∃ p u,wf (wv m s+wv n t)=wi p u∧wv p u=wv m s+wv n t∧u.size≤k+1:=by
 refine nmw ?_;have h1:=Int.natAbs_add_le (wv m s) (wv n t);have h2:=lt_add (wv_lt (n:=m) hs) (wv_lt (n:=n) ht);omega
theorem times_nmw (m n:Bool) (s t:ByteArray) {k l:Nat} (hs:s.size≤k) (ht:t.size≤l):∃ p u,wf (wv m s*wv n t)=wi p u∧wv p u=wv m s*wv n t∧u.size≤k+l:=by
 refine nmw ?_;rw [Int.natAbs_mul];exact lt_mul (wv_lt hs) (wv_lt ht)
abbrev IV:=Bool × ByteArray
def IAt (w:World) (ad:Option Addr) (l:List IV):Prop:=∀ i (h:i<l.length),∃ lb lo,ad=some ⟨lb,lo,none⟩∧lb<w.heap.size ∧
 w.cell? ⟨lb,lo+i*2,none⟩=some (.bool l[i].1)∧w.cell? ⟨lb,lo+i*2+1,none⟩=some (.string l[i].2)
theorem IAt.below {w w' : World} {ad:Option Addr} {l:List IV} (h:IAt w ad l) (hb:Below w.heap.size w w'):IAt w' ad l:=by
 intro i hi;obtain ⟨lb,lo,e,hl,h1,h2⟩:=h i hi;have hsz:=hb.size;exact ⟨lb,lo,e,by omega,by rw [hb.cell hl];exact h1,by rw [hb.cell hl];exact h2⟩
def icells:List IV→List Value
 | []=>[]
 | x::l=>.bool x.1::.string x.2::icells l
theorem icells_get:∀ (l:List IV) (i:Nat) (h:i<l.length),(icells l)[i*2]?=some (.bool l[i].1)∧(icells l)[i*2+1]?=some (.string l[i].2)
 | [],i,h=>by simp at h
 | x::l,0,h=>⟨rfl,rfl⟩
 | x::l,i+1,h=>by
  have:=icells_get l i (by simpa using h)
  rw [show (i+1)*2=i*2+1+1 by omega];exact this
theorem IAt.new (w:World) (t:TypeId) (l:List IV) (L:Array Value) (hL:L=(icells l).toArray):IAt (w.alloc (.cells L t)) (some ⟨w.heap.size,0,none⟩) l:=by
 subst hL;intro i hi;have hR:=Rw.new w t (icells l);have h:=icells_get l i hi;refine ⟨w.heap.size,0,rfl,by rw [World.size_alloc];omega,?_,?_⟩
 ·rw [Nat.zero_add,hR.cell];exact h.1
 ·rw [Nat.zero_add,hR.cell];exact h.2
theorem IAt.nil (w:World) (ad:Option Addr):IAt w ad []:=fun i h=>by simp at h
def sv (s:ByteArray):Value:=.string s
def OwnS (w:World) (g cap:Nat) (ds:List ByteArray):Prop:=∃ T L,Rw w g T L∧ds.length≤cap∧cap=L.length∧cap≤maxLen∧L.take ds.length=ds.map sv
section
variable {w w' : World} {g cap : Nat}
theorem OwnS.lt {ds:List ByteArray} (h:OwnS w g cap ds):g<w.heap.size:=by obtain ⟨_,_,h,_⟩:=h;exact h.lt
theorem OwnS.le {ds:List ByteArray} (h:OwnS w g cap ds):ds.length≤cap:=by obtain ⟨_,_,_,h,_⟩:=h;exact h
theorem OwnS.max {ds:List ByteArray} (h:OwnS w g cap ds):cap≤maxLen:=by obtain ⟨_,_,_,_,_,h,_⟩:=h;exact h
theorem OwnS.cell {ds:List ByteArray} (h:OwnS w g cap ds) (i:Nat) (hi:i<ds.length):w.cell? ⟨g,0+i,none⟩=some (.string ds[i]):=by
 obtain ⟨T,L,h,h1,h2,h3,h4⟩:=h;rw [Nat.zero_add,h.cell]
 have:(L.take ds.length)[i]?=(ds.map sv)[i]?:=by rw [h4]
 rw [List.getElem?_take_of_lt hi] at this;rw [this];simp [hi,sv]
theorem OwnS.grown {ds:List ByteArray} {row:Option Nat} (h:OwnS w g cap ds) (hg:w.grownBy w' row) (hne:some g≠row):OwnS w' g cap ds:=by
 obtain ⟨T,L,h,r⟩:=h;exact ⟨T,L,h.grown hg hne,r⟩
theorem OwnS.below {ds:List ByteArray} {B:Nat} (h:OwnS w g cap ds) (hb:Below B w w') (hlt:g<B):OwnS w' g cap ds:=by
 obtain ⟨T,L,h,r⟩:=h;exact ⟨T,L,h.below hb hlt,r⟩
theorem OwnS.alloc {ds:List ByteArray} (h:OwnS w g cap ds) (o:Obj):OwnS (w.alloc o) g cap ds:=by
 obtain ⟨T,L,h,r⟩:=h;exact ⟨T,L,h.alloc o,r⟩
theorem OwnS.parts {ds:List ByteArray} (h:OwnS w g cap ds):∃ T post,Rw w g T ([]++ds.map sv++post)∧cap=ds.length+post.length∧cap≤maxLen:=by
 obtain ⟨T,L,h,h1,h2,h3,h4⟩:=h;refine ⟨T,L.drop ds.length,?_,by simp;omega,h3⟩;rw [List.nil_append,← h4,List.take_append_drop];exact h
theorem OwnS.of_parts {ds:List ByteArray} {T:TypeId} {post:List Value} (h:Rw w g T ([]++ds.map sv++post)) (hc:cap=ds.length+post.length) (hm:cap≤maxLen):OwnS w g cap ds:=
 ⟨T,_,h,by omega,by simp [hc],hm,by simp⟩
theorem OwnS.empty {T:TypeId} {L:List Value} (h:Rw w g T L) (hm:L.length≤maxLen):OwnS w g L.length []:=⟨T,L,h,Nat.zero_le _,rfl,hm,by simp [List.take_zero]⟩
end
theorem infoS:(Tryz.prog.info? 9).map (fun i=>(i.zero,i.size,i.bytes))=some (some (.string ⟨#[]⟩),1,16):=by kernel_rfl
theorem run_append_str (w:World) (ty:TypeId) (g cap:Nat) (ds:List ByteArray) (n:Nat) (hn:ds.length=n) (h:OwnS w g cap ds) (a:Addr) (x:ByteArray) (c:Nat) (hx:∀ j u,[sv x][j]?=some u→w.cell? (a.add j)=some u) (hmax:n≤1000000000000) :
  ∃ g' cap' w',(Builtin.append_ #[156,156] ty #[.slice (some ⟨g,0,none⟩) n cap,.slice (some a) 1 c]).run Tryz.prog w=.ok (.slice (some ⟨g',0,none⟩) (n+1) cap') w' ∧
   OwnS w' g' cap' (ds++[x])∧w.grownBy w' (some g)∧(g'=g∨g'=w.heap.size):=by
 subst hn;obtain ⟨i,hi,hz,hs,hb⟩:=info_parts infoS;obtain ⟨T,L,hR,h1,h2,h3,h4⟩:=h;have h1c:∀ u∈[sv x],u.oneCell'=true:=by intro u hu;simp at hu;subst hu;rfl
 by_cases hroom:ds.length+1≤cap
 ·have hf:=run_firstCells_some (P:=Tryz.prog) w i.size 1 a 1 c [sv x] (by simp [hs]) hx;have hst:=run_storeCells_at Tryz.prog g (ds.length*i.size) T [sv x] 0 L.toArray w hR (by simp [hs];omega) h1c;simp only [Nat.add_zero] at hst;refine ⟨g,cap,w.setRow g (L.take ds.length++[sv x]++L.drop (ds.length+1)).toArray,?_,⟨T,L.take ds.length++[sv x]++L.drop (ds.length+1),?_,by simpa using hroom,?_,h3,?_⟩,?_,.inl rfl⟩
  ·rw [hs,Nat.mul_one] at hst;simp only [hs] at hf;simp [Builtin.append_,run_underlying Tryz.underlying156,sizeOf,typeInfo,hi,Builtin.lenOf,hroom,hs,hf,Addr.add_lit,hst]
  ·exact setRow_heap w g L.toArray _ T _ hR
  ·simp;omega
  ·rw [List.length_append,List.length_singleton,List.take_left' (by rw [List.length_append,List.length_take,List.length_singleton];omega),h4];simp
  ·exact ⟨rfl,rfl,rfl,by simp,fun k _ hk=>setRow_other w g k _ (fun e=>hk (by rw [e]))⟩
 ·have hcap:cap=ds.length:=by omega
  have hold:∀ j u,(ds.map sv)[j]?=some u→w.cell? ((⟨g,0,none⟩:Addr).add j)=some u:=by
   intro j u hj;rw [addr_add0,hR.cell,← hj,← h4,List.getElem?_take_of_lt]
   have:=(List.getElem?_eq_some_iff.1 hj).1
   simpa using this
  have hr:=run_append_grow (P:=Tryz.prog) w 156 ty 9 i _ Tryz.underlying156 hi hz ⟨g,0,none⟩ ds.length cap (ds.map sv) (by rw [List.length_map,hs,Nat.mul_one]) hold a 1 c [sv x] (by simp [hs]) hx (by omega) (by omega) (growslice_fits (by omega) (by rw [hb];omega));have hZs:=size_zeroCells (Value.cells (.string ⟨#[]⟩)) (grownCap w (ds.length+1) cap 9-(ds.length+1));have hge:=grownCap_ge w (ds.length+1) cap 9;have hle:=grownCap_le_maxLen w (ds.length+1) cap 9 (by unfold maxLen;omega);rw [show (Value.cells (.string ⟨#[]⟩)).size=1 from rfl,Nat.mul_one] at hZs;generalize Builtin.zeroCells (Value.cells (.string ⟨#[]⟩)) (grownCap w (ds.length+1) cap 9-(ds.length+1))=Z at hr hZs;generalize grownCap w (ds.length+1) cap 9=G at *;have hL:(ds.map sv).toArray++[sv x].toArray++Z=(ds.map sv++[sv x]++Z.toList).toArray:=by
   apply Array.ext';simp
  rw [hL] at hr;refine ⟨_,_,_,hr,⟨9,ds.map sv++[sv x]++Z.toList,heap_alloc_new w.drew _,?_,?_,hle,?_⟩,⟨rfl,rfl,rfl,by simp,fun k hk _=>Below.heap_alloc w.drew _ k hk⟩,.inr rfl⟩
  ·rw [List.length_append,List.length_singleton];exact hge
  ·have hz' : Z.toList.length=Z.size:=Array.length_toList;rw [List.length_append,List.length_append,List.length_map,List.length_singleton,hz'];omega
  ·rw [List.length_append,List.length_singleton,List.take_left' (by simp)];simp
theorem wpList_append_str {w:World} {ops:Array Oper} {rest:List Oper} {o:Oper} {a:Act} {Q:Exit→Act→World→Prop} (hgd:o.guard=none) (s y:Operand)
  (ho:o.op=.call { callee:=.builtin .append,args:=#[s,y],argTypes:=#[156,156] })
  (g cap:Nat) (ds:List ByteArray) (n:Nat) (hs:a.eval s=.slice (some ⟨g,0,none⟩) n cap) (hn:ds.length=n) (h:OwnS w g cap ds) (b:Addr) (x:ByteArray) (c:Nat) (hy:a.eval y=.slice (some b) 1 c)
  (hx:∀ j u,[sv x][j]?=some u→w.cell? (b.add j)=some u) (hmax:n≤1000000000000)
  (hk:∀ g' cap' w',OwnS w' g' cap' (ds++[x])→w.grownBy w' (some g)→(g'=g∨g'=w.heap.size)→wpList Tryz.prog ops Q rest (a.put o.dst (.slice (some ⟨g',0,none⟩) (n+1) cap')) w'):wpList Tryz.prog ops Q (o::rest) a w:=by
 refine wpList_plain hgd fun K hK=>?_;obtain ⟨g',cap',w',hr,h2,h3,h4⟩:=run_append_str w o.type g cap ds n hn h b x c hx hmax;unfold Oper.wp execOp;simp only [ho,resolve,invoke,builtin,Sem.run_bind,Sem.run_pure,Result.andThen_ok,List.map_toArray,List.map_cons,List.map_nil,hs,hy,hr];exact hK _ _ (hk g' cap' w' h2 h3 h4)
theorem one_str (w:World) (x:ByteArray):∀ j u,[sv x][j]?=some u→(w.alloc (.cells #[.string x] 9)).cell? ((⟨w.heap.size,0,none⟩:Addr).add j)=some u:=by
 intro j u hj;have h:=(Rw.new w 9 [sv x]).cell j;rw [addr_add0];exact h.trans hj
theorem OwnS.rows {w:World} {g cap:Nat} {l:List ByteArray} (h:OwnS w g cap l):∀ i (h:i<l.length),∃ lb lo,some (⟨g,0,none⟩:Addr)=some ⟨lb,lo,none⟩∧lb<w.heap.size∧w.cell? ⟨lb,lo+i,none⟩=some (.string l[i]):=
 fun i hi=>⟨g,0,rfl,h.lt,h.cell i hi⟩
def sumI (l:List IV) (k:Nat):Int:=((l.take k).map fun x=>wv x.1 x.2).sum
theorem sumI_succ {l:List IV} {k:Nat} (h:k<l.length):sumI l (k+1)=sumI l k+wv l[k].1 l[k].2:=by
 unfold sumI;rw [List.take_succ_eq_append_getElem h,List.map_append,List.sum_append];show _+(wv l[k].1 l[k].2+0)=_;rw [Int.add_zero]
def sumS (l:List ByteArray):Nat:=(l.map num).sum
theorem sumS_one (s:ByteArray):sumS [s]=num s:=by simp [sumS]
theorem sumS_snoc (l:List ByteArray) (s:ByteArray):sumS (l++[s])=sumS l+num s:=by simp [sumS]
theorem sumTo_all (l:List ByteArray):sumTo l l.length=sumS l:=by unfold sumTo sumS;rw [List.take_length]
theorem sumS_le (l:List ByteArray) (B:Nat) (h:∀ s∈l,s.size≤B):sumS l≤l.length*256 ^ B:=by
 induction l with
 | nil=>simp [sumS]
 | cons s l ih =>
  have h1:=ih fun t ht=>h t (List.mem_cons_of_mem _ ht);have h2:num s≤256 ^ B:=Nat.le_of_lt (Nat.lt_of_lt_of_le (num_lt s) (Nat.pow_le_pow_right (by omega) (h s (List.mem_cons_self ..))));have h3:sumS (s::l)=num s+sumS l:=by simp [sumS]
  rw [h3,List.length_cons,Nat.add_mul,Nat.one_mul];omega
theorem sumS_size {l:List ByteArray} {B:Nat} (h:∀ s∈l,s.size≤B) (hl:l.length≤1000000):(fb (sumS l)).size≤B+3:=by
 refine fb_size_le ?_;have h1:=sumS_le l B h;have h2:l.length*256 ^ B≤1000000*256 ^ B:=Nat.mul_le_mul_right _ hl;have h3:0<256 ^ B:=Nat.pow_pos (by omega);rw [Nat.pow_add];omega
theorem wgrown_any (w:World) (g cap n:Nat) (ds:List ByteArray) (s:ByteArray) (hd:OwnS w g cap ds) (hn:ds.length=n) (hmax:n≤10000000) :
  Calls Tryz.prog 141 #[.slice (some ⟨g,0,none⟩) n cap,.string s] w fun e w'=>∃ g' cap',e=.returned (.slice (some ⟨g',0,none⟩) (n+1) cap')∧OwnS w' g' cap' (ds++[s])∧w.grownBy w' (some g)∧(g'=g∨w.heap.size≤g'):=by
 go_enter Tryz.func141,Tryz.ntmps141;go_wp2_with (first
  | (at_builtin;refine wpList_append_str rfl (.tmp 5) (.tmp 7) rfl g cap ds n rfl hn (hd.alloc _) ⟨w.heap.size,0,none⟩ s 1 rfl (one_str w s) (by omega) ?_))
 intro g' cap' w' hO hg ha;go_wp2;go_ret;refine ⟨g',cap',rfl,hO,grown_trans (World.grownBy_alloc w _ (some g)) hg,?_⟩
 rcases ha with h|h
 ·exact .inl h
 ·right
  omega
theorem wtotal_any (w:World) (g cap n:Nat) (ds:List ByteArray) (hd:OwnS w g cap ds) (hn:ds.length=n) (hmax:n≤1000) (hs:∀ s∈ds,s.size≤100000) (o:ByteArray) (ho:fb (sumS ds)=o) :
  Calls Tryz.prog 167 #[.slice (some ⟨g,0,none⟩) n cap] w (Ret (.string o) w):=by
 have hb:=Below.refl w.heap.size w;subst hn;go_enter Tryz.func167,Tryz.ntmps167;go_wp2_with fail;refine (add_any _ _ ds ds.length cap rfl (by omega) (fun s h=>by have:=hs s h;omega) hd.rows).mono ?_;rintro e W ⟨rfl,hq⟩;replace hb:=below_next hb hq;clear hq;rw [sumTo_all,ho];go_wp2;go_ret;exact ⟨rfl,hb⟩
theorem wbare_any (w:World) (g cap n:Nat) (ds:List ByteArray) (hd:OwnS w g cap ds) (hn:ds.length=n) (hmax:n≤1000) (hs:∀ s∈ds,s.size≤100000) :
  Calls Tryz.prog 168 #[.slice (some ⟨g,0,none⟩) n cap] w fun e w'=>∃ t,e=.returned (.string t)∧num t=sumS ds∧t.size≤100003∧Below w.heap.size w w':=by
 have hb:=Below.refl w.heap.size w
 by_cases h1:n=1
 ·subst h1;obtain ⟨s,rfl⟩:∃ s,ds=[s]:=by
   match ds,hn with
   | [s],_=>exact ⟨s,rfl⟩
  have hc:=hd.cell 0 (by simp);simp only [List.getElem_cons_zero,Nat.add_zero] at hc;have hsz:=hs s (by simp);have hv:=sumS_one s;go_enter Tryz.func168,Tryz.ntmps168;clear hd hn hs hmax;have HV:=Lib.hid hv;clear hv;go_wp2;go_ret;exact ⟨s,rfl,HV.out.symm,by omega,hb⟩
 ·go_enter Tryz.func168,Tryz.ntmps168;go_wp2_with fail;refine (wtotal_any _ g cap n ds hd hn hmax hs _ rfl).mono ?_;rintro e W ⟨rfl,hq⟩;replace hb:=below_next hb hq;clear hq;go_wp2;go_ret;exact ⟨_,rfl,num_fb _,sumS_size hs (by omega),hb⟩
def Bd (W:World) (b:Nat) (cs:Array Value):Prop:=W.heap[b]?=some (.cells cs 158 (0,0))
section
variable {W W' : World} {b : Nat} {x y : Value} {cs : Array Value}
theorem Bd.lt (h:Bd W b cs):b<W.heap.size:=by
 rcases Nat.lt_or_ge b W.heap.size with hlt|hge
 ·exact hlt
 ·unfold Bd at h;rw [Array.getElem?_eq_none hge] at h;cases h
theorem Bd.new (w:World) (cs:Array Value):Bd (w.alloc (.cells cs 158)) w.heap.size cs:=heap_alloc_new w _
theorem Bd.alloc (h:Bd W b cs) (o:Obj):Bd (W.alloc o) b cs:=(Below.heap_alloc W o b h.lt).trans h
theorem Bd.below (h:Bd W b cs) (hq:Below W.heap.size W W'):Bd W' b cs:=(hq.block b h.lt).trans h
theorem Bd.grown {g:Nat} (h:Bd W b cs) (hq:W.grownBy W' (some g)) (hne:b≠g):Bd W' b cs:=(hq.block b h.lt (by simp;exact hne)).trans h
theorem Bd.drew (h:Bd W b cs):Bd W.drew b cs:=h
theorem Bd.set0 (h:Bd W b #[x,y]) (u:Value):Bd (W.setCell ⟨b,0,none⟩ u) b #[u,y]:=by
 unfold Bd at h ⊢;simp [World.setCell,Array.getElem?_modify,h]
theorem Bd.far (h:Bd W b cs) {p:Addr} (hp:b≠p.block) (u:Value):Bd (W.setCell p u) b cs:=(Below.heap_setCell W p u b hp).trans h
theorem Bd.facts (h:Bd W b #[x,y]):W.cell? ⟨b,0,none⟩=some x∧W.cell? ⟨b,1,none⟩=some y∧W.frozen? ⟨b,0,none⟩=false∧W.frozen? ⟨b,1,none⟩=false:=by
 unfold Bd at h;refine ⟨?_,?_,?_,?_⟩
 ·rw [cell_of_row W b 0 _ _ _ h];rfl
 ·rw [cell_of_row W b 1 _ _ _ h];rfl
 ·simp [World.frozen?,h]
 ·simp [World.frozen?,h]
theorem Bd.cells (h:Bd W b #[x,y]):W.cell? ⟨b,0,none⟩=some x∧W.cell? ⟨b,1,none⟩=some y:=⟨h.facts.1,h.facts.2.1⟩
end
theorem sides1 (w:World) (a c:Array Value):Bd ((w.alloc (.cells a 158)).alloc (.cells c 24)) w.heap.size a∧Bk ((w.alloc (.cells a 158)).alloc (.cells c 24)) (w.heap.size+1) c ∧
  Below w.heap.size w ((w.alloc (.cells a 158)).alloc (.cells c 24)):=by
 refine ⟨(Bd.new w a).alloc _,?_,((Below.refl _ _).alloc (Nat.le_refl _) _).alloc (by rw [World.size_alloc];omega) _⟩
 have:=Bk.new (w.alloc (.cells a 158)) c
 rwa [World.size_alloc] at this
theorem sides2 (w:World) (a b c:Array Value):Bd (((w.alloc (.cells a 158)).alloc (.cells b 158)).alloc (.cells c 24)) w.heap.size a∧Bd (((w.alloc (.cells a 158)).alloc (.cells b 158)).alloc (.cells c 24)) (w.heap.size+1) b ∧
  Bk (((w.alloc (.cells a 158)).alloc (.cells b 158)).alloc (.cells c 24)) (w.heap.size+1+1) c∧Below w.heap.size w (((w.alloc (.cells a 158)).alloc (.cells b 158)).alloc (.cells c 24)):=by
 have h2:=Bd.new (w.alloc (.cells a 158)) b;rw [World.size_alloc] at h2;refine ⟨((Bd.new w a).alloc _).alloc _,h2.alloc _,?_,(((Below.refl _ _).alloc (Nat.le_refl _) _).alloc (by rw [World.size_alloc];omega) _).alloc (by rw [World.size_alloc,World.size_alloc];omega) _⟩
 have:=Bk.new ((w.alloc (.cells a 158)).alloc (.cells b 158)) c
 rwa [World.size_alloc,World.size_alloc] at this
theorem wsum_any (w:World) (g cap n:Nat) (ds:List ByteArray) (q:Bool) (hd:OwnS w g cap ds) (hn:ds.length=n) (hmax:n≤1000) (hs:∀ s∈ds,s.size≤100000) (z:Bool) (o:ByteArray) (hz:wf (sI q (sumS ds))=wi z o) :
  Calls Tryz.prog 142 #[.agg #[.slice (some ⟨g,0,none⟩) n cap,.bool q]] w (Ret (.agg #[.bool z,.string o]) w):=by
 have HZ:=Lib.hid hz;clear hz;have HN:=Lib.hid hn;clear hn;go_enter Tryz.func142,Tryz.ntmps142;go_wp2_with fail;obtain ⟨hA,hC,hb⟩:=sides1 w #[.slice (some { block:=g,off:=0 }) n cap,.bool q] #[.bool false,.string ⟨#[]⟩];have hO:=(hd.alloc (.cells #[.slice (some { block:=g,off:=0 }) n cap,.bool q] 158)).alloc (.cells #[.bool false,.string ⟨#[]⟩] 24);generalize ((w.alloc (.cells #[.slice (some { block:=g,off:=0 }) n cap,.bool q] 158)).alloc (.cells #[.bool false,.string ⟨#[]⟩] 24))=W0 at *;replace hO:OwnS W0.drew g cap ds:=hO;replace hC:=hC.drew;replace hb:=hb.drew;have hin:=hA.drew.cells;clear hA hd
 go_region_held3 (fun w'=>w'.cell? ⟨w.heap.size,0,none⟩=some (.slice (some ⟨g,0,none⟩) n cap)∧w'.cell? ⟨w.heap.size,1,none⟩=some (.bool q))
  (first|assumption|exact held (by assumption) (by assumption)|exact held_set2 (by assumption) (by omega))
  (first
   | (go_at_call 167;refine (wtotal_any _ g cap n ds hO HN.out hmax hs _ rfl).mono ?_;rintro e W1 ⟨rfl,hq⟩;replace hb:=below_next hb hq;replace hC:=hC.below hq)
   | (go_at_call 123;refine (signed_any _ q _ (sumS ds) z o rfl HZ.out).mono ?_;rintro e W2 ⟨rfl,hq⟩;replace hb:=below_next hb hq;replace hC:=hC.below hq;obtain ⟨hC0,hC1,hC2,hC3⟩:=hC.facts))
 go_wp2;exact ret_whole rfl rfl (hC.set_ _ _) ⟨rfl,below_set2 hb (by omega) _ _ _ _⟩
theorem wless_any (w:World) (g1 cap1 n1 g2 cap2 n2:Nat) (xs ys:List ByteArray) (p q:Bool) (hx:OwnS w g1 cap1 xs) (hy:OwnS w g2 cap2 ys) (hn1:xs.length=n1) (hn2:ys.length=n2) (hm1:n1≤1000) (hm2:n2≤1000)
  (hs:∀ s∈xs,s.size≤100000) (ht:∀ s∈ys,s.size≤100000) (z:Bool) (o:ByteArray) (hz:wf (if sumS ys≤sumS xs then sI p (sumS xs-sumS ys) else sI q (sumS ys-sumS xs))=wi z o) :
  Calls Tryz.prog 143 #[.agg #[.slice (some ⟨g1,0,none⟩) n1 cap1,.bool p],.agg #[.slice (some ⟨g2,0,none⟩) n2 cap2,.bool q]] w (Ret (.agg #[.bool z,.string o]) w):=by
 have HZ:=Lib.hid hz;clear hz;have HN:=Lib.hid hn1;clear hn1;have HM:=Lib.hid hn2;clear hn2;go_enter Tryz.func143,Tryz.ntmps143;go_wp2_with fail;obtain ⟨hA,hB,hC,hb⟩:=sides2 w #[.slice (some { block:=g1,off:=0 }) n1 cap1,.bool p] #[.slice (some { block:=g2,off:=0 }) n2 cap2,.bool q] #[.bool false,.string ⟨#[]⟩];replace hx:=((hx.alloc (.cells #[.slice (some { block:=g1,off:=0 }) n1 cap1,.bool p] 158)).alloc (.cells #[.slice (some { block:=g2,off:=0 }) n2 cap2,.bool q] 158)).alloc (.cells #[.bool false,.string ⟨#[]⟩] 24);replace hy:=((hy.alloc (.cells #[.slice (some { block:=g1,off:=0 }) n1 cap1,.bool p] 158)).alloc (.cells #[.slice (some { block:=g2,off:=0 }) n2 cap2,.bool q] 158)).alloc (.cells #[.bool false,.string ⟨#[]⟩] 24);generalize (((w.alloc (.cells #[.slice (some { block:=g1,off:=0 }) n1 cap1,.bool p] 158)).alloc (.cells #[.slice (some { block:=g2,off:=0 }) n2 cap2,.bool q] 158)).alloc (.cells #[.bool false,.string ⟨#[]⟩] 24))=W0 at *;replace hx:OwnS W0.drew g1 cap1 xs:=hx;replace hy:OwnS W0.drew g2 cap2 ys:=hy;replace hC:=hC.drew;replace hb:=hb.drew;have hin:=And.intro hA.drew.cells hB.drew.cells;clear hA hB
 go_region_held3 (fun w'=>(w'.cell? ⟨w.heap.size,0,none⟩=some (.slice (some ⟨g1,0,none⟩) n1 cap1)∧w'.cell? ⟨w.heap.size,1,none⟩=some (.bool p))∧(w'.cell? ⟨w.heap.size+1,0,none⟩=some (.slice (some ⟨g2,0,none⟩) n2 cap2)∧w'.cell? ⟨w.heap.size+1,1,none⟩=some (.bool q)))
  (first|assumption|exact held2 (by assumption) (by assumption)|exact held2_set2 (by assumption) (by omega))
  (first
   | (go_at_call 168;refine (wbare_any _ g1 cap1 n1 xs hx HN.out hm1 hs).mono ?_;rintro e W1 ⟨t1,rfl,hv1,hz1,hq⟩;replace hb:=below_next hb hq;replace hC:=hC.below hq;replace hy:=hy.below hq hy.lt;clear hx)
   | (go_at_call 168;refine (wbare_any _ g2 cap2 n2 ys hy HM.out hm2 ht).mono ?_;rintro e W2 ⟨t2,rfl,hv2,hz2,hq⟩;replace hb:=below_next hb hq;replace hC:=hC.below hq;clear hy))
 rename_i hH
 have hin2:=hH;clear hin hq
 by_cases hle:sumS ys≤sumS xs
 ·obtain ⟨L,hL⟩:∃ L,fb (sumS xs-sumS ys)=L:=⟨_,rfl⟩;have hz2:wf (sI p (sumS xs-sumS ys))=wi z o:=by rw [← HZ.out,if_pos hle]
  have hk1:fb (num t1-num t2)=L:=by rw [hv1,hv2,hL]
  have hk2:decide (num t2≤num t1)=true:=by rw [hv1,hv2];exact decide_eq_true hle
  have HS:=Lib.hid (And.intro hL (And.intro hz2 (And.intro hk1 hk2)));clear hL hz2 hk1 hk2 hv1 hv2 hle HN HM hs ht;obtain ⟨⟨hA0,hA1⟩,hB0,hB1⟩:=hin2;go_wp2_with fail;refine (use_sub _ t1 t2 L true (by omega) (by omega) HS.out.2.2.1 HS.out.2.2.2).mono ?_;rintro e W3 ⟨rfl,hq⟩;replace hb:=below_next hb hq;replace hC:=hC.below hq;replace hH:=held2 hH hq;clear hA0 hA1 hB0 hB1 hq;obtain ⟨⟨hA0,hA1⟩,hB0,hB1⟩:=hH;go_wp2_with fail;refine (signed_any _ p L (sumS xs-sumS ys) z o HS.out.1 HS.out.2.1).mono ?_;rintro e W4 ⟨rfl,hq⟩;replace hb:=below_next hb hq;replace hC:=hC.below hq;obtain ⟨hC0,hC1,hC2,hC3⟩:=hC.facts;clear hq hA0 hA1 hB0 hB1;go_wp2;exact ret_whole rfl rfl (hC.set_ _ _) ⟨rfl,below_set2 hb (by omega) _ _ _ _⟩
 ·obtain ⟨L,hL⟩:∃ L,fb (sumS ys-sumS xs)=L:=⟨_,rfl⟩;have hz2:wf (sI q (sumS ys-sumS xs))=wi z o:=by rw [← HZ.out,if_neg hle]
  have hk1:fb (num t2-num t1)=L:=by rw [hv1,hv2,hL]
  have hk2:decide (num t2≤num t1)=false:=by rw [hv1,hv2];exact decide_eq_false hle
  have hk3:decide (num t1≤num t2)=true:=by rw [hv1,hv2];exact decide_eq_true (by omega)
  have HS:=Lib.hid (And.intro hL (And.intro hz2 (And.intro hk1 (And.intro hk2 hk3))));clear hL hz2 hk1 hk2 hk3 hv1 hv2 hle HN HM hs ht;obtain ⟨⟨hA0,hA1⟩,hB0,hB1⟩:=hin2;go_wp2_with fail;refine (use_sub _ t1 t2 _ false (by omega) (by omega) rfl HS.out.2.2.2.1).mono ?_;rintro e W3 ⟨rfl,hq⟩;replace hb:=below_next hb hq;replace hC:=hC.below hq;replace hH:=held2 hH hq;clear hA0 hA1 hB0 hB1 hq;have hin3:=hH;obtain ⟨⟨hA0,hA1⟩,hB0,hB1⟩:=hin3;go_wp2_with fail;refine (use_sub _ t2 t1 L true (by omega) (by omega) HS.out.2.2.1 HS.out.2.2.2.2).mono ?_;rintro e W4 ⟨rfl,hq⟩;replace hb:=below_next hb hq;replace hC:=hC.below hq;replace hH:=held2 hH hq;clear hA0 hA1 hB0 hB1 hq;obtain ⟨⟨hA0,hA1⟩,hB0,hB1⟩:=hH;go_wp2_with fail;refine (signed_any _ q L (sumS ys-sumS xs) z o HS.out.1 HS.out.2.1).mono ?_;rintro e W5 ⟨rfl,hq⟩;replace hb:=below_next hb hq;replace hC:=hC.below hq;obtain ⟨hC0,hC1,hC2,hC3⟩:=hC.facts;clear hq hA0 hA1 hB0 hB1;go_wp2;exact ret_whole rfl rfl (hC.set_ _ _) ⟨rfl,below_set2 hb (by omega) _ _ _ _⟩
theorem OwnS.far {w:World} {g cap:Nat} {ds:List ByteArray} (h:OwnS w g cap ds) {p:Addr} (hp:g≠p.block) (u:Value):OwnS (w.setCell p u) g cap ds:=by
 obtain ⟨T,L,h,r⟩:=h;exact ⟨T,L,(Below.heap_setCell w p u g hp).trans h,r⟩
structure AW (w W:World) (l:List IV) (k p q g1 cap1:Nat) (xs:List ByteArray) (g2 cap2:Nat) (ys:List ByteArray):Prop where
 res:Bk W w.heap.size #[.bool false,.string ⟨#[]⟩]
 up:Bd W p #[.slice (some ⟨g1,0,none⟩) xs.length cap1,.bool false]
 down:Bd W q #[.slice (some ⟨g2,0,none⟩) ys.length cap2,.bool true]
 ox:OwnS W g1 cap1 xs
 oy:OwnS W g2 cap2 ys
 below:Below w.heap.size w W
 val:(sumS xs:Int)-(sumS ys:Int)=sumI l k
 len:xs.length+ys.length=k
 sx:∀ s∈xs,s.size≤100000
 sy:∀ s∈ys,s.size≤100000
 far:w.heap.size<p∧w.heap.size<q∧w.heap.size<g1∧w.heap.size<g2∧p≠q∧g1≠g2∧g1≠p∧g1≠q∧g2≠p∧g2≠q
theorem AW.alloc {w W:World} {l:List IV} {k p q g1 cap1:Nat} {xs:List ByteArray} {g2 cap2:Nat} {ys:List ByteArray} (h:AW w W l k p q g1 cap1 xs g2 cap2 ys) (o:Obj):AW w (W.alloc o) l k p q g1 cap1 xs g2 cap2 ys:=
 ⟨h.res.alloc o,h.up.alloc o,h.down.alloc o,h.ox.alloc o,h.oy.alloc o,h.below.alloc h.below.size o,h.val,h.len,h.sx,h.sy,h.far⟩
theorem AW.goUp {w V V' : World} {l:List IV} {k p q g1 cap1:Nat} {xs:List ByteArray} {g2 cap2:Nat} {ys:List ByteArray} (h:AW w V l k p q g1 cap1 xs g2 cap2 ys) {s:ByteArray} (hk:k<l.length) (hx:l[k]=(false,s)) (hs:s.size≤100000)
  {g' cap' : Nat} (hO:OwnS V' g' cap' (xs++[s])) (hg:V.grownBy V' (some g1)) (ha:g'=g1∨V.heap.size≤g') :
  AW w (V'.setCell ⟨p,0,none⟩ (.slice (some ⟨g',0,none⟩) (xs.length+1) cap')) l (k+1) p q g' cap' (xs++[s]) g2 cap2 ys:=by
 obtain ⟨f1,f2,f3,f4,f5,f6,f7,f8,f9,f10⟩:=h.far;have l1:=h.up.lt;have l2:=h.down.lt;have l3:=h.oy.lt;have l4:=h.res.lt;have e1:g'≠g2∧g'≠p∧g'≠q∧w.heap.size<g':=by omega
 refine ⟨?_,?_,?_,hO.far e1.2.1 _,?_,(below_grown h.below h.below.size hg (by omega)).setCell (by show w.heap.size≤p;omega) _,?_,?_,?_,h.sy,by omega⟩
 ·exact Bk.far ((hg.block _ l4 (by simp;omega)).trans h.res) (by show w.heap.size≠p;omega) _
 ·have:=(h.up.grown hg (by omega)).set0 (.slice (some ⟨g',0,none⟩) (xs.length+1) cap')
  rw [List.length_append,List.length_singleton];exact this
 ·exact (h.down.grown hg (by omega)).far (by show q≠p;omega) _
 ·exact (h.oy.grown hg (by simp;omega)).far (by show g2≠p;omega) _
 ·rw [sumS_snoc,sumI_succ hk,hx,← h.val];show _=_+(num s:Int);omega
 ·have:=h.len
  rw [List.length_append,List.length_singleton];omega
 ·intro t ht;rw [List.mem_append,List.mem_singleton] at ht
  rcases ht with ht|rfl
  ·exact h.sx t ht
  ·exact hs
theorem AW.goDown {w V V' : World} {l:List IV} {k p q g1 cap1:Nat} {xs:List ByteArray} {g2 cap2:Nat} {ys:List ByteArray} (h:AW w V l k p q g1 cap1 xs g2 cap2 ys) {s:ByteArray} (hk:k<l.length) (hx:l[k]=(true,s)) (hs:s.size≤100000)
  {g' cap' : Nat} (hO:OwnS V' g' cap' (ys++[s])) (hg:V.grownBy V' (some g2)) (ha:g'=g2∨V.heap.size≤g') :
  AW w (V'.setCell ⟨q,0,none⟩ (.slice (some ⟨g',0,none⟩) (ys.length+1) cap')) l (k+1) p q g1 cap1 xs g' cap' (ys++[s]):=by
 obtain ⟨f1,f2,f3,f4,f5,f6,f7,f8,f9,f10⟩:=h.far;have l1:=h.up.lt;have l2:=h.down.lt;have l3:=h.ox.lt;have l4:=h.res.lt;have e1:g'≠g1∧g'≠p∧g'≠q∧w.heap.size<g':=by omega
 refine ⟨?_,?_,?_,?_,hO.far e1.2.2.1 _,(below_grown h.below h.below.size hg (by omega)).setCell (by show w.heap.size≤q;omega) _,?_,?_,h.sx,?_,by omega⟩
 ·exact Bk.far ((hg.block _ l4 (by simp;omega)).trans h.res) (by show w.heap.size≠q;omega) _
 ·exact (h.up.grown hg (by omega)).far (by show p≠q;omega) _
 ·have:=(h.down.grown hg (by omega)).set0 (.slice (some ⟨g',0,none⟩) (ys.length+1) cap')
  rw [List.length_append,List.length_singleton];exact this
 ·exact (h.ox.grown hg (by simp;omega)).far (by show g1≠q;omega) _
 ·rw [sumS_snoc,sumI_succ hk,hx,← h.val];show _=_+-(num s:Int);omega
 ·have:=h.len
  rw [List.length_append,List.length_singleton];omega
 ·intro t ht;rw [List.mem_append,List.mem_singleton] at ht
  rcases ht with ht|rfl
  ·exact h.sy t ht
  ·exact hs
theorem three (w:World):Bk (((w.alloc (.cells #[.bool false,.string ⟨#[]⟩] 24)).alloc (.cells #[.string ⟨#[]⟩,.string ⟨#[]⟩,.string ⟨#[]⟩,.string ⟨#[]⟩,.string ⟨#[]⟩,.string ⟨#[]⟩,.string ⟨#[]⟩,.string ⟨#[]⟩] 154)).alloc (.cells #[.string ⟨#[]⟩,.string ⟨#[]⟩,.string ⟨#[]⟩,.string ⟨#[]⟩,.string ⟨#[]⟩,.string ⟨#[]⟩,.string ⟨#[]⟩,.string ⟨#[]⟩] 154)) w.heap.size #[.bool false,.string ⟨#[]⟩]∧OwnS (((w.alloc (.cells #[.bool false,.string ⟨#[]⟩] 24)).alloc (.cells #[.string ⟨#[]⟩,.string ⟨#[]⟩,.string ⟨#[]⟩,.string ⟨#[]⟩,.string ⟨#[]⟩,.string ⟨#[]⟩,.string ⟨#[]⟩,.string ⟨#[]⟩] 154)).alloc (.cells #[.string ⟨#[]⟩,.string ⟨#[]⟩,.string ⟨#[]⟩,.string ⟨#[]⟩,.string ⟨#[]⟩,.string ⟨#[]⟩,.string ⟨#[]⟩,.string ⟨#[]⟩] 154)) (w.heap.size+1) 8 []∧OwnS (((w.alloc (.cells #[.bool false,.string ⟨#[]⟩] 24)).alloc (.cells #[.string ⟨#[]⟩,.string ⟨#[]⟩,.string ⟨#[]⟩,.string ⟨#[]⟩,.string ⟨#[]⟩,.string ⟨#[]⟩,.string ⟨#[]⟩,.string ⟨#[]⟩] 154)).alloc (.cells #[.string ⟨#[]⟩,.string ⟨#[]⟩,.string ⟨#[]⟩,.string ⟨#[]⟩,.string ⟨#[]⟩,.string ⟨#[]⟩,.string ⟨#[]⟩,.string ⟨#[]⟩] 154)) (w.heap.size+1+1) 8 []∧Below w.heap.size w (((w.alloc (.cells #[.bool false,.string ⟨#[]⟩] 24)).alloc (.cells #[.string ⟨#[]⟩,.string ⟨#[]⟩,.string ⟨#[]⟩,.string ⟨#[]⟩,.string ⟨#[]⟩,.string ⟨#[]⟩,.string ⟨#[]⟩,.string ⟨#[]⟩] 154)).alloc (.cells #[.string ⟨#[]⟩,.string ⟨#[]⟩,.string ⟨#[]⟩,.string ⟨#[]⟩,.string ⟨#[]⟩,.string ⟨#[]⟩,.string ⟨#[]⟩,.string ⟨#[]⟩] 154))∧(((w.alloc (.cells #[.bool false,.string ⟨#[]⟩] 24)).alloc (.cells #[.string ⟨#[]⟩,.string ⟨#[]⟩,.string ⟨#[]⟩,.string ⟨#[]⟩,.string ⟨#[]⟩,.string ⟨#[]⟩,.string ⟨#[]⟩,.string ⟨#[]⟩] 154)).alloc (.cells #[.string ⟨#[]⟩,.string ⟨#[]⟩,.string ⟨#[]⟩,.string ⟨#[]⟩,.string ⟨#[]⟩,.string ⟨#[]⟩,.string ⟨#[]⟩,.string ⟨#[]⟩] 154)).heap.size=w.heap.size+1+1+1:=by
 have h0:(w.alloc (.cells #[.bool false,.string ⟨#[]⟩] 24)).heap.size=w.heap.size+1:=World.size_alloc _ _;have h1:((w.alloc (.cells #[.bool false,.string ⟨#[]⟩] 24)).alloc (.cells #[.string ⟨#[]⟩,.string ⟨#[]⟩,.string ⟨#[]⟩,.string ⟨#[]⟩,.string ⟨#[]⟩,.string ⟨#[]⟩,.string ⟨#[]⟩,.string ⟨#[]⟩] 154)).heap.size=w.heap.size+1+1:=by rw [World.size_alloc,h0]
 have a1:=Rw.new (w.alloc (.cells #[.bool false,.string ⟨#[]⟩] 24)) 154 [Value.string ⟨#[]⟩,.string ⟨#[]⟩,.string ⟨#[]⟩,.string ⟨#[]⟩,.string ⟨#[]⟩,.string ⟨#[]⟩,.string ⟨#[]⟩,.string ⟨#[]⟩];have a2:=Rw.new ((w.alloc (.cells #[.bool false,.string ⟨#[]⟩] 24)).alloc (.cells #[.string ⟨#[]⟩,.string ⟨#[]⟩,.string ⟨#[]⟩,.string ⟨#[]⟩,.string ⟨#[]⟩,.string ⟨#[]⟩,.string ⟨#[]⟩,.string ⟨#[]⟩] 154)) 154 [Value.string ⟨#[]⟩,.string ⟨#[]⟩,.string ⟨#[]⟩,.string ⟨#[]⟩,.string ⟨#[]⟩,.string ⟨#[]⟩,.string ⟨#[]⟩,.string ⟨#[]⟩];rw [h0] at a1;rw [h1] at a2;refine ⟨((Bk.new w _).alloc _).alloc _,(OwnS.empty a1 (by unfold maxLen;decide)).alloc _,OwnS.empty a2 (by unfold maxLen;decide),?_,by rw [World.size_alloc,h1]⟩;exact (((Below.refl _ _).alloc (Nat.le_refl _) _).alloc (by rw [h0];omega) _).alloc (by rw [h1];omega) _
theorem AW.startA (w:World) (l:List IV):AW w (((((w.alloc (.cells #[.bool false,.string ⟨#[]⟩] 24)).alloc (.cells #[.string ⟨#[]⟩,.string ⟨#[]⟩,.string ⟨#[]⟩,.string ⟨#[]⟩,.string ⟨#[]⟩,.string ⟨#[]⟩,.string ⟨#[]⟩,.string ⟨#[]⟩] 154)).alloc (.cells #[.string ⟨#[]⟩,.string ⟨#[]⟩,.string ⟨#[]⟩,.string ⟨#[]⟩,.string ⟨#[]⟩,.string ⟨#[]⟩,.string ⟨#[]⟩,.string ⟨#[]⟩] 154)).alloc (.cells #[.slice (some { block:=w.heap.size+1,off:=0 }) 0 8,.bool false] 158)).alloc (.cells #[.slice (some { block:=w.heap.size+1+1,off:=0 }) 0 8,.bool true] 158)).drew l 0 (w.heap.size+1+1+1) (w.heap.size+1+1+1+1) (w.heap.size+1) 8 [] (w.heap.size+1+1) 8 []:=by
 obtain ⟨h1,h2,h3,h4,h5⟩:=three w;generalize (((w.alloc (.cells #[.bool false,.string ⟨#[]⟩] 24)).alloc (.cells #[.string ⟨#[]⟩,.string ⟨#[]⟩,.string ⟨#[]⟩,.string ⟨#[]⟩,.string ⟨#[]⟩,.string ⟨#[]⟩,.string ⟨#[]⟩,.string ⟨#[]⟩] 154)).alloc (.cells #[.string ⟨#[]⟩,.string ⟨#[]⟩,.string ⟨#[]⟩,.string ⟨#[]⟩,.string ⟨#[]⟩,.string ⟨#[]⟩,.string ⟨#[]⟩,.string ⟨#[]⟩] 154))=W at *;have u:=Bd.new W #[.slice (some { block:=w.heap.size+1,off:=0 }) 0 8,.bool false];have d:=Bd.new (W.alloc (.cells #[.slice (some { block:=w.heap.size+1,off:=0 }) 0 8,.bool false] 158)) #[.slice (some { block:=w.heap.size+1+1,off:=0 }) 0 8,.bool true];rw [World.size_alloc] at d;rw [h5] at u d;exact ⟨(h1.alloc _).alloc _,u.alloc _,d,(h2.alloc _).alloc _,(h3.alloc _).alloc _,((h4.alloc (by omega) _).alloc (by rw [World.size_alloc];omega) _).drew,rfl,rfl,(fun s h=>by cases h),(fun s h=>by cases h),by omega⟩
theorem AW.startB (w:World) (l:List IV):AW w (((((w.alloc (.cells #[.bool false,.string ⟨#[]⟩] 24)).alloc (.cells #[.string ⟨#[]⟩,.string ⟨#[]⟩,.string ⟨#[]⟩,.string ⟨#[]⟩,.string ⟨#[]⟩,.string ⟨#[]⟩,.string ⟨#[]⟩,.string ⟨#[]⟩] 154)).alloc (.cells #[.string ⟨#[]⟩,.string ⟨#[]⟩,.string ⟨#[]⟩,.string ⟨#[]⟩,.string ⟨#[]⟩,.string ⟨#[]⟩,.string ⟨#[]⟩,.string ⟨#[]⟩] 154)).alloc (.cells #[.slice (some { block:=w.heap.size+1+1,off:=0 }) 0 8,.bool true] 158)).alloc (.cells #[.slice (some { block:=w.heap.size+1,off:=0 }) 0 8,.bool false] 158)).drew l 0 (w.heap.size+1+1+1+1) (w.heap.size+1+1+1) (w.heap.size+1) 8 [] (w.heap.size+1+1) 8 []:=by
 obtain ⟨h1,h2,h3,h4,h5⟩:=three w;generalize (((w.alloc (.cells #[.bool false,.string ⟨#[]⟩] 24)).alloc (.cells #[.string ⟨#[]⟩,.string ⟨#[]⟩,.string ⟨#[]⟩,.string ⟨#[]⟩,.string ⟨#[]⟩,.string ⟨#[]⟩,.string ⟨#[]⟩,.string ⟨#[]⟩] 154)).alloc (.cells #[.string ⟨#[]⟩,.string ⟨#[]⟩,.string ⟨#[]⟩,.string ⟨#[]⟩,.string ⟨#[]⟩,.string ⟨#[]⟩,.string ⟨#[]⟩,.string ⟨#[]⟩] 154))=W at *;have d:=Bd.new W #[.slice (some { block:=w.heap.size+1+1,off:=0 }) 0 8,.bool true];have u:=Bd.new (W.alloc (.cells #[.slice (some { block:=w.heap.size+1+1,off:=0 }) 0 8,.bool true] 158)) #[.slice (some { block:=w.heap.size+1,off:=0 }) 0 8,.bool false];rw [World.size_alloc] at u;rw [h5] at u d;exact ⟨(h1.alloc _).alloc _,u,d.alloc _,(h2.alloc _).alloc _,(h3.alloc _).alloc _,((h4.alloc (by omega) _).alloc (by rw [World.size_alloc];omega) _).drew,rfl,rfl,(fun s h=>by cases h),(fun s h=>by cases h),by omega⟩
def intQ:Value→Nat | .int _ n=>n.toNat|_=>0
theorem wadd_any (w:World) (ad:Option Addr) (l:List IV) (n c:Nat) (hn:l.length=n) (hmax:n≤900) (hs:∀ x∈l,x.2.size≤100000) (hl:IAt w ad l)
  (z:Bool) (o:ByteArray) (hz:wf (sumI l n)=wi z o) :
  Calls Tryz.prog 117 #[.slice ad n c] w (Ret (.agg #[.bool z,.string o]) w):=by
 have HN:=Lib.hid hn;clear hn;have HZ:=Lib.hid hz;clear hz;go_enter Tryz.func117,Tryz.ntmps117;go_wp2_with fail
 go_region
 ·have hS:=AW.startA w l;generalize (((((w.alloc (.cells #[.bool false,.string ⟨#[]⟩] 24)).alloc (.cells #[.string ⟨#[]⟩,.string ⟨#[]⟩,.string ⟨#[]⟩,.string ⟨#[]⟩,.string ⟨#[]⟩,.string ⟨#[]⟩,.string ⟨#[]⟩,.string ⟨#[]⟩] 154)).alloc (.cells #[.string ⟨#[]⟩,.string ⟨#[]⟩,.string ⟨#[]⟩,.string ⟨#[]⟩,.string ⟨#[]⟩,.string ⟨#[]⟩,.string ⟨#[]⟩,.string ⟨#[]⟩] 154)).alloc (.cells #[.slice (some { block:=w.heap.size+1,off:=0 }) 0 8,.bool false] 158)).alloc (.cells #[.slice (some { block:=w.heap.size+1+1,off:=0 }) 0 8,.bool true] 158)).drew=W0 at *;generalize w.heap.size+1+1+1+1=q at *;generalize w.heap.size+1+1+1=p at *;generalize w.heap.size+1+1=b2 at *;generalize w.heap.size+1=b1 at *;go_wp2_with fail
  go_loopw [15] (fun i wr=>∃ (k g1 cap1:Nat) (xs:List ByteArray) (g2 cap2:Nat) (ys:List ByteArray),k≤n∧i=.int .i64 k∧AW w wr l k p q g1 cap1 xs g2 cap2 ys) (fun i _=>n-intQ i)
  case atStart=>exact ⟨0,_,_,_,_,_,_,Nat.zero_le _,rfl,hS⟩
  case round =>
   clear hS;obtain ⟨k,g1,cap1,xs,g2,cap2,ys,hk,rfl,hM⟩:=hrel
   by_cases hlt:k<n
   ·have hkl:k<l.length:=by rw [HN.out];exact hlt
    obtain ⟨lb,lo,rfl,hlb,hc1,hc2⟩:=hl k hkl;obtain ⟨b,s,hx⟩:∃ b s,l[k]=(b,s):=⟨_,_,rfl⟩;have hss:s.size≤100000:=by have:=hs l[k] (List.getElem_mem hkl);rw [hx] at this;exact this
    rw [hx] at hc1 hc2;replace hc1:wr.cell? ⟨lb,lo+k*2,none⟩=some (.bool b):=by rw [hM.below.cell hlb];exact hc1
    replace hc2:wr.cell? ⟨lb,lo+k*2+1,none⟩=some (.string s):=by rw [hM.below.cell hlb];exact hc2
    have HX:=Lib.hid hx;clear hx;have hU:=cell_past hM.up.facts.1 (.cells #[.bool b,.string s] 24);have hD:=cell_past hM.down.facts.1 (.cells #[.bool b,.string s] 24);have hM2:=hM.alloc (.cells #[.bool b,.string s] 24)
    cases b
    ·go_wp2_with fail;refine (wgrown_any _ g1 cap1 xs.length xs s hM2.ox rfl (by have:=hM2.len;omega)).mono ?_;rintro e V1 ⟨g',cap',rfl,hO,hg,ha⟩;have hN:=AW.goUp hM2 hkl HX.out hss hO hg ha;have hU2:=(hM2.up.grown hg (by have:=hM2.far;omega)).facts;obtain ⟨hU20,hU21,hU22,hU23⟩:=hU2;clear hM hM2 hU hD hc1 hc2 hO hg ha;go_wp2;go_roundw
     case rel=>exact ⟨k+1,g',cap',xs++[s],g2,cap2,ys,by omega,by simp,hN⟩
     case measure=>simp [intQ];omega
    ·go_wp2_with fail;refine (wgrown_any _ g2 cap2 ys.length ys s hM2.oy rfl (by have:=hM2.len;omega)).mono ?_;rintro e V1 ⟨g',cap',rfl,hO,hg,ha⟩;have hN:=AW.goDown hM2 hkl HX.out hss hO hg ha;have hU2:=(hM2.down.grown hg (by have:=hM2.far;omega)).facts;obtain ⟨hU20,hU21,hU22,hU23⟩:=hU2;clear hM hM2 hU hD hc1 hc2 hO hg ha;go_wp2;go_roundw
     case rel=>exact ⟨k+1,g1,cap1,xs,g',cap',ys++[s],by omega,by simp,hN⟩
     case measure=>simp [intQ];omega
   ·have hkn:k=n:=by omega
    subst hkn;obtain ⟨hU0,hU1⟩:=hM.up.cells;obtain ⟨hD0,hD1⟩:=hM.down.cells;have hv:=hM.val;have hlen:=hM.len
    by_cases hy0:ys.length=0
    ·have hz2:wf (sI false (sumS xs))=wi z o:=by
      rw [← HZ.out,← hv,List.eq_nil_of_length_eq_zero hy0];show wf (sumS xs:Int)=wf ((sumS xs:Int)-0);rw [Int.sub_zero]
     have HZ2:=Lib.hid hz2;clear hz2 hv;go_wp2_with fail;refine (wsum_any _ g1 cap1 xs.length xs false hM.ox rfl (by omega) hM.sx z o HZ2.out).mono ?_;rintro e V1 ⟨rfl,hq⟩;have hb:=below_next hM.below hq;have hC:=hM.res.below hq;obtain ⟨hC0,hC1,hC2,hC3⟩:=hC.facts;clear hM hq hU0 hU1 hD0 hD1;go_wp2;exact ret_whole rfl rfl (hC.set_ _ _) ⟨rfl,below_set2 hb (by omega) _ _ _ _⟩
    ·by_cases hx0:xs.length=0
     ·have hz2:wf (sI true (sumS ys))=wi z o:=by
       rw [← HZ.out,← hv,List.eq_nil_of_length_eq_zero hx0];show wf (-(sumS ys:Int))=wf ((0:Int)-sumS ys);rw [Int.zero_sub]
      have HZ2:=Lib.hid hz2;clear hz2 hv;go_wp2_with fail;refine (wsum_any _ g2 cap2 ys.length ys true hM.oy rfl (by omega) hM.sy z o HZ2.out).mono ?_;rintro e V1 ⟨rfl,hq⟩;have hb:=below_next hM.below hq;have hC:=hM.res.below hq;obtain ⟨hC0,hC1,hC2,hC3⟩:=hC.facts;clear hM hq hU0 hU1 hD0 hD1;go_wp2;exact ret_whole rfl rfl (hC.set_ _ _) ⟨rfl,below_set2 hb (by omega) _ _ _ _⟩
     ·have hz2:wf (if sumS ys≤sumS xs then sI false (sumS xs-sumS ys) else sI true (sumS ys-sumS xs))=wi z o:=by
       rw [← HZ.out,← hv]
       congr 1
       by_cases hle:sumS ys≤sumS xs
       ·rw [if_pos hle];show ((sumS xs-sumS ys:Nat):Int)=_;omega
       ·rw [if_neg hle];show -((sumS ys-sumS xs:Nat):Int)=_;omega
      have HZ2:=Lib.hid hz2;clear hz2 hv;go_wp2_with fail;refine (wless_any _ g1 cap1 xs.length g2 cap2 ys.length xs ys false true hM.ox hM.oy rfl rfl (by omega) (by omega) hM.sx hM.sy z o HZ2.out).mono ?_;rintro e V1 ⟨rfl,hq⟩;have hb:=below_next hM.below hq;have hC:=hM.res.below hq;obtain ⟨hC0,hC1,hC2,hC3⟩:=hC.facts;clear hM hq hU0 hU1 hD0 hD1;go_wp2;exact ret_whole rfl rfl (hC.set_ _ _) ⟨rfl,below_set2 hb (by omega) _ _ _ _⟩
 ·have hS:=AW.startB w l;generalize (((((w.alloc (.cells #[.bool false,.string ⟨#[]⟩] 24)).alloc (.cells #[.string ⟨#[]⟩,.string ⟨#[]⟩,.string ⟨#[]⟩,.string ⟨#[]⟩,.string ⟨#[]⟩,.string ⟨#[]⟩,.string ⟨#[]⟩,.string ⟨#[]⟩] 154)).alloc (.cells #[.string ⟨#[]⟩,.string ⟨#[]⟩,.string ⟨#[]⟩,.string ⟨#[]⟩,.string ⟨#[]⟩,.string ⟨#[]⟩,.string ⟨#[]⟩,.string ⟨#[]⟩] 154)).alloc (.cells #[.slice (some { block:=w.heap.size+1+1,off:=0 }) 0 8,.bool true] 158)).alloc (.cells #[.slice (some { block:=w.heap.size+1,off:=0 }) 0 8,.bool false] 158)).drew=W0 at *;generalize w.heap.size+1+1+1+1=p at *;generalize w.heap.size+1+1+1=q at *;generalize w.heap.size+1+1=b2 at *;generalize w.heap.size+1=b1 at *;go_wp2_with fail
  go_loopw [15] (fun i wr=>∃ (k g1 cap1:Nat) (xs:List ByteArray) (g2 cap2:Nat) (ys:List ByteArray),k≤n∧i=.int .i64 k∧AW w wr l k p q g1 cap1 xs g2 cap2 ys) (fun i _=>n-intQ i)
  case atStart=>exact ⟨0,_,_,_,_,_,_,Nat.zero_le _,rfl,hS⟩
  case round =>
   clear hS;obtain ⟨k,g1,cap1,xs,g2,cap2,ys,hk,rfl,hM⟩:=hrel
   by_cases hlt:k<n
   ·have hkl:k<l.length:=by rw [HN.out];exact hlt
    obtain ⟨lb,lo,rfl,hlb,hc1,hc2⟩:=hl k hkl;obtain ⟨b,s,hx⟩:∃ b s,l[k]=(b,s):=⟨_,_,rfl⟩;have hss:s.size≤100000:=by have:=hs l[k] (List.getElem_mem hkl);rw [hx] at this;exact this
    rw [hx] at hc1 hc2;replace hc1:wr.cell? ⟨lb,lo+k*2,none⟩=some (.bool b):=by rw [hM.below.cell hlb];exact hc1
    replace hc2:wr.cell? ⟨lb,lo+k*2+1,none⟩=some (.string s):=by rw [hM.below.cell hlb];exact hc2
    have HX:=Lib.hid hx;clear hx;have hU:=cell_past hM.up.facts.1 (.cells #[.bool b,.string s] 24);have hD:=cell_past hM.down.facts.1 (.cells #[.bool b,.string s] 24);have hM2:=hM.alloc (.cells #[.bool b,.string s] 24)
    cases b
    ·go_wp2_with fail;refine (wgrown_any _ g1 cap1 xs.length xs s hM2.ox rfl (by have:=hM2.len;omega)).mono ?_;rintro e V1 ⟨g',cap',rfl,hO,hg,ha⟩;have hN:=AW.goUp hM2 hkl HX.out hss hO hg ha;have hU2:=(hM2.up.grown hg (by have:=hM2.far;omega)).facts;obtain ⟨hU20,hU21,hU22,hU23⟩:=hU2;clear hM hM2 hU hD hc1 hc2 hO hg ha;go_wp2;go_roundw
     case rel=>exact ⟨k+1,g',cap',xs++[s],g2,cap2,ys,by omega,by simp,hN⟩
     case measure=>simp [intQ];omega
    ·go_wp2_with fail;refine (wgrown_any _ g2 cap2 ys.length ys s hM2.oy rfl (by have:=hM2.len;omega)).mono ?_;rintro e V1 ⟨g',cap',rfl,hO,hg,ha⟩;have hN:=AW.goDown hM2 hkl HX.out hss hO hg ha;have hU2:=(hM2.down.grown hg (by have:=hM2.far;omega)).facts;obtain ⟨hU20,hU21,hU22,hU23⟩:=hU2;clear hM hM2 hU hD hc1 hc2 hO hg ha;go_wp2;go_roundw
     case rel=>exact ⟨k+1,g1,cap1,xs,g',cap',ys++[s],by omega,by simp,hN⟩
     case measure=>simp [intQ];omega
   ·have hkn:k=n:=by omega
    subst hkn;obtain ⟨hU0,hU1⟩:=hM.up.cells;obtain ⟨hD0,hD1⟩:=hM.down.cells;have hv:=hM.val;have hlen:=hM.len
    by_cases hy0:ys.length=0
    ·have hz2:wf (sI false (sumS xs))=wi z o:=by
      rw [← HZ.out,← hv,List.eq_nil_of_length_eq_zero hy0];show wf (sumS xs:Int)=wf ((sumS xs:Int)-0);rw [Int.sub_zero]
     have HZ2:=Lib.hid hz2;clear hz2 hv;go_wp2_with fail;refine (wsum_any _ g1 cap1 xs.length xs false hM.ox rfl (by omega) hM.sx z o HZ2.out).mono ?_;rintro e V1 ⟨rfl,hq⟩;have hb:=below_next hM.below hq;have hC:=hM.res.below hq;obtain ⟨hC0,hC1,hC2,hC3⟩:=hC.facts;clear hM hq hU0 hU1 hD0 hD1;go_wp2;exact ret_whole rfl rfl (hC.set_ _ _) ⟨rfl,below_set2 hb (by omega) _ _ _ _⟩
    ·by_cases hx0:xs.length=0
     ·have hz2:wf (sI true (sumS ys))=wi z o:=by
       rw [← HZ.out,← hv,List.eq_nil_of_length_eq_zero hx0];show wf (-(sumS ys:Int))=wf ((0:Int)-sumS ys);rw [Int.zero_sub]
      have HZ2:=Lib.hid hz2;clear hz2 hv;go_wp2_with fail;refine (wsum_any _ g2 cap2 ys.length ys true hM.oy rfl (by omega) hM.sy z o HZ2.out).mono ?_;rintro e V1 ⟨rfl,hq⟩;have hb:=below_next hM.below hq;have hC:=hM.res.below hq;obtain ⟨hC0,hC1,hC2,hC3⟩:=hC.facts;clear hM hq hU0 hU1 hD0 hD1;go_wp2;exact ret_whole rfl rfl (hC.set_ _ _) ⟨rfl,below_set2 hb (by omega) _ _ _ _⟩
     ·have hz2:wf (if sumS ys≤sumS xs then sI false (sumS xs-sumS ys) else sI true (sumS ys-sumS xs))=wi z o:=by
       rw [← HZ.out,← hv]
       congr 1
       by_cases hle:sumS ys≤sumS xs
       ·rw [if_pos hle];show ((sumS xs-sumS ys:Nat):Int)=_;omega
       ·rw [if_neg hle];show -((sumS ys-sumS xs:Nat):Int)=_;omega
      have HZ2:=Lib.hid hz2;clear hz2 hv;go_wp2_with fail;refine (wless_any _ g1 cap1 xs.length g2 cap2 ys.length xs ys false true hM.ox hM.oy rfl rfl (by omega) (by omega) hM.sx hM.sy z o HZ2.out).mono ?_;rintro e V1 ⟨rfl,hq⟩;have hb:=below_next hM.below hq;have hC:=hM.res.below hq;obtain ⟨hC0,hC1,hC2,hC3⟩:=hC.facts;clear hM hq hU0 hU1 hD0 hD1;go_wp2;exact ret_whole rfl rfl (hC.set_ _ _) ⟨rfl,below_set2 hb (by omega) _ _ _ _⟩
def prodI (l:List IV) (k:Nat):Int:=((l.take k).map fun x=>wv x.1 x.2).foldl (·*·) 1
theorem prodI_succ {l:List IV} {k:Nat} (h:k<l.length):prodI l (k+1)=prodI l k*wv l[k].1 l[k].2:=by
 unfold prodI;rw [List.take_succ_eq_append_getElem h,List.map_append,List.foldl_append];rfl
theorem prodI_zero (l:List IV):prodI l 0=1:=rfl
def MUL (w wr:World) (l:List IV) (k:Nat) (n:Bool) (s:ByteArray):Prop:=
 wv n s=prodI l (k+1)∧(0<k→∃ m,fb m=s)∧s.size≤(k+1)*100000∧Below w.heap.size w wr∧Bk wr w.heap.size #[.bool false,.string ⟨#[]⟩]
def intP:Value→Nat | .int _ n=>n.toNat|_=>0
theorem wmul_any (w:World) (b off:Nat) (l:List IV) (n c:Nat) (hn:l.length=n) (hc:n≤c) (h2:2≤n) (hmax:n≤900) (hs:∀ x∈l,x.2.size≤100000) (hl:IAt w (some ⟨b,off,none⟩) l)
  (z:Bool) (o:ByteArray) (hz:wf (prodI l n)=wi z o) :
  Calls Tryz.prog 137 #[.slice (some ⟨b,off,none⟩) n c] w (Ret (.agg #[.bool z,.string o]) w):=by
 have HN:=Lib.hid hn;clear hn;have hkl:0<l.length:=by rw [HN.out];omega
 obtain ⟨lb,lo,hae,hlb,hc1,hc2⟩:=hl 0 hkl;obtain ⟨rfl,rfl⟩:b=lb∧off=lo:=by simpa using hae
 clear hae;obtain ⟨m,s,hx⟩:∃ m s,l[0]=(m,s):=⟨_,_,rfl⟩;have hss:s.size≤100000:=by have:=hs l[0] (List.getElem_mem hkl);rw [hx] at this;exact this
 have hp:prodI l 1=wv m s:=by rw [prodI_succ hkl,prodI_zero,hx,Int.one_mul]
 rw [hx] at hc1 hc2;rw [Nat.zero_mul,Nat.add_zero] at hc1 hc2;have hp2:=hp.symm;clear hx hp;go_enter Tryz.func137,Tryz.ntmps137;go_wp2_with fail;obtain ⟨hC,hb⟩:=blocks1 w #[.bool false,.string ⟨#[]⟩];generalize (w.alloc (.cells #[.bool false,.string ⟨#[]⟩] 24))=W0 at *;have hlb0:b<W0.heap.size:=Nat.lt_of_lt_of_le hlb hb.size;replace hc1:W0.cell? ⟨b,off,none⟩=some (.bool m):=by rw [hb.cell hlb];exact hc1
 replace hc2:W0.cell? ⟨b,off+1,none⟩=some (.string s):=by rw [hb.cell hlb];exact hc2
 go_region
 go_wp2_with fail;have hM0:MUL w W0.drew l 0 m s:=⟨hp2,fun h=>by omega,by omega,hb.drew,hC.drew⟩;clear hb hp2 hC hc1 hc2 hss
 go_loopw [3,4,29] (fun nv sv i wr=>∃ (k:Nat) (q:Bool) (t:ByteArray),k≤n-1∧nv=.bool q∧sv=.string t∧i=.int .i64 k∧MUL w wr l k q t)
  (fun _ _ i _=>n-intP i)
 case atStart=>exact ⟨0,m,s,Nat.zero_le _,rfl,rfl,rfl,hM0⟩
 case round =>
  clear hM0;obtain ⟨k,q,t,hk,rfl,rfl,rfl,hM1⟩:=hrel;obtain ⟨hv,hf,hsz,hb,hC⟩:=hM1;have HV:=Lib.hid hv;clear hv
  by_cases hlt:k<n-1
  ·have hkl1:k+1<l.length:=by rw [HN.out];omega
   obtain ⟨lb,lo,hae,_,hc1,hc2⟩:=hl (k+1) hkl1;obtain ⟨rfl,rfl⟩:b=lb∧off=lo:=by simpa using hae
   clear hae;obtain ⟨m1,s1,hx⟩:∃ m s,l[k+1]=(m,s):=⟨_,_,rfl⟩;have hss:s1.size≤100000:=by have:=hs l[k+1] (List.getElem_mem hkl1);rw [hx] at this;exact this
   have hp:=prodI_succ hkl1;rw [hx] at hc1 hc2 hp;rw [show off+(k+1)*2=off+2+k*2 by omega] at hc1 hc2;replace hc1:wr.cell? ⟨b,off+2+k*2,none⟩=some (.bool m1):=by rw [hb.cell hlb];exact hc1
   replace hc2:wr.cell? ⟨b,off+2+k*2+1,none⟩=some (.string s1):=by rw [hb.cell hlb];exact hc2
   have HP:=Lib.hid hp;clear hp hx;obtain ⟨r,hr⟩:∃ r,fb (num t*num s1)=r:=⟨_,rfl⟩;have hrs:r.size≤(k+1+1)*100000:=by
    rw [← hr]
    have:=fb_size_le (lt_mul (num_lt t) (num_lt s1))
    omega
   have hrv:wv (q != m1) r=prodI l (k+1+1):=by rw [HP.out,← HV.out,← hr,sI_fb,wv_sI,wv_sI,sI_mul]
   have HR:=Lib.hid (And.intro hr hrv);clear hr hrv;go_wp2_with fail;have hA:=Bk.new wr #[.bool m1,.string s1];have hbk:=hb.size;replace hb:=hb.alloc hbk (.cells #[.bool m1,.string s1] 24);replace hC:=hC.alloc (.cells #[.bool m1,.string s1] 24);generalize (wr.alloc (.cells #[.bool m1,.string s1] 24))=V0 at *;replace hb:=hb.drew;replace hC:=hC.drew;have hin:=hA.drew.cells;clear hA hc1 hc2
   go_region_held3 (fun w'=>w'.cell? ⟨wr.heap.size,0,none⟩=some (.bool m1)∧w'.cell? ⟨wr.heap.size,1,none⟩=some (.string s1))
    (first|assumption|exact held (by assumption) (by assumption))
    (first
     | (go_at_call 162;refine (use_mul _ t s1 r (by omega) (by omega) HR.out.1).mono ?_;rintro e V1 ⟨rfl,hq⟩;replace hb:=below_next hb hq;replace hC:=hC.below hq))
   go_wp2;go_roundw
   case rel=>exact ⟨k+1,(q != m1),r,by omega,rfl,rfl,by simp,HR.out.2,fun _=>⟨_,HR.out.1⟩,hrs,hb,hC⟩
   case measure=>simp [intP];omega
  ·have hkn:k=n-1:=by omega
   obtain ⟨m2,hm2⟩:=hf (by omega);have hz2:wf (sI q m2)=wi z o:=by
    rw [← hz,← sI_fb,hm2,HV.out,hkn]
    congr 2
    omega
   go_wp2_with fail;refine (signed_any _ q t m2 z o hm2 hz2).mono ?_;rintro e V1 ⟨rfl,hq⟩;replace hb:=below_next hb hq;replace hC:=hC.below hq;obtain ⟨hC0,hC1,hC2,hC3⟩:=hC.facts;clear hq;go_wp2;exact ret_whole rfl rfl (hC.set_ _ _) ⟨rfl,below_set2 hb (by omega) _ _ _ _⟩
theorem h1 {W W' : World} {b0:Nat} {x0 y0:Value} (hq:Below W.heap.size W W') (h:(W.cell? ⟨b0,0,none⟩=some x0∧W.cell? ⟨b0,1,none⟩=some y0)):(W'.cell? ⟨b0,0,none⟩=some x0∧W'.cell? ⟨b0,1,none⟩=some y0):=
 held h hq
theorem a1 {W:World} {b0:Nat} {x0 y0:Value} {o:Obj} (h:(W.cell? ⟨b0,0,none⟩=some x0∧W.cell? ⟨b0,1,none⟩=some y0)):((W.alloc o).cell? ⟨b0,0,none⟩=some x0∧(W.alloc o).cell? ⟨b0,1,none⟩=some y0):=
 held_alloc h
theorem h2 {W W' : World} {b0 b1:Nat} {x0 y0 x1 y1:Value} (hq:Below W.heap.size W W') (h:(W.cell? ⟨b0,0,none⟩=some x0∧W.cell? ⟨b0,1,none⟩=some y0)∧(W.cell? ⟨b1,0,none⟩=some x1∧W.cell? ⟨b1,1,none⟩=some y1)):(W'.cell? ⟨b0,0,none⟩=some x0∧W'.cell? ⟨b0,1,none⟩=some y0)∧(W'.cell? ⟨b1,0,none⟩=some x1∧W'.cell? ⟨b1,1,none⟩=some y1):=
 ⟨held h.1 hq,held h.2 hq⟩
theorem a2 {W:World} {b0 b1:Nat} {x0 y0 x1 y1:Value} {o:Obj} (h:(W.cell? ⟨b0,0,none⟩=some x0∧W.cell? ⟨b0,1,none⟩=some y0)∧(W.cell? ⟨b1,0,none⟩=some x1∧W.cell? ⟨b1,1,none⟩=some y1)):((W.alloc o).cell? ⟨b0,0,none⟩=some x0∧(W.alloc o).cell? ⟨b0,1,none⟩=some y0)∧((W.alloc o).cell? ⟨b1,0,none⟩=some x1∧(W.alloc o).cell? ⟨b1,1,none⟩=some y1):=
 ⟨held_alloc h.1,held_alloc h.2⟩
theorem h3 {W W' : World} {b0 b1 b2:Nat} {x0 y0 x1 y1 x2 y2:Value} (hq:Below W.heap.size W W') (h:(W.cell? ⟨b0,0,none⟩=some x0∧W.cell? ⟨b0,1,none⟩=some y0)∧(W.cell? ⟨b1,0,none⟩=some x1∧W.cell? ⟨b1,1,none⟩=some y1)∧(W.cell? ⟨b2,0,none⟩=some x2∧W.cell? ⟨b2,1,none⟩=some y2)):(W'.cell? ⟨b0,0,none⟩=some x0∧W'.cell? ⟨b0,1,none⟩=some y0)∧(W'.cell? ⟨b1,0,none⟩=some x1∧W'.cell? ⟨b1,1,none⟩=some y1)∧(W'.cell? ⟨b2,0,none⟩=some x2∧W'.cell? ⟨b2,1,none⟩=some y2):=
 ⟨held h.1 hq,held h.2.1 hq,held h.2.2 hq⟩
theorem a3 {W:World} {b0 b1 b2:Nat} {x0 y0 x1 y1 x2 y2:Value} {o:Obj} (h:(W.cell? ⟨b0,0,none⟩=some x0∧W.cell? ⟨b0,1,none⟩=some y0)∧(W.cell? ⟨b1,0,none⟩=some x1∧W.cell? ⟨b1,1,none⟩=some y1)∧(W.cell? ⟨b2,0,none⟩=some x2∧W.cell? ⟨b2,1,none⟩=some y2)):((W.alloc o).cell? ⟨b0,0,none⟩=some x0∧(W.alloc o).cell? ⟨b0,1,none⟩=some y0)∧((W.alloc o).cell? ⟨b1,0,none⟩=some x1∧(W.alloc o).cell? ⟨b1,1,none⟩=some y1)∧((W.alloc o).cell? ⟨b2,0,none⟩=some x2∧(W.alloc o).cell? ⟨b2,1,none⟩=some y2):=
 ⟨held_alloc h.1,held_alloc h.2.1,held_alloc h.2.2⟩
theorem h4 {W W' : World} {b0 b1 b2 b3:Nat} {x0 y0 x1 y1 x2 y2 x3 y3:Value} (hq:Below W.heap.size W W') (h:(W.cell? ⟨b0,0,none⟩=some x0∧W.cell? ⟨b0,1,none⟩=some y0)∧(W.cell? ⟨b1,0,none⟩=some x1∧W.cell? ⟨b1,1,none⟩=some y1)∧(W.cell? ⟨b2,0,none⟩=some x2∧W.cell? ⟨b2,1,none⟩=some y2)∧(W.cell? ⟨b3,0,none⟩=some x3∧W.cell? ⟨b3,1,none⟩=some y3)):(W'.cell? ⟨b0,0,none⟩=some x0∧W'.cell? ⟨b0,1,none⟩=some y0)∧(W'.cell? ⟨b1,0,none⟩=some x1∧W'.cell? ⟨b1,1,none⟩=some y1)∧(W'.cell? ⟨b2,0,none⟩=some x2∧W'.cell? ⟨b2,1,none⟩=some y2)∧(W'.cell? ⟨b3,0,none⟩=some x3∧W'.cell? ⟨b3,1,none⟩=some y3):=
 ⟨held h.1 hq,held h.2.1 hq,held h.2.2.1 hq,held h.2.2.2 hq⟩
theorem a4 {W:World} {b0 b1 b2 b3:Nat} {x0 y0 x1 y1 x2 y2 x3 y3:Value} {o:Obj} (h:(W.cell? ⟨b0,0,none⟩=some x0∧W.cell? ⟨b0,1,none⟩=some y0)∧(W.cell? ⟨b1,0,none⟩=some x1∧W.cell? ⟨b1,1,none⟩=some y1)∧(W.cell? ⟨b2,0,none⟩=some x2∧W.cell? ⟨b2,1,none⟩=some y2)∧(W.cell? ⟨b3,0,none⟩=some x3∧W.cell? ⟨b3,1,none⟩=some y3)):((W.alloc o).cell? ⟨b0,0,none⟩=some x0∧(W.alloc o).cell? ⟨b0,1,none⟩=some y0)∧((W.alloc o).cell? ⟨b1,0,none⟩=some x1∧(W.alloc o).cell? ⟨b1,1,none⟩=some y1)∧((W.alloc o).cell? ⟨b2,0,none⟩=some x2∧(W.alloc o).cell? ⟨b2,1,none⟩=some y2)∧((W.alloc o).cell? ⟨b3,0,none⟩=some x3∧(W.alloc o).cell? ⟨b3,1,none⟩=some y3):=
 ⟨held_alloc h.1,held_alloc h.2.1,held_alloc h.2.2.1,held_alloc h.2.2.2⟩
theorem h5 {W W' : World} {b0 b1 b2 b3 b4:Nat} {x0 y0 x1 y1 x2 y2 x3 y3 x4 y4:Value} (hq:Below W.heap.size W W') (h:(W.cell? ⟨b0,0,none⟩=some x0∧W.cell? ⟨b0,1,none⟩=some y0)∧(W.cell? ⟨b1,0,none⟩=some x1∧W.cell? ⟨b1,1,none⟩=some y1)∧(W.cell? ⟨b2,0,none⟩=some x2∧W.cell? ⟨b2,1,none⟩=some y2)∧(W.cell? ⟨b3,0,none⟩=some x3∧W.cell? ⟨b3,1,none⟩=some y3)∧(W.cell? ⟨b4,0,none⟩=some x4∧W.cell? ⟨b4,1,none⟩=some y4)):(W'.cell? ⟨b0,0,none⟩=some x0∧W'.cell? ⟨b0,1,none⟩=some y0)∧(W'.cell? ⟨b1,0,none⟩=some x1∧W'.cell? ⟨b1,1,none⟩=some y1)∧(W'.cell? ⟨b2,0,none⟩=some x2∧W'.cell? ⟨b2,1,none⟩=some y2)∧(W'.cell? ⟨b3,0,none⟩=some x3∧W'.cell? ⟨b3,1,none⟩=some y3)∧(W'.cell? ⟨b4,0,none⟩=some x4∧W'.cell? ⟨b4,1,none⟩=some y4):=
 ⟨held h.1 hq,held h.2.1 hq,held h.2.2.1 hq,held h.2.2.2.1 hq,held h.2.2.2.2 hq⟩
theorem a5 {W:World} {b0 b1 b2 b3 b4:Nat} {x0 y0 x1 y1 x2 y2 x3 y3 x4 y4:Value} {o:Obj} (h:(W.cell? ⟨b0,0,none⟩=some x0∧W.cell? ⟨b0,1,none⟩=some y0)∧(W.cell? ⟨b1,0,none⟩=some x1∧W.cell? ⟨b1,1,none⟩=some y1)∧(W.cell? ⟨b2,0,none⟩=some x2∧W.cell? ⟨b2,1,none⟩=some y2)∧(W.cell? ⟨b3,0,none⟩=some x3∧W.cell? ⟨b3,1,none⟩=some y3)∧(W.cell? ⟨b4,0,none⟩=some x4∧W.cell? ⟨b4,1,none⟩=some y4)):((W.alloc o).cell? ⟨b0,0,none⟩=some x0∧(W.alloc o).cell? ⟨b0,1,none⟩=some y0)∧((W.alloc o).cell? ⟨b1,0,none⟩=some x1∧(W.alloc o).cell? ⟨b1,1,none⟩=some y1)∧((W.alloc o).cell? ⟨b2,0,none⟩=some x2∧(W.alloc o).cell? ⟨b2,1,none⟩=some y2)∧((W.alloc o).cell? ⟨b3,0,none⟩=some x3∧(W.alloc o).cell? ⟨b3,1,none⟩=some y3)∧((W.alloc o).cell? ⟨b4,0,none⟩=some x4∧(W.alloc o).cell? ⟨b4,1,none⟩=some y4):=
 ⟨held_alloc h.1,held_alloc h.2.1,held_alloc h.2.2.1,held_alloc h.2.2.2.1,held_alloc h.2.2.2.2⟩
theorem h6 {W W' : World} {b0 b1 b2 b3 b4 b5:Nat} {x0 y0 x1 y1 x2 y2 x3 y3 x4 y4 x5 y5:Value} (hq:Below W.heap.size W W') (h:(W.cell? ⟨b0,0,none⟩=some x0∧W.cell? ⟨b0,1,none⟩=some y0)∧(W.cell? ⟨b1,0,none⟩=some x1∧W.cell? ⟨b1,1,none⟩=some y1)∧(W.cell? ⟨b2,0,none⟩=some x2∧W.cell? ⟨b2,1,none⟩=some y2)∧(W.cell? ⟨b3,0,none⟩=some x3∧W.cell? ⟨b3,1,none⟩=some y3)∧(W.cell? ⟨b4,0,none⟩=some x4∧W.cell? ⟨b4,1,none⟩=some y4)∧(W.cell? ⟨b5,0,none⟩=some x5∧W.cell? ⟨b5,1,none⟩=some y5)):(W'.cell? ⟨b0,0,none⟩=some x0∧W'.cell? ⟨b0,1,none⟩=some y0)∧(W'.cell? ⟨b1,0,none⟩=some x1∧W'.cell? ⟨b1,1,none⟩=some y1)∧(W'.cell? ⟨b2,0,none⟩=some x2∧W'.cell? ⟨b2,1,none⟩=some y2)∧(W'.cell? ⟨b3,0,none⟩=some x3∧W'.cell? ⟨b3,1,none⟩=some y3)∧(W'.cell? ⟨b4,0,none⟩=some x4∧W'.cell? ⟨b4,1,none⟩=some y4)∧(W'.cell? ⟨b5,0,none⟩=some x5∧W'.cell? ⟨b5,1,none⟩=some y5):=
 ⟨held h.1 hq,held h.2.1 hq,held h.2.2.1 hq,held h.2.2.2.1 hq,held h.2.2.2.2.1 hq,held h.2.2.2.2.2 hq⟩
theorem h7 {W W' : World} {b0 b1 b2 b3 b4 b5 b6:Nat} {x0 y0 x1 y1 x2 y2 x3 y3 x4 y4 x5 y5 x6 y6:Value} (hq:Below W.heap.size W W') (h:(W.cell? ⟨b0,0,none⟩=some x0∧W.cell? ⟨b0,1,none⟩=some y0)∧(W.cell? ⟨b1,0,none⟩=some x1∧W.cell? ⟨b1,1,none⟩=some y1)∧(W.cell? ⟨b2,0,none⟩=some x2∧W.cell? ⟨b2,1,none⟩=some y2)∧(W.cell? ⟨b3,0,none⟩=some x3∧W.cell? ⟨b3,1,none⟩=some y3)∧(W.cell? ⟨b4,0,none⟩=some x4∧W.cell? ⟨b4,1,none⟩=some y4)∧(W.cell? ⟨b5,0,none⟩=some x5∧W.cell? ⟨b5,1,none⟩=some y5)∧(W.cell? ⟨b6,0,none⟩=some x6∧W.cell? ⟨b6,1,none⟩=some y6)):(W'.cell? ⟨b0,0,none⟩=some x0∧W'.cell? ⟨b0,1,none⟩=some y0)∧(W'.cell? ⟨b1,0,none⟩=some x1∧W'.cell? ⟨b1,1,none⟩=some y1)∧(W'.cell? ⟨b2,0,none⟩=some x2∧W'.cell? ⟨b2,1,none⟩=some y2)∧(W'.cell? ⟨b3,0,none⟩=some x3∧W'.cell? ⟨b3,1,none⟩=some y3)∧(W'.cell? ⟨b4,0,none⟩=some x4∧W'.cell? ⟨b4,1,none⟩=some y4)∧(W'.cell? ⟨b5,0,none⟩=some x5∧W'.cell? ⟨b5,1,none⟩=some y5)∧(W'.cell? ⟨b6,0,none⟩=some x6∧W'.cell? ⟨b6,1,none⟩=some y6):=
 ⟨held h.1 hq,held h.2.1 hq,held h.2.2.1 hq,held h.2.2.2.1 hq,held h.2.2.2.2.1 hq,held h.2.2.2.2.2.1 hq,held h.2.2.2.2.2.2 hq⟩
theorem IAt.alloc {w:World} {ad:Option Addr} {l:List IV} (o:Obj) (h:IAt w ad l):IAt (w.alloc o) ad l:=h.below ((Below.refl _ _).alloc (Nat.le_refl _) _)
theorem iat_new {w:World} {b:Nat} {t:TypeId} {l:List IV} {L:Array Value} (hb:b=w.heap.size) (hL:L=(icells l).toArray):IAt (w.alloc (.cells L t)) (some ⟨b,0,none⟩) l:=by
 subst hb;exact IAt.new w t l L hL
theorem hb1 {w W W' : World} {b0:Nat} {x0 y0:Value} (hq:Below W.heap.size W W') (h:Below w.heap.size w W∧(W.cell? ⟨b0,0,none⟩=some x0∧W.cell? ⟨b0,1,none⟩=some y0)):Below w.heap.size w W'∧(W'.cell? ⟨b0,0,none⟩=some x0∧W'.cell? ⟨b0,1,none⟩=some y0):=
 ⟨below_next h.1 hq,h1 hq h.2⟩
theorem hb2 {w W W' : World} {b0 b1:Nat} {x0 y0 x1 y1:Value} (hq:Below W.heap.size W W') (h:Below w.heap.size w W∧(W.cell? ⟨b0,0,none⟩=some x0∧W.cell? ⟨b0,1,none⟩=some y0)∧(W.cell? ⟨b1,0,none⟩=some x1∧W.cell? ⟨b1,1,none⟩=some y1)):Below w.heap.size w W'∧(W'.cell? ⟨b0,0,none⟩=some x0∧W'.cell? ⟨b0,1,none⟩=some y0)∧(W'.cell? ⟨b1,0,none⟩=some x1∧W'.cell? ⟨b1,1,none⟩=some y1):=
 ⟨below_next h.1 hq,h2 hq h.2⟩
theorem hb3 {w W W' : World} {b0 b1 b2:Nat} {x0 y0 x1 y1 x2 y2:Value} (hq:Below W.heap.size W W') (h:Below w.heap.size w W∧(W.cell? ⟨b0,0,none⟩=some x0∧W.cell? ⟨b0,1,none⟩=some y0)∧(W.cell? ⟨b1,0,none⟩=some x1∧W.cell? ⟨b1,1,none⟩=some y1)∧(W.cell? ⟨b2,0,none⟩=some x2∧W.cell? ⟨b2,1,none⟩=some y2)):Below w.heap.size w W'∧(W'.cell? ⟨b0,0,none⟩=some x0∧W'.cell? ⟨b0,1,none⟩=some y0)∧(W'.cell? ⟨b1,0,none⟩=some x1∧W'.cell? ⟨b1,1,none⟩=some y1)∧(W'.cell? ⟨b2,0,none⟩=some x2∧W'.cell? ⟨b2,1,none⟩=some y2):=
 ⟨below_next h.1 hq,h3 hq h.2⟩
theorem hb4 {w W W' : World} {b0 b1 b2 b3:Nat} {x0 y0 x1 y1 x2 y2 x3 y3:Value} (hq:Below W.heap.size W W') (h:Below w.heap.size w W∧(W.cell? ⟨b0,0,none⟩=some x0∧W.cell? ⟨b0,1,none⟩=some y0)∧(W.cell? ⟨b1,0,none⟩=some x1∧W.cell? ⟨b1,1,none⟩=some y1)∧(W.cell? ⟨b2,0,none⟩=some x2∧W.cell? ⟨b2,1,none⟩=some y2)∧(W.cell? ⟨b3,0,none⟩=some x3∧W.cell? ⟨b3,1,none⟩=some y3)):Below w.heap.size w W'∧(W'.cell? ⟨b0,0,none⟩=some x0∧W'.cell? ⟨b0,1,none⟩=some y0)∧(W'.cell? ⟨b1,0,none⟩=some x1∧W'.cell? ⟨b1,1,none⟩=some y1)∧(W'.cell? ⟨b2,0,none⟩=some x2∧W'.cell? ⟨b2,1,none⟩=some y2)∧(W'.cell? ⟨b3,0,none⟩=some x3∧W'.cell? ⟨b3,1,none⟩=some y3):=
 ⟨below_next h.1 hq,h4 hq h.2⟩
theorem hb5 {w W W' : World} {b0 b1 b2 b3 b4:Nat} {x0 y0 x1 y1 x2 y2 x3 y3 x4 y4:Value} (hq:Below W.heap.size W W') (h:Below w.heap.size w W∧(W.cell? ⟨b0,0,none⟩=some x0∧W.cell? ⟨b0,1,none⟩=some y0)∧(W.cell? ⟨b1,0,none⟩=some x1∧W.cell? ⟨b1,1,none⟩=some y1)∧(W.cell? ⟨b2,0,none⟩=some x2∧W.cell? ⟨b2,1,none⟩=some y2)∧(W.cell? ⟨b3,0,none⟩=some x3∧W.cell? ⟨b3,1,none⟩=some y3)∧(W.cell? ⟨b4,0,none⟩=some x4∧W.cell? ⟨b4,1,none⟩=some y4)):Below w.heap.size w W'∧(W'.cell? ⟨b0,0,none⟩=some x0∧W'.cell? ⟨b0,1,none⟩=some y0)∧(W'.cell? ⟨b1,0,none⟩=some x1∧W'.cell? ⟨b1,1,none⟩=some y1)∧(W'.cell? ⟨b2,0,none⟩=some x2∧W'.cell? ⟨b2,1,none⟩=some y2)∧(W'.cell? ⟨b3,0,none⟩=some x3∧W'.cell? ⟨b3,1,none⟩=some y3)∧(W'.cell? ⟨b4,0,none⟩=some x4∧W'.cell? ⟨b4,1,none⟩=some y4):=
 ⟨below_next h.1 hq,h5 hq h.2⟩
theorem hb6 {w W W' : World} {b0 b1 b2 b3 b4 b5:Nat} {x0 y0 x1 y1 x2 y2 x3 y3 x4 y4 x5 y5:Value} (hq:Below W.heap.size W W') (h:Below w.heap.size w W∧(W.cell? ⟨b0,0,none⟩=some x0∧W.cell? ⟨b0,1,none⟩=some y0)∧(W.cell? ⟨b1,0,none⟩=some x1∧W.cell? ⟨b1,1,none⟩=some y1)∧(W.cell? ⟨b2,0,none⟩=some x2∧W.cell? ⟨b2,1,none⟩=some y2)∧(W.cell? ⟨b3,0,none⟩=some x3∧W.cell? ⟨b3,1,none⟩=some y3)∧(W.cell? ⟨b4,0,none⟩=some x4∧W.cell? ⟨b4,1,none⟩=some y4)∧(W.cell? ⟨b5,0,none⟩=some x5∧W.cell? ⟨b5,1,none⟩=some y5)):Below w.heap.size w W'∧(W'.cell? ⟨b0,0,none⟩=some x0∧W'.cell? ⟨b0,1,none⟩=some y0)∧(W'.cell? ⟨b1,0,none⟩=some x1∧W'.cell? ⟨b1,1,none⟩=some y1)∧(W'.cell? ⟨b2,0,none⟩=some x2∧W'.cell? ⟨b2,1,none⟩=some y2)∧(W'.cell? ⟨b3,0,none⟩=some x3∧W'.cell? ⟨b3,1,none⟩=some y3)∧(W'.cell? ⟨b4,0,none⟩=some x4∧W'.cell? ⟨b4,1,none⟩=some y4)∧(W'.cell? ⟨b5,0,none⟩=some x5∧W'.cell? ⟨b5,1,none⟩=some y5):=
 ⟨below_next h.1 hq,h6 hq h.2⟩
theorem s1 {W:World} {b0 r:Nat} {x0 y0 u v:Value} (h:(W.cell? ⟨b0,0,none⟩=some x0∧W.cell? ⟨b0,1,none⟩=some y0)) (hr:b0≠r):(((W.setCell ⟨r,0,none⟩ u).setCell ⟨r,1,none⟩ v).cell? ⟨b0,0,none⟩=some x0∧((W.setCell ⟨r,0,none⟩ u).setCell ⟨r,1,none⟩ v).cell? ⟨b0,1,none⟩=some y0):=
 held_set2 h hr
theorem s2 {W:World} {b0 b1 r:Nat} {x0 y0 x1 y1 u v:Value} (h:(W.cell? ⟨b0,0,none⟩=some x0∧W.cell? ⟨b0,1,none⟩=some y0)∧(W.cell? ⟨b1,0,none⟩=some x1∧W.cell? ⟨b1,1,none⟩=some y1)) (hr:b0≠r∧b1≠r):(((W.setCell ⟨r,0,none⟩ u).setCell ⟨r,1,none⟩ v).cell? ⟨b0,0,none⟩=some x0∧((W.setCell ⟨r,0,none⟩ u).setCell ⟨r,1,none⟩ v).cell? ⟨b0,1,none⟩=some y0)∧(((W.setCell ⟨r,0,none⟩ u).setCell ⟨r,1,none⟩ v).cell? ⟨b1,0,none⟩=some x1∧((W.setCell ⟨r,0,none⟩ u).setCell ⟨r,1,none⟩ v).cell? ⟨b1,1,none⟩=some y1):=
 ⟨held_set2 h.1 hr.1,held_set2 h.2 hr.2⟩
theorem s3 {W:World} {b0 b1 b2 r:Nat} {x0 y0 x1 y1 x2 y2 u v:Value} (h:(W.cell? ⟨b0,0,none⟩=some x0∧W.cell? ⟨b0,1,none⟩=some y0)∧(W.cell? ⟨b1,0,none⟩=some x1∧W.cell? ⟨b1,1,none⟩=some y1)∧(W.cell? ⟨b2,0,none⟩=some x2∧W.cell? ⟨b2,1,none⟩=some y2)) (hr:b0≠r∧b1≠r∧b2≠r):(((W.setCell ⟨r,0,none⟩ u).setCell ⟨r,1,none⟩ v).cell? ⟨b0,0,none⟩=some x0∧((W.setCell ⟨r,0,none⟩ u).setCell ⟨r,1,none⟩ v).cell? ⟨b0,1,none⟩=some y0)∧(((W.setCell ⟨r,0,none⟩ u).setCell ⟨r,1,none⟩ v).cell? ⟨b1,0,none⟩=some x1∧((W.setCell ⟨r,0,none⟩ u).setCell ⟨r,1,none⟩ v).cell? ⟨b1,1,none⟩=some y1)∧(((W.setCell ⟨r,0,none⟩ u).setCell ⟨r,1,none⟩ v).cell? ⟨b2,0,none⟩=some x2∧((W.setCell ⟨r,0,none⟩ u).setCell ⟨r,1,none⟩ v).cell? ⟨b2,1,none⟩=some y2):=
 ⟨held_set2 h.1 hr.1,held_set2 h.2.1 hr.2.1,held_set2 h.2.2 hr.2.2⟩
theorem vmul2 (w:World) (g:Nat) (m n:Bool) (s t:ByteArray) (hs:s.size≤100000) (ht:t.size≤100000) (hI:IAt w (some ⟨g,0,none⟩) [(m,s),(n,t)]) (z:Bool) (o:ByteArray) (hz:wf (wv m s*wv n t)=wi z o) :
  Calls Tryz.prog 137 #[.slice (some ⟨g,0,none⟩) 2 2] w (Ret (.agg #[.bool z,.string o]) w):=
 wmul_any _ _ 0 [(m,s),(n,t)] 2 2 rfl (by omega) (by omega) (by omega) (fun x h=>by simp at h;rcases h with h|h <;> (rw [h];assumption)) hI z o (by rw [← hz];congr 1;show (1*wv m s)*wv n t=_;rw [Int.one_mul])
theorem divV_some {A B:Nat} (h:B≠0):divV A B=.tuple #[.string (fb (A / B)),.string (fb (A % B)),.bool true]:=by unfold divV;rw [if_neg h]
theorem sI_zero_iff {n:Bool} {m:Nat}:sI n m=0↔m=0:=by cases n <;> simp [sI]
def W3 (a:Bool) (s:ByteArray) (b:Bool) (t:ByteArray) (ok:Bool):Value:=.tuple #[wi a s,wi b t,.bool ok]
theorem sI_shl (n:Bool) (m j:Nat):sI n m*((2 ^ j:Nat):Int)=sI n (m*2 ^ j):=by
 cases n
 ·simp only [sI,Bool.false_eq_true,if_false,Int.natCast_mul]
 ·simp only [sI,if_true,Int.natCast_mul,Int.neg_mul]
theorem wshift_up (w:World) (n:Bool) (s:ByteArray) (k:Nat) (hs:s.size≤100000000) (hk:k≤1000000) (z:Bool) (o:ByteArray) (hz:wf (wv n s*((2 ^ k:Nat):Int))=wi z o) :
  Calls Tryz.prog 139 #[wi n s,.int .i64 k] w (Ret (.agg #[.bool z,.string o]) w):=by
 rw [wv_sI,sI_shl] at hz;have HZ:=Lib.hid hz;clear hz;have hsh:fb (shlN (num s) (k:Int))=fb (num s*2 ^ k):=by rw [shl_nat]
 have HS:=Lib.hid hsh;clear hsh;unfold wi;go_enter Tryz.func139,Tryz.ntmps139;go_wp2_with fail;obtain ⟨hA,hC,hb⟩:=blocks2 w #[.bool n,.string s] #[.bool false,.string ⟨#[]⟩];generalize ((w.alloc (.cells #[.bool n,.string s] 24)).alloc (.cells #[.bool false,.string ⟨#[]⟩] 24))=W0 at *;replace hC:=hC.drew;replace hb:=hb.drew;have hin:=hA.drew.cells;clear hA
 go_region_held3 (fun w'=>w'.cell? ⟨w.heap.size,0,none⟩=some (.bool n)∧w'.cell? ⟨w.heap.size,1,none⟩=some (.string s))
  (first|assumption|exact held (by assumption) (by assumption)|exact held_set2 (by assumption) (by omega)|exact held_alloc (by assumption))
  (first
   | (go_at_call 164;refine (use_shl _ s _ _ hs (by omega) HS.out).mono ?_;rintro e W1 ⟨rfl,hq⟩;replace hb:=below_next hb hq;replace hC:=hC.below hq)
   | (go_at_call 123;refine (signed_any _ n _ (num s*2 ^ k) z o rfl HZ.out).mono ?_;rintro e W2 ⟨rfl,hq⟩;replace hb:=below_next hb hq;replace hC:=hC.below hq;obtain ⟨hC0,hC1,hC2,hC3⟩:=hC.facts))
 go_wp2;exact ret_whole rfl rfl (hC.set_ _ _) ⟨rfl,below_set2 hb (by omega) _ _ _ _⟩
theorem wshift_down (w:World) (n:Bool) (s:ByteArray) (k:Int) (j:Nat) (hs:s.size≤100000000) (hk:k<0) (hk2:-9223372036854775808≤k) (hj:-max k (-9223372036854775807)=(j:Int)) (hm:n=true→num s % 2 ^ j=0) (z:Bool) (o:ByteArray) (hz:wf (wv n s / ((2 ^ j:Nat):Int))=wi z o) :
  Calls Tryz.prog 139 #[wi n s,.int .i64 k] w (Ret (.agg #[.bool z,.string o]) w):=by
 rw [wv_sI,sI_shr n (num s) j hm] at hz;obtain ⟨g,hg⟩:∃ g,sg (wv n s)=g:=⟨_,rfl⟩;have hg2:0≤g∨(g=-1∧j≤tz (num s)):=by
  rw [← hg]
  rcases sg_cases (wv n s) with ⟨_,h⟩|⟨h,h'⟩|⟨_,h⟩
  ·left;omega
  ·right
   refine ⟨h',?_⟩
   cases n
   ·rw [wv_false] at h;omega
   ·rw [wv_true] at h;have h2:=tz_lt_iff (A:=num s) (k:=j) (by omega);have h3:=hm rfl
    rcases Nat.lt_or_ge (tz (num s)) j with h4|h4
    ·exact absurd h3 (h2.1 h4)
    ·exact h4
  ·left;omega
 have HG:=Lib.hid hg;clear hg hm;have HZ:=Lib.hid hz;clear hz;have hj2:j≤9223372036854775807:=by omega
 have hsr:fb (shrN (num s) (j:Int))=fb (num s / 2 ^ j):=by rw [shr_nat]
 have HS:=Lib.hid hsr;clear hsr;unfold wi;go_enter Tryz.func139,Tryz.ntmps139;go_wp2_with fail;obtain ⟨hA,hC,hb⟩:=blocks2 w #[.bool n,.string s] #[.bool false,.string ⟨#[]⟩];generalize ((w.alloc (.cells #[.bool n,.string s] 24)).alloc (.cells #[.bool false,.string ⟨#[]⟩] 24))=W0 at *;refine (use_shr _ s _ _ hs (by omega) HS.out).mono ?_;rintro e W1 ⟨rfl,hq⟩;replace hb:=below_next hb hq;replace hA:=hA.below hq;replace hC:=hC.below hq;obtain ⟨hA0,hA1⟩:=hA.cells;clear hq;clear hj;go_wp2_with fail;refine (wsign_any _ n s hs g HG.out).mono ?_;rintro e W2 ⟨rfl,hq⟩;replace hb:=below_next hb hq;replace hA:=hA.below hq;replace hC:=hC.below hq;clear hA0 hA1;obtain ⟨hA0,hA1⟩:=hA.cells;clear hq;obtain ⟨y,hy⟩:∃ y:Nat,tz (num s)=y:=⟨_,rfl⟩;rw [hy] at hg2;have hy' : ((tz (num s):Nat):Int)=(y:Int):=by rw [hy]
 have HY:=Lib.hid hy';clear hy hy'
 rcases hg2 with hg2|⟨rfl,hg2⟩
 ·go_wp2_with fail;refine (signed_any _ n _ (num s / 2 ^ j) z o rfl HZ.out).mono ?_;rintro e W4 ⟨rfl,hq⟩;replace hb:=below_next hb hq;replace hC:=hC.below hq;obtain ⟨hC0,hC1,hC2,hC3⟩:=hC.facts;clear hq;go_wp2;exact ret_whole rfl rfl (hC.set_ _ _) ⟨rfl,below_set2 hb (by omega) _ _ _ _⟩
 ·go_wp2_with fail;refine (use_zeros _ s _ hs HY.out).mono ?_;rintro e W3 ⟨rfl,hq⟩;replace hb:=below_next hb hq;replace hA:=hA.below hq;replace hC:=hC.below hq;clear hA0 hA1;obtain ⟨hA0,hA1⟩:=hA.cells;clear hq;go_wp2_with fail;refine (signed_any _ n _ (num s / 2 ^ j) z o rfl HZ.out).mono ?_;rintro e W4 ⟨rfl,hq⟩;replace hb:=below_next hb hq;replace hC:=hC.below hq;obtain ⟨hC0,hC1,hC2,hC3⟩:=hC.facts;clear hq;go_wp2;exact ret_whole rfl rfl (hC.set_ _ _) ⟨rfl,below_set2 hb (by omega) _ _ _ _⟩
theorem wshift_next (w:World) (s:ByteArray) (k:Int) (j:Nat) (hs:s.size≤1000000) (hk:k<0) (hk2:-9223372036854775808≤k) (hj:-max k (-9223372036854775807)=(j:Int)) (hm:num s % 2 ^ j≠0) (z:Bool) (o:ByteArray) (hz:wf (wv true s / ((2 ^ j:Nat):Int))=wi z o) :
  Calls Tryz.prog 139 #[wi true s,.int .i64 k] w (Ret (.agg #[.bool z,.string o]) w):=by
 rw [wv_sI,sI_shr_next (num s) j hm] at hz;have hpos:0<num s:=by
  rcases Nat.eq_zero_or_pos (num s) with h|h
  ·rw [h,Nat.zero_mod] at hm;exact absurd rfl hm
  ·exact h
 have hg2:tz (num s)<j:=(tz_lt_iff hpos).2 hm;have hg:sg (wv true s)=-1:=by unfold sg;rw [wv_true,if_neg (by omega),if_pos (by omega)]
 obtain ⟨Q,hQ,nQ,sQ⟩:=nm (Nat.lt_of_le_of_lt (Nat.div_le_self (num s) (2 ^ j)) (num_lt s));have hn:fb (num Q+1)=fb (num s / 2 ^ j+1):=by rw [nQ]
 have HN:=Lib.hid hn;clear hn;have HG:=Lib.hid hg;clear hg hm hpos;have HZ:=Lib.hid hz;clear hz;have hj2:j≤9223372036854775807:=by omega
 have hsr:fb (shrN (num s) (j:Int))=Q:=by rw [shr_nat,hQ]
 clear hQ nQ;have HS:=Lib.hid hsr;clear hsr;unfold wi;go_enter Tryz.func139,Tryz.ntmps139;go_wp2_with fail;obtain ⟨hA,hC,hb⟩:=blocks2 w #[.bool true,.string s] #[.bool false,.string ⟨#[]⟩];generalize ((w.alloc (.cells #[.bool true,.string s] 24)).alloc (.cells #[.bool false,.string ⟨#[]⟩] 24))=W0 at *;refine (use_shr _ s _ _ (by omega) (by omega) HS.out).mono ?_;rintro e W1 ⟨rfl,hq⟩;replace hb:=below_next hb hq;replace hA:=hA.below hq;replace hC:=hC.below hq;obtain ⟨hA0,hA1⟩:=hA.cells;clear hq;clear hj;go_wp2_with fail;refine (wsign_any _ true s (by omega) _ HG.out).mono ?_;rintro e W2 ⟨rfl,hq⟩;replace hb:=below_next hb hq;replace hA:=hA.below hq;replace hC:=hC.below hq;clear hA0 hA1;obtain ⟨hA0,hA1⟩:=hA.cells;clear hq;obtain ⟨y,hy⟩:∃ y:Nat,tz (num s)=y:=⟨_,rfl⟩;rw [hy] at hg2;have hy' : ((tz (num s):Nat):Int)=(y:Int):=by rw [hy]
 have HY:=Lib.hid hy';clear hy hy';go_wp2_with fail;refine (use_zeros _ s _ (by omega) HY.out).mono ?_;rintro e W3 ⟨rfl,hq⟩;replace hb:=below_next hb hq;replace hA:=hA.below hq;replace hC:=hC.below hq;clear hA0 hA1;obtain ⟨hA0,hA1⟩:=hA.cells;clear hq;go_wp2_with fail;refine (next_any _ Q (by omega) _ HN.out).mono ?_;rintro e W5 ⟨rfl,hq⟩;replace hb:=below_next hb hq;replace hA:=hA.below hq;replace hC:=hC.below hq;clear hA0 hA1;obtain ⟨hA0,hA1⟩:=hA.cells;clear hq;go_wp2_with fail;refine (signed_any _ true _ (num s / 2 ^ j+1) z o rfl HZ.out).mono ?_;rintro e W4 ⟨rfl,hq⟩;replace hb:=below_next hb hq;replace hC:=hC.below hq;obtain ⟨hC0,hC1,hC2,hC3⟩:=hC.facts;clear hq;go_wp2;exact ret_whole rfl rfl (hC.set_ _ _) ⟨rfl,below_set2 hb (by omega) _ _ _ _⟩
theorem ediv_far {z:Int} {K a b:Nat} (h:z.natAbs<2 ^ K) (ha:K≤a) (hb:K≤b):z / ((2 ^ a:Nat):Int)=z / ((2 ^ b:Nat):Int):=by
 rw [ediv_small (Nat.lt_of_lt_of_le h (Nat.pow_le_pow_right (by omega) ha)),ediv_small (Nat.lt_of_lt_of_le h (Nat.pow_le_pow_right (by omega) hb))]
theorem wshift_any (w:World) (n:Bool) (s:ByteArray) (k:Int) (hs:s.size≤1000000) (hk1:-9223372036854775808≤k) (hk2:k≤1000000) (z:Bool) (o:ByteArray) (hz:wf (shiftI (wv n s) k)=wi z o) :
  Calls Tryz.prog 139 #[wi n s,.int .i64 k] w (Ret (.agg #[.bool z,.string o]) w):=by
 unfold shiftI at hz
 by_cases h:0≤k
 ·rw [if_pos h] at hz;obtain ⟨m,rfl⟩:∃ m:Nat,k=(m:Int):=⟨k.toNat,by omega⟩;rw [Int.toNat_natCast] at hz;exact wshift_up w n s m (by omega) (by omega) z o hz
 ·rw [if_neg h] at hz;obtain ⟨j,hj⟩:∃ j:Nat,-max k (-9223372036854775807)=(j:Int):=⟨(-max k (-9223372036854775807)).toNat,by omega⟩;have hz2:wf (wv n s / ((2 ^ j:Nat):Int))=wi z o:=by
   rw [← hz]
   by_cases hk:-9223372036854775807≤k
   ·have e:j=(-k).toNat:=by omega
    rw [e]
   ·have hb:(wv n s).natAbs<2 ^ (8*s.size):=by
     rw [wv_abs,Nat.pow_mul];exact num_lt s
    rw [ediv_far hb (a:=j) (b:=(-k).toNat) (by omega) (by omega)]
  by_cases hm:n=true→num s % 2 ^ j=0
  ·exact wshift_down w n s k j (by omega) (by omega) hk1 hj hm z o hz2
  ·cases n
   ·exact absurd (fun h=>by cases h) hm
   ·exact wshift_next w s k j hs (by omega) hk1 hj (fun h'=>hm fun _=>h') z o hz2
open Go.ChangeShapes Go.WideShapes
section
variable {H : Type} {enc : TypeId × Value→H} {W : World} {base : Nat} {sp : Nat→Bool} {held : Bool}
theorem int_cells:Tryz.prog.cellsOf 24=2:=by kernel_rfl
theorem bool_cells:Tryz.prog.cellsOf 4=1:=by kernel_rfl
theorem string_cells:Tryz.prog.cellsOf 9=1:=by kernel_rfl
end
open Go.RowKit Go.ChangeShapes Go.WideShapes Go.Deep
section
variable {H : Type} {enc : TypeId × Value→H} {W : World} {base : Nat} {sp : Nat→Bool} {held : Bool}
end
theorem dag_all {P:Program} {ops:Array Oper} {Q:Exit→Act→World→Prop} {S:World→Prop} (I:Nat→Array Bool→Act→World→Prop)
  (hstep:∀ f L a w,I f L a w→Hid (∀ f' L' a' w',f'<f→I f' L' a' w'→wpAnyH P .any ops Q S f' L' a' w')→wpAnyH P .any ops Q S f L a w):∀ f L a w,I f L a w→wpAnyH P .any ops Q S f L a w:=by
 intro f
 induction f using Nat.strongRecOn with
 | _ f ih=>exact fun L a w h=>hstep f L a w h (Lib.hid fun f' L' a' w' hlt h'=>ih f' hlt L' a' w' h')
theorem region_dag {P:Program} {id:Nat} {ops:Array Oper} {Q:Exit→Act→World→Prop} {a:Act} {w:World} (S:World→Prop) (I:Nat→Array Bool→Act→World→Prop) (hm:P.follows .mixedOrders=true)
  (h0:I ops.size (Array.replicate ops.size false) a w.drew)
  (hstep:∀ f L a w,I f L a w→Hid (∀ f' L' a' w',f'<f→I f' L' a' w'→wpAnyH P .any ops Q S f' L' a' w')→wpAnyH P .any ops Q S f L a w):(Code.region id ops true).wp P Q a w:=
 wp_region_held hm (dag_all I hstep _ _ _ _ h0)
theorem Bk.far2 {W:World} {b r:Nat} {cs:Array Value} (h:Bk W b cs) (hr:b≠r) (u v:Value):Bk ((W.setCell ⟨r,0,none⟩ u).setCell ⟨r,1,none⟩ v) b cs:=(h.far (p:=⟨r,0,none⟩) hr u).far (p:=⟨r,1,none⟩) hr v
theorem dag_take {P:Program} {ops:Array Oper} {Q:Exit→Act→World→Prop} {S:World→Prop} {md:Region.Mode} {i:Nat} {oi:Oper} {d:Option Tmp} {v:Value} {fuel:Nat} {listed:Array Bool} {a:Act} {w:World} (hi:ops[i]?=some oi) (hd:oi.dst=d)
  (hs:Region.noSelect ops=true) (hf:Region.free md ops listed i=true) (hr:(Region.ready md ops listed).contains i=true)
  (hQ:∀ c a w,Q (.panic c) (a.put d v) w→Q (.panic c) a w) (hy:YieldsIf P ops S oi v a) (hS:S w)
  (h:wpAnyH P md ops Q S fuel (listed.setIfInBounds i true) (a.put d v) w):wpAnyH P md ops Q S (fuel+1) listed a w:=by
 subst hd;exact wpAnyH_take hi hs hf hr hQ hy hS h
end Go.Proofs.YtemedphcafgolaaGreatDoor
