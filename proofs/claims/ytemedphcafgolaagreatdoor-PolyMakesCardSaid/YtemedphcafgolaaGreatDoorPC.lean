/- Layer 1, laid together: P3, P3P, P4, P4P, P5. -/
import Derived.Test.YtemedphcafgolaaGreatDoorP2
import Derived.Test.YtemedphcafgolaaGreatDoorPB
/- Rows put together by halves (package poly): byHalves,walked,where the parts are terms. -/
namespace Go.Proofs.YtemedphcafgolaaGreatDoor
set_option maxRecDepth 100000
set_option maxHeartbeats 3200000
open Go.RowKit Go.Shelf Go.Lib
theorem merge2_len:∀ (a b:List TD),(merge2 a b).length≤a.length+b.length
 | [],b=>by rw [merge2];omega
 | x::a,[]=>by rw [merge2];omega
 | x::a,y::b=>by
  rw [merge2]
  split
  ·have:=merge2_len a (y::b);simp at this ⊢;omega
  ·split
   ·have:=merge2_len (x::a) b;simp at this ⊢;omega
   ·have:=merge2_len a b;simp at this ⊢;omega
termination_by a b=>a.length+b.length
theorem halves_len {M:Nat} (l:List (List TD)):(∀ r∈l,r.length≤M)→(halves l).length≤l.length*M:=by
 refine halves_ind (P:=fun l=>(∀ r∈l,r.length≤M)→(halves l).length≤l.length*M) ?_ ?_ ?_ l
 ·intro _;rw [halves_nil];simp
 ·intro r h;rw [halves_one];simpa using h r (List.mem_singleton.2 rfl)
 ·intro l h2 ha hb h;rw [halves_two h2];have h3:=merge2_len (halves (l.take (l.length / 2))) (halves (l.drop (l.length / 2)));have h4:=ha fun r hr=>h r (List.mem_of_mem_take hr);have h5:=hb fun r hr=>h r (List.mem_of_mem_drop hr);rw [List.length_take] at h4;rw [List.length_drop] at h5;have h6:min (l.length / 2) l.length*M+(l.length-l.length / 2)*M=l.length*M:=by rw [← Nat.add_mul];congr 1;omega
  omega
theorem sums_fit {k U V:Nat} {A B:List TV} (hk:250≤k) (hA:Fits U (A.map tdv)) (hB:Fits V (B.map tdv)) (h:U+V<256 ^ k):∀ x∈A,∀ y∈B,fitsN k (canonN (nvl x.2+nvl y.2)):=by
 intro x hx y hy;obtain ⟨z,h1,h2⟩:=hA.mem (x:=tdv x) (List.mem_map_of_mem hx);obtain ⟨u,h3,h4⟩:=hB.mem (x:=tdv y) (List.mem_map_of_mem hy);have e:nvl x.2+nvl y.2=unitD (z+u):=by
  rw [← unit_add,← h1,← h3];rfl
 exact fit_small e (by omega) hk
theorem halves_both {α:Type} {row:α→List TD} {k N M n:Nat} {parts:List α} (hn:parts.length=n) (h2:2≤n) (hN:n*N<256 ^ k) (hM:n*M≤10000) (hf:∀ x∈parts,Fits N (row x)∧(row x).length≤M) :
  (parts.take (n / 2)).length=n / 2∧(parts.drop (n / 2)).length=n-n / 2∧n / 2<n∧n-n / 2<n∧n / 2*N<256 ^ k∧(n-n / 2)*N<256 ^ k∧n / 2*M≤10000∧(n-n / 2)*M≤10000 ∧
  (∀ x∈parts.take (n / 2),Fits N (row x)∧(row x).length≤M)∧(∀ x∈parts.drop (n / 2),Fits N (row x)∧(row x).length≤M) ∧
  Fits (n / 2*N) (halves ((parts.take (n / 2)).map row))∧Fits ((n-n / 2)*N) (halves ((parts.drop (n / 2)).map row))∧n / 2*N+(n-n / 2)*N<256 ^ k ∧
  (halves ((parts.take (n / 2)).map row)).length+(halves ((parts.drop (n / 2)).map row)).length≤10000 ∧
  halves (parts.map row)=merge2 (halves ((parts.take (n / 2)).map row)) (halves ((parts.drop (n / 2)).map row)):=by
 have e1:(parts.take (n / 2)).length=n / 2:=by rw [List.length_take];omega
 have e2:(parts.drop (n / 2)).length=n-n / 2:=by rw [List.length_drop];omega
 have t1:∀ x∈parts.take (n / 2),Fits N (row x)∧(row x).length≤M:=fun x hx=>hf x (List.mem_of_mem_take hx);have t2:∀ x∈parts.drop (n / 2),Fits N (row x)∧(row x).length≤M:=fun x hx=>hf x (List.mem_of_mem_drop hx);have e3:n / 2*N+(n-n / 2)*N=n*N:=by rw [← Nat.add_mul];congr 1;omega
 have e4:n / 2*M+(n-n / 2)*M=n*M:=by rw [← Nat.add_mul];congr 1;omega
 have f1:=halves_fits (N:=N) ((parts.take (n / 2)).map row) fun r hr=>by obtain ⟨x,hx,rfl⟩:=List.mem_map.1 hr;exact (t1 x hx).1
 have f2:=halves_fits (N:=N) ((parts.drop (n / 2)).map row) fun r hr=>by obtain ⟨x,hx,rfl⟩:=List.mem_map.1 hr;exact (t2 x hx).1
 have l1:=halves_len (M:=M) ((parts.take (n / 2)).map row) fun r hr=>by obtain ⟨x,hx,rfl⟩:=List.mem_map.1 hr;exact (t1 x hx).2
 have l2:=halves_len (M:=M) ((parts.drop (n / 2)).map row) fun r hr=>by obtain ⟨x,hx,rfl⟩:=List.mem_map.1 hr;exact (t2 x hx).2
 rw [List.length_map,e1] at f1 l1;rw [List.length_map,e2] at f2 l2;refine ⟨e1,e2,by omega,by omega,by omega,by omega,by omega,by omega,t1,t2,f1,f2,by omega,by omega,?_⟩;have h3:2≤(parts.map row).length:=by rw [List.length_map,hn];exact h2
 rw [halves_two h3,List.length_map,hn,List.map_take,List.map_drop]
theorem byhalvesT_any (k N M:Nat) (hk:250≤k) (hk2:k≤5000) (hT:TogC k) (f:Nat) (caps:Array Value) (hgo:∀ (aa:Array Value) (W:World),Sem.run Tryz.prog (callFunc f aa) W=.ok (.enter f aa) W) (row:TV→List TD) :
  ∀ (n:Nat) (w:World) (ad:Option Addr) (c:Nat) (parts:List TV),parts.length=n→n≤c→n≤5000→n*N<256 ^ k→n*M≤10000→TAt w ad parts→(∀ x∈parts,Fits N (row x)∧(row x).length≤M) →
   (∀ W,Below w.heap.size w W→∀ x∈parts,Calls Tryz.prog f (#[tagg x]++caps) W (fun e W'=>RowOut W W' k e (row x))) →
   Calls Tryz.prog 60 #[.slice ad n c,.func (.func f) #[] caps,.func (.func 61) #[] #[],.func (.func 62) #[] #[]] w (fun e w'=>RowOut w w' k e (halves (parts.map row))):=by
 intro n
 induction n using Nat.strongRecOn with
 | ind n IH =>
  intro w ad c parts hn hc hmax hN hM hp hf hrow
  match n,parts,hn with
  | 0,[],_ =>
   clear IH hrow;go_enter Tryz.func60,Tryz.ntmps60;go_wp2;go_ret;exact ⟨none,0,[],rfl,Nat.le_refl _,TAt.nil _ _,halves_nil.symm,fun _ h=>by simp at h,Below.refl _ _⟩
  | 1,[x],_ =>
   clear IH;obtain ⟨lb,lo,rfl,hl,c0,c1,c2,c3⟩:=hp 0 (by simp);have hcall:=hrow w (Below.refl _ _) x (List.mem_singleton.2 rfl);rw [List.map_singleton,halves_one];simp only [List.getElem_cons_zero,Nat.zero_mul,Nat.add_zero] at c0 c1 c2 c3;obtain ⟨xt,xm,xs,xd⟩:=x;simp only at c0 c1 c2 c3;unfold tagg at hcall;simp only at hcall;clear hrow hp hf;go_enter Tryz.func60,Tryz.ntmps60;go_wp2_with fail;refine hcall.mono ?_;rintro e W1 ⟨od,oc,L,rfl,r⟩;go_wp2;go_ret;exact ⟨od,oc,L,rfl,r⟩
  | n+2,parts,hn =>
   obtain ⟨lb,lo,rfl,hl,-⟩:=hp 0 (by omega);obtain ⟨e1,e2,i1,i2,n1,n2,m1,m2,f1,f2,F1,F2,hNN,hMM,hH⟩:=halves_both hn (by omega) hN hM hf;generalize hz:n+2=z at *;have hr1:=fun W (hq:Below w.heap.size w W) x (hx:x∈parts.take (z / 2))=>hrow W hq x (List.mem_of_mem_take hx);have hr2:=fun W (hq:Below w.heap.size w W) x (hx:x∈parts.drop (z / 2))=>hrow W hq x (List.mem_of_mem_drop hx);have c1:=IH (z / 2) i1 w (some ⟨lb,lo,none⟩) c (parts.take (z / 2)) e1 (by omega) (by omega) n1 m1 (hp.take _) f1 hr1;have hp2:=hp.drop (z / 2);have IH2:=IH (z-z / 2) i2;clear IH hrow hp hf hN hM f1;rw [hH];clear hH;generalize halves ((parts.take (z / 2)).map row)=H1 at *;generalize hG:halves ((parts.drop (z / 2)).map row)=H2 at *;have hdiv:Int.tdiv (z:Int) 2=((z / 2:Nat):Int):=by
    rw [Int.tdiv_eq_ediv_of_nonneg (by omega)];rfl
   have hz0:¬ (z:Int)=0:=by omega
   have hz1:¬ (z:Int)=1:=by omega
   generalize hh:z / 2=h at *;go_enter Tryz.func60,Tryz.ntmps60;have hch:¬ c=h:=by omega
   have hhz:(h:Int)≤z:=by omega
   go_wp2_with fail;refine c1.mono ?_;rintro e V1 ⟨od,oc,L1,rfl,hoc,hL1,hLt1,hLf1,hq1⟩;have c2:=IH2 V1 (some ⟨lb,lo+h*4,none⟩) (c-h) (parts.drop h) e2 (by omega) (by omega) n2 m2 (hp2.below hq1) f2 (fun W hq=>hr2 W (below_next hq1 hq));rw [hG] at c2;clear IH2 hr1 hr2 f2 c1 hG;go_wp2_with fail;refine c2.mono ?_;rintro e V2 ⟨od2,oc2,L2,rfl,hoc2,hL2,hLt2,hLf2,hq2⟩;subst hLt1 hLt2;rw [List.length_map,List.length_map] at hMM;have c3:=merged_any V2 k hk2 od od2 oc oc2 L1.length L2.length L1 L2 rfl rfl hoc hoc2 hMM (hL1.below hq2) hL2 hLf1 hLf2 (sums_fit hk F1 F2 hNN) hT;clear c2 hLf1 hLf2 F1 F2 hL1 hL2;go_wp2_with fail;refine c3.mono ?_;rintro e V3 ⟨od3,oc3,L3,rfl,hoc3,hL3,hLt3,hLf3,hq3⟩;go_wp2;go_ret;exact ⟨od3,oc3,L3,rfl,hoc3,hL3,hLt3,hLf3,below_next (below_next hq1 hq2) hq3⟩
theorem PAt.drop {w:World} {b o:Nat} {l:List PV} (h:PAt w (some ⟨b,o,none⟩) l) (k:Nat):PAt w (some ⟨b,o+k*2,none⟩) (l.drop k):=by
 intro i hi;rw [List.length_drop] at hi;obtain ⟨lb,lo,td,tc,e,hl,h1,h2,h3⟩:=h (k+i) (by omega);simp only [Option.some.injEq,Addr.mk.injEq,and_true] at e;obtain ⟨rfl,rfl⟩:=e;have e0:o+(k+i)*2=o+k*2+i*2:=by omega
 rw [e0] at h1 h2;have e1:(l.drop k)[i]'(by rw [List.length_drop];exact hi)=l[k+i]'(by omega):=List.getElem_drop;rw [e1];exact ⟨b,o+k*2,td,tc,rfl,hl,h1,h2,h3⟩
theorem PAt.take {w:World} {ad:Option Addr} {l:List PV} (h:PAt w ad l) (k:Nat):PAt w ad (l.take k):=by
 intro i hi;rw [List.length_take] at hi;obtain ⟨lb,lo,td,tc,e,hl,h1⟩:=h i (by omega);rw [List.getElem_take];exact ⟨lb,lo,td,tc,e,hl,h1⟩
theorem byhalvesP_any (k N M:Nat) (hk:250≤k) (hk2:k≤5000) (hT:TogC k) (f:Nat) (caps:Array Value) (hgo:∀ (aa:Array Value) (W:World),Sem.run Tryz.prog (callFunc f aa) W=.ok (.enter f aa) W) (row:PV→List TD) :
  ∀ (n:Nat) (w:World) (ad:Option Addr) (c:Nat) (parts:List PV),parts.length=n→n≤c→n≤5000→n*N<256 ^ k→n*M≤10000→PAt w ad parts→(∀ x∈parts,Fits N (row x)∧(row x).length≤M) →
   (∀ W,Below w.heap.size w W→∀ x∈parts,∀ (td:Option Addr) (tc:Nat),TAt W td x.2→x.2.length≤tc→Calls Tryz.prog f (#[.agg #[.int .i64 x.1,.slice td x.2.length tc]]++caps) W (fun e W'=>RowOut W W' k e (row x))) →
   Calls Tryz.prog 107 #[.slice ad n c,.func (.func f) #[] caps,.func (.func 61) #[] #[],.func (.func 62) #[] #[]] w (fun e w'=>RowOut w w' k e (halves (parts.map row))):=by
 intro n
 induction n using Nat.strongRecOn with
 | ind n IH =>
  intro w ad c parts hn hc hmax hN hM hp hf hrow
  match n,parts,hn with
  | 0,[],_ =>
   clear IH hrow;go_enter Tryz.func107,Tryz.ntmps107;go_wp2;go_ret;exact ⟨none,0,[],rfl,Nat.le_refl _,TAt.nil _ _,halves_nil.symm,fun _ h=>by simp at h,Below.refl _ _⟩
  | 1,[x],_ =>
   clear IH;obtain ⟨lb,lo,td,tc,rfl,hl,c0,c1,ht,htc⟩:=hp 0 (by simp);have hcall:=hrow w (Below.refl _ _) x (List.mem_singleton.2 rfl) td tc ht htc;rw [List.map_singleton,halves_one];simp only [List.getElem_cons_zero,Nat.zero_mul,Nat.add_zero] at c0 c1 ht htc;obtain ⟨xv,xl⟩:=x;simp only at c0 c1 ht htc hcall;clear hrow hp hf;go_enter Tryz.func107,Tryz.ntmps107;go_wp2_with fail;refine hcall.mono ?_;rintro e W1 ⟨od,oc,L,rfl,r⟩;go_wp2;go_ret;exact ⟨od,oc,L,rfl,r⟩
  | n+2,parts,hn =>
   obtain ⟨lb,lo,td,tc,rfl,hl,-⟩:=hp 0 (by omega);obtain ⟨e1,e2,i1,i2,n1,n2,m1,m2,f1,f2,F1,F2,hNN,hMM,hH⟩:=halves_both hn (by omega) hN hM hf;generalize hz:n+2=z at *;have hr1:=fun W (hq:Below w.heap.size w W) x (hx:x∈parts.take (z / 2)) td tc (ht:TAt W td x.2) (htc:x.2.length≤tc)=>hrow W hq x (List.mem_of_mem_take hx) td tc ht htc;have hr2:=fun W (hq:Below w.heap.size w W) x (hx:x∈parts.drop (z / 2)) td tc (ht:TAt W td x.2) (htc:x.2.length≤tc)=>hrow W hq x (List.mem_of_mem_drop hx) td tc ht htc;have c1:=IH (z / 2) i1 w (some ⟨lb,lo,none⟩) c (parts.take (z / 2)) e1 (by omega) (by omega) n1 m1 (hp.take _) f1 hr1;have hp2:=hp.drop (z / 2);have IH2:=IH (z-z / 2) i2;clear IH hrow hp hf hN hM f1;rw [hH];clear hH;generalize halves ((parts.take (z / 2)).map row)=H1 at *;generalize hG:halves ((parts.drop (z / 2)).map row)=H2 at *;have hdiv:Int.tdiv (z:Int) 2=((z / 2:Nat):Int):=by
    rw [Int.tdiv_eq_ediv_of_nonneg (by omega)];rfl
   have hz0:¬ (z:Int)=0:=by omega
   have hz1:¬ (z:Int)=1:=by omega
   generalize hh:z / 2=h at *;go_enter Tryz.func107,Tryz.ntmps107;have hch:¬ c=h:=by omega
   have hhz:(h:Int)≤z:=by omega
   go_wp2_with fail;refine c1.mono ?_;rintro e V1 ⟨od,oc,L1,rfl,hoc,hL1,hLt1,hLf1,hq1⟩;have c2:=IH2 V1 (some ⟨lb,lo+h*2,none⟩) (c-h) (parts.drop h) e2 (by omega) (by omega) n2 m2 (hp2.below hq1) f2 (fun W hq=>hr2 W (below_next hq1 hq));rw [hG] at c2;clear IH2 hr1 hr2 f2 c1 hG;go_wp2_with fail;refine c2.mono ?_;rintro e V2 ⟨od2,oc2,L2,rfl,hoc2,hL2,hLt2,hLf2,hq2⟩;subst hLt1 hLt2;rw [List.length_map,List.length_map] at hMM;have c3:=merged_any V2 k hk2 od od2 oc oc2 L1.length L2.length L1 L2 rfl rfl hoc hoc2 hMM (hL1.below hq2) hL2 hLf1 hLf2 (sums_fit hk F1 F2 hNN) hT;clear c2 hLf1 hLf2 F1 F2 hL1 hL2;go_wp2_with fail;refine c3.mono ?_;rintro e V3 ⟨od3,oc3,L3,rfl,hoc3,hL3,hLt3,hLf3,hq3⟩;go_wp2;go_ret;exact ⟨od3,oc3,L3,rfl,hoc3,hL3,hLt3,hLf3,below_next (below_next hq1 hq2) hq3⟩
def PolyOut (w w' : World) (e:Ending) (v:Int) (r:List TV):Prop:=
 ∃ (od:Option Addr) (oc:Nat),e=.returned (.tuple #[.agg #[.int .i64 v,.slice od r.length oc],.int .i64 0])∧r.length≤oc∧TAt w' od r∧(∀ lb lo,od=some ⟨lb,lo,none⟩→w.heap.size≤lb)∧Below w.heap.size w w'
theorem infoP2:(Tryz.prog.info? 31).map (·.size)=some 2:=by kernel_rfl
theorem ret_poly {fn:Func} {p u:Tmp} {tmps:Array Value} {W:World} {r:Nat} {c0 c1 v:Value} {Q:Ending→World→Prop} (h:fn.results=#[.cell p 31,.tmp u]) (hp:tmps.getD p undef=.pointer (some ⟨r,0,none⟩)) (hu:tmps.getD u undef=v)
  (h1:Rw W r 31 [c0,c1]) (hQ:Q (.returned (.tuple #[.agg #[c0,c1],v])) W):bodyPost Tryz.prog fn Q Exit.ret {tmps:=tmps,defers:=[] } W:=by
 refine bodyPost_ret (v:=.tuple #[.agg #[c0,c1],v]) ?_ rfl hQ;have hp' : tmps[p]?.getD undef=.pointer (some ⟨r,0,none⟩):=by simpa using hp
 have hu' : tmps[u]?.getD undef=v:=by simpa using hu
 have e1:=run_loadVar_row (P:=Tryz.prog) W r _ 31 #[c0,c1] _ _ h1 Tryz.underlying31 rfl infoP2;simp [results,h,hp',hu',asAddr,e1]
theorem Rw.set2 {w:World} {b:Nat} {T:TypeId} {x y:Value} (h:Rw w b T [x,y]) (u v:Value):Rw ((w.setCell ⟨b,0,none⟩ u).setCell ⟨b,1,none⟩ v) b T [u,v]:=(Rw.set_ h 0 u).set_ 1 v
theorem Rw.facts2 {w:World} {b:Nat} {T:TypeId} {x y:Value} (h:Rw w b T [x,y]):w.cell? ⟨b,0,none⟩=some x∧w.cell? ⟨b,1,none⟩=some y∧w.frozen? ⟨b,0,none⟩=false∧w.frozen? ⟨b,1,none⟩=false:=⟨Rw.cell h 0,Rw.cell h 1,Rw.frozen h 0,Rw.frozen h 1⟩
theorem pbelow_set2 {B:Nat} {w W:World} (h:Below B w W) {b:Nat} (hb:B≤b) (i j:Nat) (u v:Value):Below B w ((W.setCell ⟨b,i,none⟩ u).setCell ⟨b,j,none⟩ v):=(h.setCell hb u).setCell hb v
theorem TAt.far2 {w:World} {od:Option Addr} {l:List TV} (h:TAt w od l) {r:Nat} (hr:∀ lb lo,od=some ⟨lb,lo,none⟩→lb≠r) (i j:Nat) (u v:Value):TAt ((w.setCell ⟨r,i,none⟩ u).setCell ⟨r,j,none⟩ v) od l:=by
 intro k hk;obtain ⟨lb,lo,e,hl,h1,h2,h3,h4⟩:=h k hk;have hne:=hr lb lo e;have hc:∀ (q:Nat) (x:Value),w.cell? ⟨lb,q,none⟩=some x→((w.setCell ⟨r,i,none⟩ u).setCell ⟨r,j,none⟩ v).cell? ⟨lb,q,none⟩=some x:=fun q x hx =>
  (World.cell?_of_block (Below.heap_setCell _ _ v lb hne)).trans ((World.cell?_of_block (Below.heap_setCell w _ u lb hne)).trans hx)
 exact ⟨lb,lo,e,by simpa using hl,hc _ _ h1,hc _ _ h2,hc _ _ h3,hc _ _ h4⟩
theorem outV_take {l:List TV} {i:Nat} (h:i<l.length):outV (l.take (i+1))=if nvl l[i].2=0 then outV (l.take i) else outV (l.take i)++[canonT (tdv l[i])]:=by
 rw [← outV_snoc]
 congr 1
 rw [List.take_succ_eq_append_getElem h]
theorem outV_len (l:List TV):(outV l).length≤l.length:=by
 unfold outV dropNought;rw [List.length_map];exact Nat.le_trans (List.length_filter_le _ _) (by rw [List.length_map];exact Nat.le_refl _)
theorem outV_take_len (l:List TV) (i:Nat):(outV (l.take i)).length≤(outV l).length:=by
 conv=>rhs;rw [← List.take_append_drop i l]
 unfold outV dropNought;rw [List.map_append,List.filter_append,List.map_append,List.length_append];omega
theorem dm_eq {d:Dyadic}:dm d=0↔d=0:=by
 cases d with
 | zero=>exact ⟨fun _=>rfl,fun _=>rfl⟩
 | ofOdd n k h =>
  constructor
  ·intro (h2:n=0);omega
  ·intro h2
   cases h2
theorem sg_form {d:Dyadic} {m:Bool} {s:ByteArray} {e:Int} (h:df d=nu m s e):sg (wv m s)=0↔d=0:=by
 rw [(df_parts h).1,← dm_eq]
 rcases sg_cases (dm d) with ⟨h1,h2⟩|⟨h1,h2⟩|⟨h1,h2⟩ <;> omega
theorem canonT_tdv (x:TV):canonT (tdv x)=(x.1,canonN (nvl x.2)):=by
 show ((⟨x.1.data.toList.toArray⟩:ByteArray),canonN (nvl x.2))=_;rw [Array.toArray_toList]
theorem gatheredT_any (k N M:Nat) (hk:250≤k) (hk2:k≤5000) (hT:TogC k) (f:Nat) (caps:Array Value) (hgo:∀ (aa:Array Value) (W:World),Sem.run Tryz.prog (callFunc f aa) W=.ok (.enter f aa) W) (row:TV→List TD)
  (w:World) (v:Int) (ad:Option Addr) (n c:Nat) (parts:List TV) (hn:parts.length=n) (hc:n≤c) (hmax:n≤5000) (hN:n*N<256 ^ k) (hM:n*M≤4000) (hp:TAt w ad parts) (hf:∀ x∈parts,Fits N (row x)∧(row x).length≤M)
  (hms:∀ x∈parts,∀ y∈row x,y.1.length≤1000000) (hrow:∀ W,Below w.heap.size w W→∀ x∈parts,Calls Tryz.prog f (#[tagg x]++caps) W (fun e W'=>RowOut W W' k e (row x))) :
  Calls Tryz.prog 39 #[.int .i64 v,.slice ad n c,.func (.func f) #[] caps] w (fun e w'=>PolyOut w w' e v ((dropNought (halves (parts.map row))).map canonT)):=by
 have hlen:(halves (parts.map row)).length≤4000:=by
  have h1:=halves_len (M:=M) (parts.map row) fun r hr=>by obtain ⟨x,hx,rfl⟩:=List.mem_map.1 hr;exact (hf x hx).2
  rw [List.length_map,hn] at h1;omega
 have hR:=Rw.new w 31 [.int .i64 0,.slice none 0 0];have hb:=(Below.refl w.heap.size w).alloc (Nat.le_refl _) (.cells #[.int .i64 0,.slice none 0 0] 31);have hcall:=byhalvesT_any k N M hk hk2 hT f caps hgo row n (w.alloc (.cells #[.int .i64 0,.slice none 0 0] 31)) ad c parts hn hc hmax hN (by omega) (hp.alloc _) hf (fun W hq=>hrow W (below_next hb hq));have hHm:∀ z∈halves (parts.map row),z.1.length≤1000000:=fun z hz=>by
  obtain ⟨r,hr,y,hy,e⟩:=halves_mem _ z hz;obtain ⟨x,hx,rfl⟩:=List.mem_map.1 hr;rw [← e];exact hms x hx y hy
 generalize halves (parts.map row)=H at *;clear hf hrow hp hN hM hT hgo hms;generalize hRr:(dropNought H).map canonT=R at *;go_enter Tryz.func39,Tryz.ntmps39;go_wp2_with fail;refine hcall.mono ?_;rintro e W1 ⟨od,oc,L,rfl,hoc,hL,hLt,hLf,hq⟩;replace hR:=hR.below hq hR.lt;replace hb:=below_next hb hq;have hLl:L.length≤4000:=by rw [← hLt,List.length_map] at hlen;exact hlen
 have hO:outV L=R:=by rw [← hRr];unfold outV;rw [hLt]
 have hLs:∀ z∈L,z.1.size≤1000000:=fun z hz=>hHm (tdv z) (by rw [← hLt];exact List.mem_map_of_mem hz);clear hcall hq hLt hlen hRr hHm;go_wp2
 go_loopw [8,16] (fun vl iv wr=>∃ i:Nat,iv=.int .i64 i∧i≤L.length∧wr.ownsRow W1.heap.size 58 4 vl (outV (L.take i)).length (tcells (outV (L.take i)))∧Below W1.heap.size W1 wr) (fun _ iv _=>L.length-(RowKit.intOf iv).toNat)
 case atStart=>exact ⟨0,rfl,Nat.zero_le _,World.ownsRow_nil ..,Below.refl _ _⟩
 case round =>
  obtain ⟨i,rfl,hi,hown,hbw⟩:=hrel
  by_cases hik:i<L.length
  ·obtain ⟨lb,lo,rfl,hlb,c0,c1,c2,c3⟩:=hL.below hbw i hik;have hst:=outV_take hik;have hfx:=hLf _ (List.getElem_mem hik);have hxs:=hLs _ (List.getElem_mem hik);have hol:=outV_take_len L i;have hol2:=outV_len L;generalize L[i]=x at *;obtain ⟨xt,xm,xs,xd⟩:=x;rw [canonT_tdv] at hst;obtain ⟨hx1,hx2,hx3⟩:=hfx;simp only at c0 c1 c2 c3 hst hx1 hx2 hx3 hxs;have hz:=canonN_df (nvl (xm,xs,xd));generalize canonN (nvl (xm,xs,xd))=zz at *;obtain ⟨zm,zs,zd⟩:=zz;simp only at hz hst;have hzs:=(df_exp (show df (nv xm xs xd)=_ from hz) (show xs.size≤5000 by omega)).2;obtain ⟨cc,hcc⟩:∃ cc,sg (wv zm zs)=cc:=⟨_,rfl⟩;have hc0:=sg_form hz;rw [hcc] at hc0;have hT0:=Tk.new wr xt xm xs xd;have hb0:=(Below.refl wr.heap.size wr).alloc (Nat.le_refl _) (.cells #[.string xt,.bool xm,.string xs,.int .i64 xd] 58);go_wp2_with fail;refine (yform_any _ xm xs xd (by omega) (by omega) zm zs zd hz).mono ?_;rintro e V ⟨rfl,hq⟩;replace hb0:=below_next hb0 hq;replace hT0:=hT0.below hq;have hN0:=Nk.new V zm zs zd;replace hT0:=hT0.alloc (.cells #[.bool zm,.string zs,.int .i64 zd] 26);replace hb0:=hb0.alloc hb0.size (.cells #[.bool zm,.string zs,.int .i64 zd] 26);clear hq c0 c1 c2 c3;go_wp2_with fail;refine (ysign_any _ zm zs zd (by omega) cc hcc).mono ?_;rintro e V2 ⟨rfl,hq⟩;replace hb0:=below_next hb0 hq;replace hT0:=hT0.below hq;replace hN0:=hN0.below hq;have hbV:=below_next hbw hb0;have hownV:=ownsRow_below hown hb0;clear hq hown hcc
   by_cases h0:nvl (xm,xs,xd)=0
   ·obtain rfl:cc=0:=hc0.2 h0;rw [if_pos h0] at hst;rw [← hst] at hownV;clear hc0 hT0 hN0 hb0 hz hst;go_wp2;exact ⟨⟨i+1,rfl,hik,hownV,hbV⟩,by simp [RowKit.intOf];omega⟩
   ·have hc1:¬ cc=0:=fun h=>h0 (hc0.1 h);rw [if_neg h0] at hst;obtain ⟨td,tcp,rfl,htc,-⟩:=own_tat rfl hownV;have hl4:¬ (((outV (L.take i)).length:Nat):Int)=4096:=by omega
    have hT1:=hT0.drew.facts;have hN1:=hN0.drew.facts;obtain ⟨e0,e1,e2,e3,-⟩:=hT1;obtain ⟨g0,g1,g2,-⟩:=hN1;have hcl:=clone_any V2.drew xt (by omega);go_wp2
    go_region_law (first
     | (refine step_append_tat rfl (.tmp 30) (.tmp 36) rfl rfl hown5 hsz rfl hnew rfl (by omega) ?_;intro v' W4 hV4 hg4)
     | (go_simp;go_at_call 63;refine hcl.mono ?_;rintro e V3 ⟨rfl,hq3⟩;have hbV3:=below_next hbV.drew hq3;have hown5:=(ownsRow_below (ownsRow_below hownV (Below.refl _ _).drew) hq3).alloc (.cells #[.string xt,.bool zm,.string zs,.int .i64 zd] 58);have hnew:=TAt.new V3 58 [(xt,zm,zs,zd)] _ rfl;have hsz:W1.heap.size≤(V3.alloc (.cells #[.string xt,.bool zm,.string zs,.int .i64 zd] 58)).heap.size:=(hbV3.alloc hbV3.size _).size;obtain ⟨g3,g4,g5,_⟩:=(hN0.drew.below hq3).facts))
    all_goals
     have hb4:Below W1.heap.size W1 W4:=(hbV3.alloc hbV3.size _).grown hg4 hsz (fun g hg=>(hown5.lt g hg).1);have hV5:W4.ownsRow W1.heap.size 58 4 v' (outV (L.take (i+1))).length (tcells (outV (L.take (i+1)))):=by
      rw [hst,tcells_app,List.length_append];exact hV4
     clear hV4 hg4 hown5 hnew hsz hbV3 hq3 hcl hT0 hN0 hb0 e0 e1 e2 e3 g0 g1 g2;go_wp2;exact ⟨⟨i+1,rfl,hik,hV5,hb4⟩,by simp [RowKit.intOf];omega⟩
  ·obtain rfl:i=L.length:=by omega
   rw [List.take_of_length_le (Nat.le_refl _),hO] at hown;have hlt:w.heap.size<W1.heap.size:=hR.lt;obtain ⟨od',oc',rfl,hoc',hot⟩:=own_tat rfl hown;have hfar:∀ lb lo,od'=some ⟨lb,lo,none⟩→lb≠w.heap.size:=fun lb lo e=>by
    have:=hown.lt lb (by rw [e];rfl)
    omega
   have hnew:∀ lb lo,od'=some ⟨lb,lo,none⟩→w.heap.size≤lb:=fun lb lo e=>by
    have:=hown.lt lb (by rw [e];rfl)
    omega
   have hR2:=hR.below hbw hR.lt;obtain ⟨e0,e1,e2,e3⟩:=hR2.facts2;replace hb:=below_next hb hbw;clear hown hL hR hbw;go_wp2;exact ret_poly rfl rfl rfl (hR2.set2 _ _) ⟨od',oc',rfl,hoc',hot.far2 hfar _ _ _ _,hnew,pbelow_set2 hb (Nat.le_refl _) _ _ _ _⟩
theorem gatheredP_any (k N M:Nat) (hk:250≤k) (hk2:k≤5000) (hT:TogC k) (f:Nat) (caps:Array Value) (hgo:∀ (aa:Array Value) (W:World),Sem.run Tryz.prog (callFunc f aa) W=.ok (.enter f aa) W) (row:PV→List TD)
  (w:World) (v:Int) (ad:Option Addr) (n c:Nat) (parts:List PV) (hn:parts.length=n) (hc:n≤c) (hmax:n≤5000) (hN:n*N<256 ^ k) (hM:n*M≤4000) (hp:PAt w ad parts) (hf:∀ x∈parts,Fits N (row x)∧(row x).length≤M)
  (hms:∀ x∈parts,∀ y∈row x,y.1.length≤1000000) (hrow:∀ W,Below w.heap.size w W→∀ x∈parts,∀ (td:Option Addr) (tc:Nat),TAt W td x.2→x.2.length≤tc→Calls Tryz.prog f (#[.agg #[.int .i64 x.1,.slice td x.2.length tc]]++caps) W (fun e W'=>RowOut W W' k e (row x))) :
  Calls Tryz.prog 76 #[.int .i64 v,.slice ad n c,.func (.func f) #[] caps] w (fun e w'=>PolyOut w w' e v ((dropNought (halves (parts.map row))).map canonT)):=by
 have hlen:(halves (parts.map row)).length≤4000:=by
  have h1:=halves_len (M:=M) (parts.map row) fun r hr=>by obtain ⟨x,hx,rfl⟩:=List.mem_map.1 hr;exact (hf x hx).2
  rw [List.length_map,hn] at h1;omega
 have hR:=Rw.new w 31 [.int .i64 0,.slice none 0 0];have hb:=(Below.refl w.heap.size w).alloc (Nat.le_refl _) (.cells #[.int .i64 0,.slice none 0 0] 31);have hcall:=byhalvesP_any k N M hk hk2 hT f caps hgo row n (w.alloc (.cells #[.int .i64 0,.slice none 0 0] 31)) ad c parts hn hc hmax hN (by omega) (hp.alloc _) hf (fun W hq=>hrow W (below_next hb hq));have hHm:∀ z∈halves (parts.map row),z.1.length≤1000000:=fun z hz=>by
  obtain ⟨r,hr,y,hy,e⟩:=halves_mem _ z hz;obtain ⟨x,hx,rfl⟩:=List.mem_map.1 hr;rw [← e];exact hms x hx y hy
 generalize halves (parts.map row)=H at *;clear hf hrow hp hN hM hT hgo hms;generalize hRr:(dropNought H).map canonT=R at *;go_enter Tryz.func76,Tryz.ntmps76;go_wp2_with fail;refine hcall.mono ?_;rintro e W1 ⟨od,oc,L,rfl,hoc,hL,hLt,hLf,hq⟩;replace hR:=hR.below hq hR.lt;replace hb:=below_next hb hq;have hLl:L.length≤4000:=by rw [← hLt,List.length_map] at hlen;exact hlen
 have hO:outV L=R:=by rw [← hRr];unfold outV;rw [hLt]
 have hLs:∀ z∈L,z.1.size≤1000000:=fun z hz=>hHm (tdv z) (by rw [← hLt];exact List.mem_map_of_mem hz);clear hcall hq hLt hlen hRr hHm;go_wp2
 go_loopw [8,16] (fun vl iv wr=>∃ i:Nat,iv=.int .i64 i∧i≤L.length∧wr.ownsRow W1.heap.size 58 4 vl (outV (L.take i)).length (tcells (outV (L.take i)))∧Below W1.heap.size W1 wr) (fun _ iv _=>L.length-(RowKit.intOf iv).toNat)
 case atStart=>exact ⟨0,rfl,Nat.zero_le _,World.ownsRow_nil ..,Below.refl _ _⟩
 case round =>
  obtain ⟨i,rfl,hi,hown,hbw⟩:=hrel
  by_cases hik:i<L.length
  ·obtain ⟨lb,lo,rfl,hlb,c0,c1,c2,c3⟩:=hL.below hbw i hik;have hst:=outV_take hik;have hfx:=hLf _ (List.getElem_mem hik);have hxs:=hLs _ (List.getElem_mem hik);have hol:=outV_take_len L i;have hol2:=outV_len L;generalize L[i]=x at *;obtain ⟨xt,xm,xs,xd⟩:=x;rw [canonT_tdv] at hst;obtain ⟨hx1,hx2,hx3⟩:=hfx;simp only at c0 c1 c2 c3 hst hx1 hx2 hx3 hxs;have hz:=canonN_df (nvl (xm,xs,xd));generalize canonN (nvl (xm,xs,xd))=zz at *;obtain ⟨zm,zs,zd⟩:=zz;simp only at hz hst;have hzs:=(df_exp (show df (nv xm xs xd)=_ from hz) (show xs.size≤5000 by omega)).2;obtain ⟨cc,hcc⟩:∃ cc,sg (wv zm zs)=cc:=⟨_,rfl⟩;have hc0:=sg_form hz;rw [hcc] at hc0;have hT0:=Tk.new wr xt xm xs xd;have hb0:=(Below.refl wr.heap.size wr).alloc (Nat.le_refl _) (.cells #[.string xt,.bool xm,.string xs,.int .i64 xd] 58);go_wp2_with fail;refine (yform_any _ xm xs xd (by omega) (by omega) zm zs zd hz).mono ?_;rintro e V ⟨rfl,hq⟩;replace hb0:=below_next hb0 hq;replace hT0:=hT0.below hq;have hN0:=Nk.new V zm zs zd;replace hT0:=hT0.alloc (.cells #[.bool zm,.string zs,.int .i64 zd] 26);replace hb0:=hb0.alloc hb0.size (.cells #[.bool zm,.string zs,.int .i64 zd] 26);clear hq c0 c1 c2 c3;go_wp2_with fail;refine (ysign_any _ zm zs zd (by omega) cc hcc).mono ?_;rintro e V2 ⟨rfl,hq⟩;replace hb0:=below_next hb0 hq;replace hT0:=hT0.below hq;replace hN0:=hN0.below hq;have hbV:=below_next hbw hb0;have hownV:=ownsRow_below hown hb0;clear hq hown hcc
   by_cases h0:nvl (xm,xs,xd)=0
   ·obtain rfl:cc=0:=hc0.2 h0;rw [if_pos h0] at hst;rw [← hst] at hownV;clear hc0 hT0 hN0 hb0 hz hst;go_wp2;exact ⟨⟨i+1,rfl,hik,hownV,hbV⟩,by simp [RowKit.intOf];omega⟩
   ·have hc1:¬ cc=0:=fun h=>h0 (hc0.1 h);rw [if_neg h0] at hst;obtain ⟨td,tcp,rfl,htc,-⟩:=own_tat rfl hownV;have hl4:¬ (((outV (L.take i)).length:Nat):Int)=4096:=by omega
    have hT1:=hT0.drew.facts;have hN1:=hN0.drew.facts;obtain ⟨e0,e1,e2,e3,-⟩:=hT1;obtain ⟨g0,g1,g2,-⟩:=hN1;have hcl:=clone_any V2.drew xt (by omega);go_wp2
    go_region_law (first
     | (refine step_append_tat rfl (.tmp 30) (.tmp 36) rfl rfl hown5 hsz rfl hnew rfl (by omega) ?_;intro v' W4 hV4 hg4)
     | (go_simp;go_at_call 63;refine hcl.mono ?_;rintro e V3 ⟨rfl,hq3⟩;have hbV3:=below_next hbV.drew hq3;have hown5:=(ownsRow_below (ownsRow_below hownV (Below.refl _ _).drew) hq3).alloc (.cells #[.string xt,.bool zm,.string zs,.int .i64 zd] 58);have hnew:=TAt.new V3 58 [(xt,zm,zs,zd)] _ rfl;have hsz:W1.heap.size≤(V3.alloc (.cells #[.string xt,.bool zm,.string zs,.int .i64 zd] 58)).heap.size:=(hbV3.alloc hbV3.size _).size;obtain ⟨g3,g4,g5,_⟩:=(hN0.drew.below hq3).facts))
    all_goals
     have hb4:Below W1.heap.size W1 W4:=(hbV3.alloc hbV3.size _).grown hg4 hsz (fun g hg=>(hown5.lt g hg).1);have hV5:W4.ownsRow W1.heap.size 58 4 v' (outV (L.take (i+1))).length (tcells (outV (L.take (i+1)))):=by
      rw [hst,tcells_app,List.length_append];exact hV4
     clear hV4 hg4 hown5 hnew hsz hbV3 hq3 hcl hT0 hN0 hb0 e0 e1 e2 e3 g0 g1 g2;go_wp2;exact ⟨⟨i+1,rfl,hik,hV5,hb4⟩,by simp [RowKit.intOf];omega⟩
  ·obtain rfl:i=L.length:=by omega
   rw [List.take_of_length_le (Nat.le_refl _),hO] at hown;have hlt:w.heap.size<W1.heap.size:=hR.lt;obtain ⟨od',oc',rfl,hoc',hot⟩:=own_tat rfl hown;have hfar:∀ lb lo,od'=some ⟨lb,lo,none⟩→lb≠w.heap.size:=fun lb lo e=>by
    have:=hown.lt lb (by rw [e];rfl)
    omega
   have hnew:∀ lb lo,od'=some ⟨lb,lo,none⟩→w.heap.size≤lb:=fun lb lo e=>by
    have:=hown.lt lb (by rw [e];rfl)
    omega
   have hR2:=hR.below hbw hR.lt;obtain ⟨e0,e1,e2,e3⟩:=hR2.facts2;replace hb:=below_next hb hbw;clear hown hL hR hbw;go_wp2;exact ret_poly rfl rfl rfl (hR2.set2 _ _) ⟨od',oc',rfl,hoc',hot.far2 hfar _ _ _ _,hnew,pbelow_set2 hb (Nat.le_refl _) _ _ _ _⟩
theorem togC (k:Nat) (hk:k≤5000):TogC k:=fun W a b ha hb m s d hd =>
 ptogether_any W a b ⟨by have:=ha.1;omega,by have:=ha.2.1;omega,by have:=ha.2.2;omega⟩ ⟨by have:=hb.1;omega,by have:=hb.2.1;omega,by have:=hb.2.2;omega⟩ m s d hd
theorem sum1_any (w:World) (v:Int) (td:Option Addr) (n c:Nat):Calls Tryz.prog 77 #[.agg #[.int .i64 v,.slice td n c]] w (fun e w'=>e=.returned (.slice td n c)∧Below w.heap.size w w'):=by
 go_enter Tryz.func77,Tryz.ntmps77;go_wp2;go_ret;exact ⟨rfl,(Below.refl _ _).alloc (Nat.le_refl _) _⟩
theorem sum1_row (w:World) (k:Nat) (x:PV) (td:Option Addr) (tc:Nat) (ht:TAt w td x.2) (hc:x.2.length≤tc) (hf:∀ z∈x.2,fitsN k z.2) :
  Calls Tryz.prog 77 (#[.agg #[.int .i64 x.1,.slice td x.2.length tc]]++#[]) w (fun e w'=>RowOut w w' k e (x.2.map tdv)):=by
 refine (sum1_any w x.1 td x.2.length tc).mono ?_;rintro e w' ⟨rfl,hq⟩;exact ⟨td,tc,x.2,rfl,hc,ht.below hq,rfl,hf,hq⟩
theorem alone_row (w:World) (k:Nat) (x:TV) (hf:fitsN k x.2):Calls Tryz.prog 40 (#[tagg x]++#[]) w (fun e w'=>RowOut w w' k e [tdv x]):=by
 refine (alone_any w x).mono ?_;rintro e w' ⟨ad,c,rfl,hc,ht,hq⟩;exact ⟨ad,c,[x],rfl,hc,ht,rfl,fun z hz=>by obtain rfl:=List.mem_singleton.1 hz;exact hf,hq⟩
theorem make1_any (w:World) (P:Nat) (x:TV) (v:Int) (hs:x.1.size≤1000000000) (hP:w.cell? ⟨P,0,none⟩=some (.int .i64 v)) (o:Bool) (ho:(!mayB x.1 v)=o) :
  Calls Tryz.prog 36 #[tagg x,.pointer (some ⟨P,0,none⟩)] w (Ret (.bool o) w):=by
 obtain ⟨xt,xm,xs,xd⟩:=x;simp only at hs ho;obtain ⟨q,hq⟩:∃ q,mayB xt v=q:=⟨_,rfl⟩;rw [hq] at ho;have hP2:=cell_keep ((Below.refl w.heap.size w).alloc (Nat.le_refl _) (.cells #[.string xt,.bool xm,.string xs,.int .i64 xd] 58)) hP;have hcall:=may_any (w.alloc (.cells #[.string xt,.bool xm,.string xs,.int .i64 xd] 58)) xt hs v q hq;have hb:=(Below.refl w.heap.size w).alloc (Nat.le_refl _) (.cells #[.string xt,.bool xm,.string xs,.int .i64 xd] 58);subst ho;clear hq;unfold tagg;go_enter Tryz.func36,Tryz.ntmps36;go_wp2_with fail;refine hcall.mono ?_;rintro e W1 ⟨rfl,hq⟩;go_wp2;go_ret;exact ⟨rfl,below_next hb hq⟩
theorem any_take {α:Type} {p:α→Bool} {l:List α} {i:Nat} (h:i<l.length) (h1:(l.take i).any p=false) (h2:p l[i]=false):(l.take (i+1)).any p=false:=by
 rw [List.take_succ_eq_append_getElem h,List.any_append,h1];simp [h2]
theorem indexT_any (p:TV→Bool) (f:Nat) (caps:Array Value) (hgo:∀ (aa:Array Value) (W:World),Sem.run Tryz.prog (callFunc f aa) W=.ok (.enter f aa) W) (w:World) (ad:Option Addr) (n c:Nat) (l:List TV) (hl:l.length=n) (hmax:n≤1000000) (hp:TAt w ad l)
  (hcall:∀ W,Below w.heap.size w W→∀ x∈l,Calls Tryz.prog f (#[tagg x]++caps) W (Ret (.bool (p x)) W)) :
  Calls Tryz.prog 59 #[.slice ad n c,.func (.func f) #[] caps] w (fun e w'=>∃ r:Int,e=.returned (.int .i64 r)∧decide (0≤r)=l.any p∧Below w.heap.size w w'):=by
 go_enter Tryz.func59,Tryz.ntmps59;go_wp2
 go_loopw [8] (fun iv wr=>∃ i:Nat,iv=.int .i64 i∧i≤n∧(l.take i).any p=false∧Below w.heap.size w wr) (fun iv _=>n-(RowKit.intOf iv).toNat)
 case atStart=>exact ⟨0,rfl,Nat.zero_le _,rfl,Below.refl _ _⟩
 case round =>
  obtain ⟨i,rfl,hi,hno,hb⟩:=hrel
  by_cases hik:i<n
  ·have hil:i<l.length:=by omega
   obtain ⟨lb,lo,rfl,hlb,c0,c1,c2,c3⟩:=hp.below hb i hil;have hc:=hcall wr hb l[i] (List.getElem_mem hil);have hst:=any_take hil hno;have hany:p l[i]=true→l.any p=true:=fun h=>List.any_eq_true.2 ⟨l[i],List.getElem_mem hil,h⟩;generalize l[i]=x at *;obtain ⟨q,hq⟩:∃ q,p x=q:=⟨_,rfl⟩;rw [hq] at hc hany hst;obtain ⟨xt,xm,xs,xd⟩:=x;simp only at c0 c1 c2 c3;unfold tagg at hc;simp only at hc;clear hcall hp;go_wp2_with fail;refine hc.mono ?_;rintro e W1 ⟨rfl,hq1⟩;have hb1:=below_next hb hq1;clear hc hq1 c0 c1 c2 c3
   cases q with
   | true =>
    have HA:=Lib.hid (hany rfl);clear hany hst;go_wp2;go_ret;exact ⟨(i:Int),rfl,by rw [HA.out];simp,hb1⟩
   | false =>
    have HS:=Lib.hid (hst rfl);clear hany hst;go_wp2;exact ⟨⟨i+1,rfl,hik,HS.out,hb1⟩,by simp [RowKit.intOf];omega⟩
  ·obtain rfl:i=n:=by omega
   rw [List.take_of_length_le (by omega)] at hno;have HN:=Lib.hid hno;clear hno hcall hp;go_wp2;go_ret;exact ⟨-1,rfl,by rw [HN.out];decide,hb⟩
theorem containsT_any (p:TV→Bool) (f:Nat) (caps:Array Value) (hgo:∀ (aa:Array Value) (W:World),Sem.run Tryz.prog (callFunc f aa) W=.ok (.enter f aa) W) (w:World) (ad:Option Addr) (n c:Nat) (l:List TV) (hl:l.length=n) (hmax:n≤1000000) (hp:TAt w ad l)
  (hcall:∀ W,Below w.heap.size w W→∀ x∈l,Calls Tryz.prog f (#[tagg x]++caps) W (Ret (.bool (p x)) W)) :
  Calls Tryz.prog 38 #[.slice ad n c,.func (.func f) #[] caps] w (Ret (.bool (l.any p)) w):=by
 have hc:=indexT_any p f caps hgo w ad n c l hl hmax hp hcall;clear hcall hgo;go_enter Tryz.func38,Tryz.ntmps38;go_wp2_with fail;refine hc.mono ?_;rintro e W1 ⟨r,rfl,hr,hq⟩;go_wp2;go_ret;exact ⟨rfl,hq⟩
end Go.Proofs.YtemedphcafgolaaGreatDoor
