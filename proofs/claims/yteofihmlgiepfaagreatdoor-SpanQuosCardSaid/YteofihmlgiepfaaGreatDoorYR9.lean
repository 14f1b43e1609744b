/- The document's answer for dyadic numbers: Min, Max; walked. -/
import Derived.Test.YteofihmlgiepfaaGreatDoorYR6
import Derived.Test.YteofihmlgiepfaaGreatDoorY16
namespace Go.Proofs.YteofihmlgiepfaaGreatDoor
set_option maxRecDepth 100000
set_option maxHeartbeats 3200000
open Go.RowKit Go.Shelf
def RFar (w wr:World) (side:Int) (l:List NV) (k:Nat):Prop:=
 ∃ q t f,Nk wr (w.heap.size+1) q t f∧nv q t f=farD side l k∧(t.size≤500∧-5000≤f∧f≤9000)∧Nk wr w.heap.size false ⟨#[]⟩ 0∧Below w.heap.size w wr∧(0<k→df (nv q t f)=nu q t f)∧(k=0→q=false∧t=⟨#[]⟩∧f=0)
theorem rymin_wide (w:World) (ad:Option Addr) (l:List NV) (n c:Nat) (hn:l.length=n) (hmax:n≤250) (hl:NAt w ad l) (hs:∀ x∈l,x.2.1.size≤500∧-5000≤x.2.2∧x.2.2≤5000) (m' : Bool) (s' : ByteArray) (e' : Int) (hd:df (farD (-1) l n)=nu m' s' e') :
  Calls Tryz.prog 59 #[.slice ad n c] w (Ret (.agg #[.bool m',.string s',.int .i64 e']) w):=by
 have HN:=Lib.hid (And.intro hn hd);clear hn hd;go_enter Tryz.func59,Tryz.ntmps59;go_wp2_with fail;obtain ⟨hR,hP,hb⟩:=nblk2 w false false ⟨#[]⟩ ⟨#[]⟩ 0 0;generalize ((w.alloc (.cells #[.bool false,.string ⟨#[]⟩,.int .i64 0] 25)).alloc (.cells #[.bool false,.string ⟨#[]⟩,.int .i64 0] 25))=W0 at *;have hJ0:RFar w W0 (-1) l 0:=⟨false,⟨#[]⟩,0,hP,rfl,⟨by decide,by decide,by decide⟩,hR,hb,fun h=>by omega,fun _=>⟨rfl,rfl,rfl⟩⟩;clear hR hP hb
 go_loopw [4] (fun i wr=>∃ k:Nat,k≤n∧i=.int .i64 k∧RFar w wr (-1) l k) (fun i _=>n-intY i)
 case atStart=>exact ⟨0,Nat.zero_le _,rfl,hJ0⟩
 case round =>
  clear hJ0;obtain ⟨k,hk,rfl,q,t,f,hP,hv,hbq,hR,hb,hdf,hz0⟩:=hrel
  by_cases hlt:k<n
  ·have hkl:k<l.length:=by rw [HN.out.1];exact hlt
   obtain ⟨lb,lo,rfl,hlb,hc1,hc2,hc3⟩:=hl k hkl;obtain ⟨m2,s2,e2,hx⟩:∃ m s e,l[k]=(m,s,e):=⟨_,_,_,rfl⟩;have hm2:=List.getElem_mem hkl;have hone:k=0→farD (-1) l (k+1)=nvl l[k]:=fun h=>by subst h;exact farD_one _ hkl
   have hmore:0<k→farD (-1) l (k+1)=if 0<(-1)*dsg (nvl l[k]-farD (-1) l k) then nvl l[k] else farD (-1) l k:=fun h=>farD_succ _ h hkl
   rw [hx] at hc1 hc2 hc3 hm2 hone hmore;have hb2:=hs _ hm2;simp only at hc1 hc2 hc3 hb2;have hc1':=hc1;have hc2':=hc2;have hc3':=hc3;replace hc1:wr.cell? ⟨lb,lo+k*3,none⟩=some (.bool m2):=by rw [hb.cell hlb];exact hc1'
   replace hc2:wr.cell? ⟨lb,lo+k*3+1,none⟩=some (.string s2):=by rw [hb.cell hlb];exact hc2'
   replace hc3:wr.cell? ⟨lb,lo+k*3+2,none⟩=some (.int .i64 e2):=by rw [hb.cell hlb];exact hc3'
   obtain ⟨z3,o3,e3,k3⟩:=df_some (nv m2 s2 e2);have hx3:=df_exp k3 (k:=500) (by omega);have v3:=(df_parts k3).2.2.1;obtain ⟨cc,hcc⟩:∃ cc,dsg (nv m2 s2 e2-nv q t f)=cc:=⟨_,rfl⟩;have hmore2:0<k→farD (-1) l (k+1)=if cc<0 then nv m2 s2 e2 else nv q t f:=fun h=>by
    rw [hmore h,← hv];show (if 0<(-1)*dsg (nv m2 s2 e2-nv q t f) then _ else _)=_;rw [hcc]
    by_cases h9:cc<0
    ·rw [if_pos h9,if_pos (by omega)];rfl
    ·rw [if_neg h9,if_neg (by omega)]
   have HC:=Lib.hid (And.intro hcc (And.intro hmore2 (And.intro hone (And.intro k3 (And.intro v3 hv)))));have HD:=Lib.hid hdf;have hb3:o3.size≤500∧-5000≤e3∧e3≤9000:=by omega
   clear hx hone hmore hmore2 hcc k3 v3 hv hdf hm2 hx3 hz0;obtain ⟨hP0,hP1,hP2⟩:=hP.cells;have hnk:(k:Int)<(n:Int):=by omega
   by_cases hk0:k=0
   ·have hk0b:((k:Int) == 0)=true:=by rw [hk0];rfl
    go_wp2_with fail;refine region_segs (n:=11) #[false,false,false,false,false,false,false,false,false,false,false] (by kernel_rfl) (by kernel_rfl) (by kernel_rfl) ?_;intro fu hf;refine ls 11 [0,1,2,3,4,5,6,7,8,9,10] 10 (fun L ac Wn=>∃ l0 l1 l2 l3 l4 l5 l6 l7 l8 l9:Bool,L=#[l0,l1,l2,l3,l4,l5,l6,l7,l8,l9,false]∧ac={tmps:=#[.slice (some { block:=lb,off:=lo }) n c,undef,.pointer (some ⟨w.heap.size,0,none⟩),.pointer (some ⟨w.heap.size+1,0,none⟩),.int .i64 ↑k,.agg #[.bool false,.string ⟨#[]⟩,.int .i64 0],.int .i64 ↑k,.slice (some { block:=lb,off:=lo }) n c,.int .i64 ↑n,.bool (decide (0<n)),u10,u11,sel l0 (.int .i64 ↑k) (u12),sel l1 (.bool true) (u13),sel l2 (.bool true) (u14),sel l3 (undef) (u15),sel l4 (undef) (u16),sel l5 (undef) (u17),sel l6 (undef) (u18),sel l7 (undef) (u19),sel l8 (undef) (u20),sel l9 (undef) (u21),u22,u23,u24,u25,u26,u27,undef],defers:=[] }∧Below (w.heap.size) w Wn∧(Nk Wn (w.heap.size+1) q t f)∧(Nk Wn (w.heap.size) false ⟨#[]⟩ 0)) hf ?_ ?_ ?_ ?_
    ·exact ⟨false,false,false,false,false,false,false,false,false,false,by kernel_rfl,by kernel_rfl,hb.drew,hP.drew,hR.drew⟩
    ·rintro L ac Wn ⟨l0,l1,l2,l3,l4,l5,l6,l7,l8,l9,rfl,_⟩
     kernel_rfl
    ·refine (seg_all (b:=10) [0,1,2,3,4,5,6,7,8,9] ?_:∀ j∈[0,1,2,3,4,5,6,7,8,9,10],j≠10→_);refine lc [] [1,2,3,4,5,6,7,8,9] ?_ ?_
     ·rintro L ac Wn ⟨l0,l1,l2,l3,l4,l5,l6,l7,l8,l9,rfl,hI⟩ rfl - ⟨rfl,rfl,rfl,rfl,rfl,rfl,rfl,rfl,rfl,-⟩ Kc hK;simp only [sel_f] at hI;obtain ⟨rfl,hb,hP,hR⟩:=hI;refine ly (.int .i64 ↑k) ?_;exact hK.out _ _ ⟨true,false,false,false,false,false,false,false,false,false,by kernel_rfl,by kernel_rfl,hb,hP,hR⟩
     refine lc [0] [2,3,4,5,6,7,8,9] ?_ ?_
     ·rintro L ac Wn ⟨l0,l1,l2,l3,l4,l5,l6,l7,l8,l9,rfl,hI⟩ rfl ⟨rfl,-⟩ ⟨rfl,rfl,rfl,rfl,rfl,rfl,rfl,rfl,-⟩ Kc hK;simp only [sel_t,sel_f] at hI;obtain ⟨rfl,hb,hP,hR⟩:=hI;refine ly (.bool true) ?_;exact hK.out _ _ ⟨true,true,false,false,false,false,false,false,false,false,by kernel_rfl,by kernel_rfl,hb,hP,hR⟩
     refine lc [0,1] [3,4,5,6,7,8,9] ?_ ?_
     ·rintro L ac Wn ⟨l0,l1,l2,l3,l4,l5,l6,l7,l8,l9,rfl,hI⟩ rfl ⟨rfl,rfl,-⟩ ⟨rfl,rfl,rfl,rfl,rfl,rfl,rfl,-⟩ Kc hK;simp only [sel_t,sel_f] at hI;obtain ⟨rfl,hb,hP,hR⟩:=hI;refine ly (.bool true) ?_;exact hK.out _ _ ⟨true,true,true,false,false,false,false,false,false,false,by kernel_rfl,by kernel_rfl,hb,hP,hR⟩
     refine lc [0,1,2] [5,6,8,9] ?_ ?_
     ·rintro L ac Wn ⟨l0,l1,l2,l3,l4,l5,l6,l7,l8,l9,rfl,hI⟩ rfl ⟨rfl,rfl,rfl,-⟩ ⟨rfl,rfl,rfl,rfl,-⟩ Kc hK;simp only [sel_t,sel_f] at hI;obtain ⟨rfl,hb,hP,hR⟩:=hI;refine lin_skip rfl ?_;exact hK.out _ _ ⟨true,true,true,true,l4,false,false,l7,false,false,by kernel_rfl,by kernel_rfl,hb,hP,hR⟩
     refine lc [0,1,2] [5,6,8,9] ?_ ?_
     ·rintro L ac Wn ⟨l0,l1,l2,l3,l4,l5,l6,l7,l8,l9,rfl,hI⟩ rfl ⟨rfl,rfl,rfl,-⟩ ⟨rfl,rfl,rfl,rfl,-⟩ Kc hK;simp only [sel_t,sel_f] at hI;obtain ⟨rfl,hb,hP,hR⟩:=hI;refine lin_skip rfl ?_;exact hK.out _ _ ⟨true,true,true,l3,true,false,false,l7,false,false,by kernel_rfl,by kernel_rfl,hb,hP,hR⟩
     refine lc [0,1,2,3,4] [6,8,9] ?_ ?_
     ·rintro L ac Wn ⟨l0,l1,l2,l3,l4,l5,l6,l7,l8,l9,rfl,hI⟩ rfl ⟨rfl,rfl,rfl,rfl,rfl,-⟩ ⟨rfl,rfl,rfl,-⟩ Kc hK;simp only [sel_t,sel_f] at hI;obtain ⟨rfl,hb,hP,hR⟩:=hI;refine lin_skip rfl ?_;exact hK.out _ _ ⟨true,true,true,true,true,true,false,l7,false,false,by kernel_rfl,by kernel_rfl,hb,hP,hR⟩
     refine lc [0,1,2,3,4,5] [8,9] ?_ ?_
     ·rintro L ac Wn ⟨l0,l1,l2,l3,l4,l5,l6,l7,l8,l9,rfl,hI⟩ rfl ⟨rfl,rfl,rfl,rfl,rfl,rfl,-⟩ ⟨rfl,rfl,-⟩ Kc hK;simp only [sel_t,sel_f] at hI;obtain ⟨rfl,hb,hP,hR⟩:=hI;refine lin_skip rfl ?_;exact hK.out _ _ ⟨true,true,true,true,true,true,true,l7,false,false,by kernel_rfl,by kernel_rfl,hb,hP,hR⟩
     refine lc [0,1,2] [8,9] ?_ ?_
     ·rintro L ac Wn ⟨l0,l1,l2,l3,l4,l5,l6,l7,l8,l9,rfl,hI⟩ rfl ⟨rfl,rfl,rfl,-⟩ ⟨rfl,rfl,-⟩ Kc hK;simp only [sel_t,sel_f] at hI;obtain ⟨rfl,hb,hP,hR⟩:=hI;refine lin_skip rfl ?_;exact hK.out _ _ ⟨true,true,true,l3,l4,l5,l6,true,false,false,by kernel_rfl,by kernel_rfl,hb,hP,hR⟩
     refine lc [0,1,2,3,4,5,6,7] [9] ?_ ?_
     ·rintro L ac Wn ⟨l0,l1,l2,l3,l4,l5,l6,l7,l8,l9,rfl,hI⟩ rfl ⟨rfl,rfl,rfl,rfl,rfl,rfl,rfl,rfl,-⟩ ⟨rfl,-⟩ Kc hK;simp only [sel_t,sel_f] at hI;obtain ⟨rfl,hb,hP,hR⟩:=hI;refine lin_skip rfl ?_;exact hK.out _ _ ⟨true,true,true,true,true,true,true,true,true,false,by kernel_rfl,by kernel_rfl,hb,hP,hR⟩
     refine ln [0,1,2,3,4,5,6,7,8] [] ?_;rintro L ac Wn ⟨l0,l1,l2,l3,l4,l5,l6,l7,l8,l9,rfl,hI⟩ rfl ⟨rfl,rfl,rfl,rfl,rfl,rfl,rfl,rfl,rfl,-⟩ - Kc hK;simp only [sel_t,sel_f] at hI;obtain ⟨rfl,hb,hP,hR⟩:=hI;refine lin_skip rfl ?_;exact hK.out _ _ ⟨true,true,true,true,true,true,true,true,true,true,by kernel_rfl,by kernel_rfl,hb,hP,hR⟩
    refine bo [0,1,2,3,4,5,6,7,8,9] ?_;rintro L ac Wn ⟨l0,l1,l2,l3,l4,l5,l6,l7,l8,l9,rfl,hI⟩ ⟨rfl,rfl,rfl,rfl,rfl,rfl,rfl,rfl,rfl,rfl,-⟩ Kc hK;simp only [sel_t] at hI;obtain ⟨rfl,hb,hP,hR⟩:=hI;refine ly (.bool true) ?_;refine hK.out _ _ (fun fu hf=>wpAnyH_done (by kernel_rfl) ?_ _);clear hK Kc hf;clear hc1 hc2 hc3 hP0 hP1 hP2;have hc1:Wn.cell? ⟨lb,lo+k*3,none⟩=some (.bool m2):=by rw [hb.cell hlb];exact hc1'
    have hc2:Wn.cell? ⟨lb,lo+k*3+1,none⟩=some (.string s2):=by rw [hb.cell hlb];exact hc2'
    have hc3:Wn.cell? ⟨lb,lo+k*3+2,none⟩=some (.int .i64 e2):=by rw [hb.cell hlb];exact hc3'
    have hz1:Wn.cell? ⟨lb,lo,none⟩=some (.bool m2):=by have h:=hc1;rw [hk0,Nat.zero_mul,Nat.add_zero] at h;exact h
    have hz2:Wn.cell? ⟨lb,lo+1,none⟩=some (.string s2):=by have h:=hc2;rw [hk0,Nat.zero_mul,Nat.add_zero] at h;exact h
    have hz3:Wn.cell? ⟨lb,lo+2,none⟩=some (.int .i64 e2):=by have h:=hc3;rw [hk0,Nat.zero_mul,Nat.add_zero] at h;exact h
    go_wp2_with fail;refine (ryform_any _ m2 s2 e2 (by omega) (by omega) z3 o3 e3 HC.out.2.2.2.1).mono ?_;rintro e9 V ⟨rfl,hq⟩;replace hb:=below_next hb hq;replace hP:=hP.below hq;replace hR:=hR.below hq;clear hq;obtain ⟨hP0,hP1,hP2,hP3,hP4,hP5⟩:=hP.facts;have hf2:nv z3 o3 e3=farD (-1) l (k+1):=by rw [HC.out.2.2.2.2.1,HC.out.2.2.1 hk0];rfl
    have hf3:df (nv z3 o3 e3)=nu z3 o3 e3:=by rw [HC.out.2.2.2.2.1];exact HC.out.2.2.2.1
    have HJ:=Lib.hid (show RFar w (((V.setCell ⟨w.heap.size+1,0,none⟩ (.bool z3)).setCell ⟨w.heap.size+1,1,none⟩ (.string o3)).setCell ⟨w.heap.size+1,2,none⟩ (.int .i64 e3)) (-1) l (k+1) from ⟨z3,o3,e3,hP.set3 z3 o3 e3,hf2,hb3,((hR.fr (w.heap.size+1) 0 (.bool z3)).fr (w.heap.size+1) 1 (.string o3)).fr (w.heap.size+1) 2 (.int .i64 e3),below_set3 hb (show w.heap.size≤w.heap.size+1 by omega) 0 1 2 (.bool z3) (.string o3) (.int .i64 e3),fun _=>hf3,fun h=>by omega⟩);clear hP hR hb hf2 hf3;go_wp2;exact ⟨⟨k+1,by omega,by simp [hk0],HJ.out⟩,by simp [intY,hk0];omega⟩
   ·have hk0b:((k:Int) == 0)=false:=by rw [beq_eq_false_iff_ne];omega
    go_wp2_with fail
    by_cases h9:cc<0
    ·have d9:decide (cc<0)=true:=decide_eq_true h9;refine region_segs (n:=11) #[false,false,false,false,false,false,false,false,false,false,false] (by kernel_rfl) (by kernel_rfl) (by kernel_rfl) ?_;intro fu hf;refine ls 11 [0,1,2,3,4,5,6,7,8,9,10] 10 (fun L ac Wn=>∃ l0 l1 l2 l3 l4 l5 l6 l7 l8 l9:Bool,L=#[l0,l1,l2,l3,l4,l5,l6,l7,l8,l9,false]∧ac={tmps:=#[.slice (some { block:=lb,off:=lo }) n c,undef,.pointer (some ⟨w.heap.size,0,none⟩),.pointer (some ⟨w.heap.size+1,0,none⟩),.int .i64 ↑k,.agg #[.bool false,.string ⟨#[]⟩,.int .i64 0],.int .i64 ↑k,.slice (some { block:=lb,off:=lo }) n c,.int .i64 ↑n,.bool true,u10,u11,sel l0 (.int .i64 ↑k) (u12),sel l1 (.bool false) (u13),sel l2 (.bool false) (u14),sel l3 (.slice (some { block:=lb,off:=lo }) n c) (u15),sel l4 (.int .i64 ↑k) (u16),sel l5 (.pointer (some { block:=lb,off:=lo+k*3 })) (u17),sel l6 (.agg #[.bool m2,.string s2,.int .i64 e2]) (u18),sel l7 (.agg #[.bool q,.string t,.int .i64 f]) (u19),sel l8 (.int .i64 cc) (u20),sel l9 (.bool true) (u21),u22,u23,u24,u25,u26,u27,undef],defers:=[] }∧Below (w.heap.size) w Wn∧(Nk Wn (w.heap.size+1) q t f)∧(Nk Wn (w.heap.size) false ⟨#[]⟩ 0)) hf ?_ ?_ ?_ ?_
     ·exact ⟨false,false,false,false,false,false,false,false,false,false,by kernel_rfl,by kernel_rfl,hb.drew,hP.drew,hR.drew⟩
     ·rintro L ac Wn ⟨l0,l1,l2,l3,l4,l5,l6,l7,l8,l9,rfl,_⟩
      kernel_rfl
     ·refine (seg_all (b:=10) [0,1,2,3,4,5,6,7,8,9] ?_:∀ j∈[0,1,2,3,4,5,6,7,8,9,10],j≠10→_);refine lc [] [1,2,3,4,5,6,7,8,9] ?_ ?_
      ·rintro L ac Wn ⟨l0,l1,l2,l3,l4,l5,l6,l7,l8,l9,rfl,hI⟩ rfl - ⟨rfl,rfl,rfl,rfl,rfl,rfl,rfl,rfl,rfl,-⟩ Kc hK;simp only [sel_f] at hI;obtain ⟨rfl,hb,hP,hR⟩:=hI;refine ly (.int .i64 ↑k) ?_;exact hK.out _ _ ⟨true,false,false,false,false,false,false,false,false,false,by kernel_rfl,by kernel_rfl,hb,hP,hR⟩
      refine lc [0] [2,3,4,5,6,7,8,9] ?_ ?_
      ·rintro L ac Wn ⟨l0,l1,l2,l3,l4,l5,l6,l7,l8,l9,rfl,hI⟩ rfl ⟨rfl,-⟩ ⟨rfl,rfl,rfl,rfl,rfl,rfl,rfl,rfl,-⟩ Kc hK;simp only [sel_t,sel_f] at hI;obtain ⟨rfl,hb,hP,hR⟩:=hI;refine ly (.bool false) ?_;exact hK.out _ _ ⟨true,true,false,false,false,false,false,false,false,false,by kernel_rfl,by kernel_rfl,hb,hP,hR⟩
      refine lc [0,1] [3,4,5,6,7,8,9] ?_ ?_
      ·rintro L ac Wn ⟨l0,l1,l2,l3,l4,l5,l6,l7,l8,l9,rfl,hI⟩ rfl ⟨rfl,rfl,-⟩ ⟨rfl,rfl,rfl,rfl,rfl,rfl,rfl,-⟩ Kc hK;simp only [sel_t,sel_f] at hI;obtain ⟨rfl,hb,hP,hR⟩:=hI;refine ly (.bool false) ?_;exact hK.out _ _ ⟨true,true,true,false,false,false,false,false,false,false,by kernel_rfl,by kernel_rfl,hb,hP,hR⟩
      refine lc [0,1,2] [5,6,8,9] ?_ ?_
      ·rintro L ac Wn ⟨l0,l1,l2,l3,l4,l5,l6,l7,l8,l9,rfl,hI⟩ rfl ⟨rfl,rfl,rfl,-⟩ ⟨rfl,rfl,rfl,rfl,-⟩ Kc hK;simp only [sel_t,sel_f] at hI;obtain ⟨rfl,hb,hP,hR⟩:=hI;refine ly (.slice (some { block:=lb,off:=lo }) n c) ?_;exact hK.out _ _ ⟨true,true,true,true,l4,false,false,l7,false,false,by kernel_rfl,by kernel_rfl,hb,hP,hR⟩
      refine lc [0,1,2] [5,6,8,9] ?_ ?_
      ·rintro L ac Wn ⟨l0,l1,l2,l3,l4,l5,l6,l7,l8,l9,rfl,hI⟩ rfl ⟨rfl,rfl,rfl,-⟩ ⟨rfl,rfl,rfl,rfl,-⟩ Kc hK;simp only [sel_t,sel_f] at hI;obtain ⟨rfl,hb,hP,hR⟩:=hI;refine ly (.int .i64 ↑k) ?_;exact hK.out _ _ ⟨true,true,true,l3,true,false,false,l7,false,false,by kernel_rfl,by kernel_rfl,hb,hP,hR⟩
      refine lc [0,1,2,3,4] [6,8,9] ?_ ?_
      ·rintro L ac Wn ⟨l0,l1,l2,l3,l4,l5,l6,l7,l8,l9,rfl,hI⟩ rfl ⟨rfl,rfl,rfl,rfl,rfl,-⟩ ⟨rfl,rfl,rfl,-⟩ Kc hK;simp only [sel_t,sel_f] at hI;obtain ⟨rfl,hb,hP,hR⟩:=hI;refine ly (.pointer (some { block:=lb,off:=lo+k*3 })) ?_;exact hK.out _ _ ⟨true,true,true,true,true,true,false,l7,false,false,by kernel_rfl,by kernel_rfl,hb,hP,hR⟩
      refine lc [0,1,2,3,4,5] [8,9] ?_ ?_
      ·rintro L ac Wn ⟨l0,l1,l2,l3,l4,l5,l6,l7,l8,l9,rfl,hI⟩ rfl ⟨rfl,rfl,rfl,rfl,rfl,rfl,-⟩ ⟨rfl,rfl,-⟩ Kc hK;simp only [sel_t,sel_f] at hI;obtain ⟨rfl,hb,hP,hR⟩:=hI;have q0:Wn.cell? ⟨lb,lo+k*3,none⟩=some (.bool m2):=by rw [hb.cell hlb];exact hc1'
       have q1:Wn.cell? ⟨lb,lo+k*3+1,none⟩=some (.string s2):=by rw [hb.cell hlb];exact hc2'
       have q2:Wn.cell? ⟨lb,lo+k*3+2,none⟩=some (.int .i64 e2):=by rw [hb.cell hlb];exact hc3'
       refine ly (.agg #[.bool m2,.string s2,.int .i64 e2]) ?_;exact hK.out _ _ ⟨true,true,true,true,true,true,true,l7,false,false,by kernel_rfl,by kernel_rfl,hb,hP,hR⟩
      refine lc [0,1,2] [8,9] ?_ ?_
      ·rintro L ac Wn ⟨l0,l1,l2,l3,l4,l5,l6,l7,l8,l9,rfl,hI⟩ rfl ⟨rfl,rfl,rfl,-⟩ ⟨rfl,rfl,-⟩ Kc hK;simp only [sel_t,sel_f] at hI;obtain ⟨rfl,hb,hP,hR⟩:=hI;obtain ⟨q0,q1,q2,q3,q4,q5⟩:=(hP).facts;refine ly (.agg #[.bool q,.string t,.int .i64 f]) ?_;exact hK.out _ _ ⟨true,true,true,l3,l4,l5,l6,true,false,false,by kernel_rfl,by kernel_rfl,hb,hP,hR⟩
      refine lc [0,1,2,3,4,5,6,7] [9] ?_ ?_
      ·rintro L ac Wn ⟨l0,l1,l2,l3,l4,l5,l6,l7,l8,l9,rfl,hI⟩ rfl ⟨rfl,rfl,rfl,rfl,rfl,rfl,rfl,rfl,-⟩ ⟨rfl,-⟩ Kc hK;simp only [sel_t,sel_f] at hI;obtain ⟨rfl,hb,hP,hR⟩:=hI;go_simp;go_fit (rycmp_any _ m2 q s2 t e2 f (by omega) (by omega) (by omega) (by omega) cc HC.out.1);rintro e V ⟨rfl,hq⟩;exact hK.out _ _ ⟨true,true,true,true,true,true,true,true,true,false,by kernel_rfl,by kernel_rfl,(below_next hb hq),(hP.below hq),(hR.below hq)⟩
      refine ln [0,1,2,3,4,5,6,7,8] [] ?_;rintro L ac Wn ⟨l0,l1,l2,l3,l4,l5,l6,l7,l8,l9,rfl,hI⟩ rfl ⟨rfl,rfl,rfl,rfl,rfl,rfl,rfl,rfl,rfl,-⟩ - Kc hK;simp only [sel_t,sel_f] at hI;obtain ⟨rfl,hb,hP,hR⟩:=hI;refine ly (.bool true) ?_;exact hK.out _ _ ⟨true,true,true,true,true,true,true,true,true,true,by kernel_rfl,by kernel_rfl,hb,hP,hR⟩
     refine bo [0,1,2,3,4,5,6,7,8,9] ?_;rintro L ac Wn ⟨l0,l1,l2,l3,l4,l5,l6,l7,l8,l9,rfl,hI⟩ ⟨rfl,rfl,rfl,rfl,rfl,rfl,rfl,rfl,rfl,rfl,-⟩ Kc hK;simp only [sel_t] at hI;obtain ⟨rfl,hb,hP,hR⟩:=hI;refine ly (.bool true) ?_;refine hK.out _ _ (fun fu hf=>wpAnyH_done (by kernel_rfl) ?_ _);clear hK Kc hf;clear hc1 hc2 hc3 hP0 hP1 hP2;have hc1:Wn.cell? ⟨lb,lo+k*3,none⟩=some (.bool m2):=by rw [hb.cell hlb];exact hc1'
     have hc2:Wn.cell? ⟨lb,lo+k*3+1,none⟩=some (.string s2):=by rw [hb.cell hlb];exact hc2'
     have hc3:Wn.cell? ⟨lb,lo+k*3+2,none⟩=some (.int .i64 e2):=by rw [hb.cell hlb];exact hc3'
     go_wp2_with fail;refine (ryform_any _ m2 s2 e2 (by omega) (by omega) z3 o3 e3 HC.out.2.2.2.1).mono ?_;rintro e9 V ⟨rfl,hq⟩;replace hb:=below_next hb hq;replace hP:=hP.below hq;replace hR:=hR.below hq;clear hq;obtain ⟨hP0,hP1,hP2,hP3,hP4,hP5⟩:=hP.facts;have hf2:nv z3 o3 e3=farD (-1) l (k+1):=by rw [HC.out.2.2.2.2.1,HC.out.2.1 (by omega),if_pos h9]
     have hf3:df (nv z3 o3 e3)=nu z3 o3 e3:=by rw [HC.out.2.2.2.2.1];exact HC.out.2.2.2.1
     have HJ:=Lib.hid (show RFar w (((V.setCell ⟨w.heap.size+1,0,none⟩ (.bool z3)).setCell ⟨w.heap.size+1,1,none⟩ (.string o3)).setCell ⟨w.heap.size+1,2,none⟩ (.int .i64 e3)) (-1) l (k+1) from ⟨z3,o3,e3,hP.set3 z3 o3 e3,hf2,hb3,((hR.fr (w.heap.size+1) 0 (.bool z3)).fr (w.heap.size+1) 1 (.string o3)).fr (w.heap.size+1) 2 (.int .i64 e3),below_set3 hb (show w.heap.size≤w.heap.size+1 by omega) 0 1 2 (.bool z3) (.string o3) (.int .i64 e3),fun _=>hf3,fun h=>by omega⟩);clear hP hR hb hf2 hf3;go_wp2;exact ⟨⟨k+1,by omega,by simp,HJ.out⟩,by simp [intY];omega⟩
    ·have d9:decide (cc<0)=false:=decide_eq_false h9;refine region_segs (n:=11) #[false,false,false,false,false,false,false,false,false,false,false] (by kernel_rfl) (by kernel_rfl) (by kernel_rfl) ?_;intro fu hf;refine ls 11 [0,1,2,3,4,5,6,7,8,9,10] 10 (fun L ac Wn=>∃ l0 l1 l2 l3 l4 l5 l6 l7 l8 l9:Bool,L=#[l0,l1,l2,l3,l4,l5,l6,l7,l8,l9,false]∧ac={tmps:=#[.slice (some { block:=lb,off:=lo }) n c,undef,.pointer (some ⟨w.heap.size,0,none⟩),.pointer (some ⟨w.heap.size+1,0,none⟩),.int .i64 ↑k,.agg #[.bool false,.string ⟨#[]⟩,.int .i64 0],.int .i64 ↑k,.slice (some { block:=lb,off:=lo }) n c,.int .i64 ↑n,.bool true,u10,u11,sel l0 (.int .i64 ↑k) (u12),sel l1 (.bool false) (u13),sel l2 (.bool false) (u14),sel l3 (.slice (some { block:=lb,off:=lo }) n c) (u15),sel l4 (.int .i64 ↑k) (u16),sel l5 (.pointer (some { block:=lb,off:=lo+k*3 })) (u17),sel l6 (.agg #[.bool m2,.string s2,.int .i64 e2]) (u18),sel l7 (.agg #[.bool q,.string t,.int .i64 f]) (u19),sel l8 (.int .i64 cc) (u20),sel l9 (.bool false) (u21),u22,u23,u24,u25,u26,u27,undef],defers:=[] }∧Below (w.heap.size) w Wn∧(Nk Wn (w.heap.size+1) q t f)∧(Nk Wn (w.heap.size) false ⟨#[]⟩ 0)) hf ?_ ?_ ?_ ?_
     ·exact ⟨false,false,false,false,false,false,false,false,false,false,by kernel_rfl,by kernel_rfl,hb.drew,hP.drew,hR.drew⟩
     ·rintro L ac Wn ⟨l0,l1,l2,l3,l4,l5,l6,l7,l8,l9,rfl,_⟩
      kernel_rfl
     ·refine (seg_all (b:=10) [0,1,2,3,4,5,6,7,8,9] ?_:∀ j∈[0,1,2,3,4,5,6,7,8,9,10],j≠10→_);refine lc [] [1,2,3,4,5,6,7,8,9] ?_ ?_
      ·rintro L ac Wn ⟨l0,l1,l2,l3,l4,l5,l6,l7,l8,l9,rfl,hI⟩ rfl - ⟨rfl,rfl,rfl,rfl,rfl,rfl,rfl,rfl,rfl,-⟩ Kc hK;simp only [sel_f] at hI;obtain ⟨rfl,hb,hP,hR⟩:=hI;refine ly (.int .i64 ↑k) ?_;exact hK.out _ _ ⟨true,false,false,false,false,false,false,false,false,false,by kernel_rfl,by kernel_rfl,hb,hP,hR⟩
      refine lc [0] [2,3,4,5,6,7,8,9] ?_ ?_
      ·rintro L ac Wn ⟨l0,l1,l2,l3,l4,l5,l6,l7,l8,l9,rfl,hI⟩ rfl ⟨rfl,-⟩ ⟨rfl,rfl,rfl,rfl,rfl,rfl,rfl,rfl,-⟩ Kc hK;simp only [sel_t,sel_f] at hI;obtain ⟨rfl,hb,hP,hR⟩:=hI;refine ly (.bool false) ?_;exact hK.out _ _ ⟨true,true,false,false,false,false,false,false,false,false,by kernel_rfl,by kernel_rfl,hb,hP,hR⟩
      refine lc [0,1] [3,4,5,6,7,8,9] ?_ ?_
      ·rintro L ac Wn ⟨l0,l1,l2,l3,l4,l5,l6,l7,l8,l9,rfl,hI⟩ rfl ⟨rfl,rfl,-⟩ ⟨rfl,rfl,rfl,rfl,rfl,rfl,rfl,-⟩ Kc hK;simp only [sel_t,sel_f] at hI;obtain ⟨rfl,hb,hP,hR⟩:=hI;refine ly (.bool false) ?_;exact hK.out _ _ ⟨true,true,true,false,false,false,false,false,false,false,by kernel_rfl,by kernel_rfl,hb,hP,hR⟩
      refine lc [0,1,2] [5,6,8,9] ?_ ?_
      ·rintro L ac Wn ⟨l0,l1,l2,l3,l4,l5,l6,l7,l8,l9,rfl,hI⟩ rfl ⟨rfl,rfl,rfl,-⟩ ⟨rfl,rfl,rfl,rfl,-⟩ Kc hK;simp only [sel_t,sel_f] at hI;obtain ⟨rfl,hb,hP,hR⟩:=hI;refine ly (.slice (some { block:=lb,off:=lo }) n c) ?_;exact hK.out _ _ ⟨true,true,true,true,l4,false,false,l7,false,false,by kernel_rfl,by kernel_rfl,hb,hP,hR⟩
      refine lc [0,1,2] [5,6,8,9] ?_ ?_
      ·rintro L ac Wn ⟨l0,l1,l2,l3,l4,l5,l6,l7,l8,l9,rfl,hI⟩ rfl ⟨rfl,rfl,rfl,-⟩ ⟨rfl,rfl,rfl,rfl,-⟩ Kc hK;simp only [sel_t,sel_f] at hI;obtain ⟨rfl,hb,hP,hR⟩:=hI;refine ly (.int .i64 ↑k) ?_;exact hK.out _ _ ⟨true,true,true,l3,true,false,false,l7,false,false,by kernel_rfl,by kernel_rfl,hb,hP,hR⟩
      refine lc [0,1,2,3,4] [6,8,9] ?_ ?_
      ·rintro L ac Wn ⟨l0,l1,l2,l3,l4,l5,l6,l7,l8,l9,rfl,hI⟩ rfl ⟨rfl,rfl,rfl,rfl,rfl,-⟩ ⟨rfl,rfl,rfl,-⟩ Kc hK;simp only [sel_t,sel_f] at hI;obtain ⟨rfl,hb,hP,hR⟩:=hI;refine ly (.pointer (some { block:=lb,off:=lo+k*3 })) ?_;exact hK.out _ _ ⟨true,true,true,true,true,true,false,l7,false,false,by kernel_rfl,by kernel_rfl,hb,hP,hR⟩
      refine lc [0,1,2,3,4,5] [8,9] ?_ ?_
      ·rintro L ac Wn ⟨l0,l1,l2,l3,l4,l5,l6,l7,l8,l9,rfl,hI⟩ rfl ⟨rfl,rfl,rfl,rfl,rfl,rfl,-⟩ ⟨rfl,rfl,-⟩ Kc hK;simp only [sel_t,sel_f] at hI;obtain ⟨rfl,hb,hP,hR⟩:=hI;have q0:Wn.cell? ⟨lb,lo+k*3,none⟩=some (.bool m2):=by rw [hb.cell hlb];exact hc1'
       have q1:Wn.cell? ⟨lb,lo+k*3+1,none⟩=some (.string s2):=by rw [hb.cell hlb];exact hc2'
       have q2:Wn.cell? ⟨lb,lo+k*3+2,none⟩=some (.int .i64 e2):=by rw [hb.cell hlb];exact hc3'
       refine ly (.agg #[.bool m2,.string s2,.int .i64 e2]) ?_;exact hK.out _ _ ⟨true,true,true,true,true,true,true,l7,false,false,by kernel_rfl,by kernel_rfl,hb,hP,hR⟩
      refine lc [0,1,2] [8,9] ?_ ?_
      ·rintro L ac Wn ⟨l0,l1,l2,l3,l4,l5,l6,l7,l8,l9,rfl,hI⟩ rfl ⟨rfl,rfl,rfl,-⟩ ⟨rfl,rfl,-⟩ Kc hK;simp only [sel_t,sel_f] at hI;obtain ⟨rfl,hb,hP,hR⟩:=hI;obtain ⟨q0,q1,q2,q3,q4,q5⟩:=(hP).facts;refine ly (.agg #[.bool q,.string t,.int .i64 f]) ?_;exact hK.out _ _ ⟨true,true,true,l3,l4,l5,l6,true,false,false,by kernel_rfl,by kernel_rfl,hb,hP,hR⟩
      refine lc [0,1,2,3,4,5,6,7] [9] ?_ ?_
      ·rintro L ac Wn ⟨l0,l1,l2,l3,l4,l5,l6,l7,l8,l9,rfl,hI⟩ rfl ⟨rfl,rfl,rfl,rfl,rfl,rfl,rfl,rfl,-⟩ ⟨rfl,-⟩ Kc hK;simp only [sel_t,sel_f] at hI;obtain ⟨rfl,hb,hP,hR⟩:=hI;go_simp;go_fit (rycmp_any _ m2 q s2 t e2 f (by omega) (by omega) (by omega) (by omega) cc HC.out.1);rintro e V ⟨rfl,hq⟩;exact hK.out _ _ ⟨true,true,true,true,true,true,true,true,true,false,by kernel_rfl,by kernel_rfl,(below_next hb hq),(hP.below hq),(hR.below hq)⟩
      refine ln [0,1,2,3,4,5,6,7,8] [] ?_;rintro L ac Wn ⟨l0,l1,l2,l3,l4,l5,l6,l7,l8,l9,rfl,hI⟩ rfl ⟨rfl,rfl,rfl,rfl,rfl,rfl,rfl,rfl,rfl,-⟩ - Kc hK;simp only [sel_t,sel_f] at hI;obtain ⟨rfl,hb,hP,hR⟩:=hI;refine ly (.bool false) ?_;exact hK.out _ _ ⟨true,true,true,true,true,true,true,true,true,true,by kernel_rfl,by kernel_rfl,hb,hP,hR⟩
     refine bo [0,1,2,3,4,5,6,7,8,9] ?_;rintro L ac Wn ⟨l0,l1,l2,l3,l4,l5,l6,l7,l8,l9,rfl,hI⟩ ⟨rfl,rfl,rfl,rfl,rfl,rfl,rfl,rfl,rfl,rfl,-⟩ Kc hK;simp only [sel_t] at hI;obtain ⟨rfl,hb,hP,hR⟩:=hI;refine ly (.bool false) ?_;refine hK.out _ _ (fun fu hf=>wpAnyH_done (by kernel_rfl) ?_ _);clear hK Kc hf;have hf2:nv q t f=farD (-1) l (k+1):=by rw [HC.out.2.1 (by omega),if_neg h9]
     have HJ:=Lib.hid (show RFar w Wn (-1) l (k+1) from ⟨q,t,f,hP,hf2,hbq,hR,hb,fun _=>HD.out (by omega),fun h=>by omega⟩);clear hP hR hb hf2 hP0 hP1 hP2 hc1 hc2 hc3;go_wp2;exact ⟨⟨k+1,by omega,by simp,HJ.out⟩,by simp [intY];omega⟩
  ·have hkn:k=n:=by omega
   subst hkn;have hfin:df (nv q t f)=nu m' s' e':=by rw [hv];exact HN.out.2
   have hparts:q=m'∧t=s'∧f=e':=by
    by_cases h0:0<k
    ·rw [hdf h0] at hfin;exact nu_inj hfin
    ·obtain ⟨rfl,rfl,rfl⟩:=hz0 (by omega);exact nu_inj (show nu false ⟨#[]⟩ 0=nu m' s' e' from hfin)
   obtain ⟨hP0,hP1,hP2⟩:=hP.cells;obtain ⟨hR0,hR1,hR2,hR3,hR4,hR5⟩:=hR.facts;have HJ:=Lib.hid (And.intro (hR.set3 q t f) (And.intro hparts (below_set3 hb (Nat.le_refl _) 0 1 2 (.bool q) (.string t) (.int .i64 f))));clear hR hb hv hdf hz0 hfin hparts hP;go_wp2;exact ret_num rfl rfl HJ.out.1 ⟨by obtain ⟨a1,a2,a3⟩:=HJ.out.2.1;rw [a1,a2,a3];rfl,HJ.out.2.2⟩
theorem rymax_wide (w:World) (ad:Option Addr) (l:List NV) (n c:Nat) (hn:l.length=n) (hmax:n≤250) (hl:NAt w ad l) (hs:∀ x∈l,x.2.1.size≤500∧-5000≤x.2.2∧x.2.2≤5000) (m' : Bool) (s' : ByteArray) (e' : Int) (hd:df (farD (1) l n)=nu m' s' e') :
  Calls Tryz.prog 58 #[.slice ad n c] w (Ret (.agg #[.bool m',.string s',.int .i64 e']) w):=by
 have HN:=Lib.hid (And.intro hn hd);clear hn hd;go_enter Tryz.func58,Tryz.ntmps58;go_wp2_with fail;obtain ⟨hR,hP,hb⟩:=nblk2 w false false ⟨#[]⟩ ⟨#[]⟩ 0 0;generalize ((w.alloc (.cells #[.bool false,.string ⟨#[]⟩,.int .i64 0] 25)).alloc (.cells #[.bool false,.string ⟨#[]⟩,.int .i64 0] 25))=W0 at *;have hJ0:RFar w W0 (1) l 0:=⟨false,⟨#[]⟩,0,hP,rfl,⟨by decide,by decide,by decide⟩,hR,hb,fun h=>by omega,fun _=>⟨rfl,rfl,rfl⟩⟩;clear hR hP hb
 go_loopw [4] (fun i wr=>∃ k:Nat,k≤n∧i=.int .i64 k∧RFar w wr (1) l k) (fun i _=>n-intY i)
 case atStart=>exact ⟨0,Nat.zero_le _,rfl,hJ0⟩
 case round =>
  clear hJ0;obtain ⟨k,hk,rfl,q,t,f,hP,hv,hbq,hR,hb,hdf,hz0⟩:=hrel
  by_cases hlt:k<n
  ·have hkl:k<l.length:=by rw [HN.out.1];exact hlt
   obtain ⟨lb,lo,rfl,hlb,hc1,hc2,hc3⟩:=hl k hkl;obtain ⟨m2,s2,e2,hx⟩:∃ m s e,l[k]=(m,s,e):=⟨_,_,_,rfl⟩;have hm2:=List.getElem_mem hkl;have hone:k=0→farD (1) l (k+1)=nvl l[k]:=fun h=>by subst h;exact farD_one _ hkl
   have hmore:0<k→farD (1) l (k+1)=if 0<(1)*dsg (nvl l[k]-farD (1) l k) then nvl l[k] else farD (1) l k:=fun h=>farD_succ _ h hkl
   rw [hx] at hc1 hc2 hc3 hm2 hone hmore;have hb2:=hs _ hm2;simp only at hc1 hc2 hc3 hb2;have hc1':=hc1;have hc2':=hc2;have hc3':=hc3;replace hc1:wr.cell? ⟨lb,lo+k*3,none⟩=some (.bool m2):=by rw [hb.cell hlb];exact hc1'
   replace hc2:wr.cell? ⟨lb,lo+k*3+1,none⟩=some (.string s2):=by rw [hb.cell hlb];exact hc2'
   replace hc3:wr.cell? ⟨lb,lo+k*3+2,none⟩=some (.int .i64 e2):=by rw [hb.cell hlb];exact hc3'
   obtain ⟨z3,o3,e3,k3⟩:=df_some (nv m2 s2 e2);have hx3:=df_exp k3 (k:=500) (by omega);have v3:=(df_parts k3).2.2.1;obtain ⟨cc,hcc⟩:∃ cc,dsg (nv m2 s2 e2-nv q t f)=cc:=⟨_,rfl⟩;have hmore2:0<k→farD (1) l (k+1)=if 0<cc then nv m2 s2 e2 else nv q t f:=fun h=>by
    rw [hmore h,← hv];show (if 0<(1)*dsg (nv m2 s2 e2-nv q t f) then _ else _)=_;rw [hcc]
    by_cases h9:0<cc
    ·rw [if_pos h9,if_pos (by omega)];rfl
    ·rw [if_neg h9,if_neg (by omega)]
   have HC:=Lib.hid (And.intro hcc (And.intro hmore2 (And.intro hone (And.intro k3 (And.intro v3 hv)))));have HD:=Lib.hid hdf;have hb3:o3.size≤500∧-5000≤e3∧e3≤9000:=by omega
   clear hx hone hmore hmore2 hcc k3 v3 hv hdf hm2 hx3 hz0;obtain ⟨hP0,hP1,hP2⟩:=hP.cells;have hnk:(k:Int)<(n:Int):=by omega
   by_cases hk0:k=0
   ·have hk0b:((k:Int) == 0)=true:=by rw [hk0];rfl
    go_wp2_with fail;refine region_segs (n:=11) #[false,false,false,false,false,false,false,false,false,false,false] (by kernel_rfl) (by kernel_rfl) (by kernel_rfl) ?_;intro fu hf;refine ls 11 [0,1,2,3,4,5,6,7,8,9,10] 10 (fun L ac Wn=>∃ l0 l1 l2 l3 l4 l5 l6 l7 l8 l9:Bool,L=#[l0,l1,l2,l3,l4,l5,l6,l7,l8,l9,false]∧ac={tmps:=#[.slice (some { block:=lb,off:=lo }) n c,undef,.pointer (some ⟨w.heap.size,0,none⟩),.pointer (some ⟨w.heap.size+1,0,none⟩),.int .i64 ↑k,.agg #[.bool false,.string ⟨#[]⟩,.int .i64 0],.int .i64 ↑k,.slice (some { block:=lb,off:=lo }) n c,.int .i64 ↑n,.bool (decide (0<n)),u10,u11,sel l0 (.int .i64 ↑k) (u12),sel l1 (.bool true) (u13),sel l2 (.bool true) (u14),sel l3 (undef) (u15),sel l4 (undef) (u16),sel l5 (undef) (u17),sel l6 (undef) (u18),sel l7 (undef) (u19),sel l8 (undef) (u20),sel l9 (undef) (u21),u22,u23,u24,u25,u26,u27,undef],defers:=[] }∧Below (w.heap.size) w Wn∧(Nk Wn (w.heap.size+1) q t f)∧(Nk Wn (w.heap.size) false ⟨#[]⟩ 0)) hf ?_ ?_ ?_ ?_
    ·exact ⟨false,false,false,false,false,false,false,false,false,false,by kernel_rfl,by kernel_rfl,hb.drew,hP.drew,hR.drew⟩
    ·rintro L ac Wn ⟨l0,l1,l2,l3,l4,l5,l6,l7,l8,l9,rfl,_⟩
     kernel_rfl
    ·refine (seg_all (b:=10) [0,1,2,3,4,5,6,7,8,9] ?_:∀ j∈[0,1,2,3,4,5,6,7,8,9,10],j≠10→_);refine lc [] [1,2,3,4,5,6,7,8,9] ?_ ?_
     ·rintro L ac Wn ⟨l0,l1,l2,l3,l4,l5,l6,l7,l8,l9,rfl,hI⟩ rfl - ⟨rfl,rfl,rfl,rfl,rfl,rfl,rfl,rfl,rfl,-⟩ Kc hK;simp only [sel_f] at hI;obtain ⟨rfl,hb,hP,hR⟩:=hI;refine ly (.int .i64 ↑k) ?_;exact hK.out _ _ ⟨true,false,false,false,false,false,false,false,false,false,by kernel_rfl,by kernel_rfl,hb,hP,hR⟩
     refine lc [0] [2,3,4,5,6,7,8,9] ?_ ?_
     ·rintro L ac Wn ⟨l0,l1,l2,l3,l4,l5,l6,l7,l8,l9,rfl,hI⟩ rfl ⟨rfl,-⟩ ⟨rfl,rfl,rfl,rfl,rfl,rfl,rfl,rfl,-⟩ Kc hK;simp only [sel_t,sel_f] at hI;obtain ⟨rfl,hb,hP,hR⟩:=hI;refine ly (.bool true) ?_;exact hK.out _ _ ⟨true,true,false,false,false,false,false,false,false,false,by kernel_rfl,by kernel_rfl,hb,hP,hR⟩
     refine lc [0,1] [3,4,5,6,7,8,9] ?_ ?_
     ·rintro L ac Wn ⟨l0,l1,l2,l3,l4,l5,l6,l7,l8,l9,rfl,hI⟩ rfl ⟨rfl,rfl,-⟩ ⟨rfl,rfl,rfl,rfl,rfl,rfl,rfl,-⟩ Kc hK;simp only [sel_t,sel_f] at hI;obtain ⟨rfl,hb,hP,hR⟩:=hI;refine ly (.bool true) ?_;exact hK.out _ _ ⟨true,true,true,false,false,false,false,false,false,false,by kernel_rfl,by kernel_rfl,hb,hP,hR⟩
     refine lc [0,1,2] [5,6,8,9] ?_ ?_
     ·rintro L ac Wn ⟨l0,l1,l2,l3,l4,l5,l6,l7,l8,l9,rfl,hI⟩ rfl ⟨rfl,rfl,rfl,-⟩ ⟨rfl,rfl,rfl,rfl,-⟩ Kc hK;simp only [sel_t,sel_f] at hI;obtain ⟨rfl,hb,hP,hR⟩:=hI;refine lin_skip rfl ?_;exact hK.out _ _ ⟨true,true,true,true,l4,false,false,l7,false,false,by kernel_rfl,by kernel_rfl,hb,hP,hR⟩
     refine lc [0,1,2] [5,6,8,9] ?_ ?_
     ·rintro L ac Wn ⟨l0,l1,l2,l3,l4,l5,l6,l7,l8,l9,rfl,hI⟩ rfl ⟨rfl,rfl,rfl,-⟩ ⟨rfl,rfl,rfl,rfl,-⟩ Kc hK;simp only [sel_t,sel_f] at hI;obtain ⟨rfl,hb,hP,hR⟩:=hI;refine lin_skip rfl ?_;exact hK.out _ _ ⟨true,true,true,l3,true,false,false,l7,false,false,by kernel_rfl,by kernel_rfl,hb,hP,hR⟩
     refine lc [0,1,2,3,4] [6,8,9] ?_ ?_
     ·rintro L ac Wn ⟨l0,l1,l2,l3,l4,l5,l6,l7,l8,l9,rfl,hI⟩ rfl ⟨rfl,rfl,rfl,rfl,rfl,-⟩ ⟨rfl,rfl,rfl,-⟩ Kc hK;simp only [sel_t,sel_f] at hI;obtain ⟨rfl,hb,hP,hR⟩:=hI;refine lin_skip rfl ?_;exact hK.out _ _ ⟨true,true,true,true,true,true,false,l7,false,false,by kernel_rfl,by kernel_rfl,hb,hP,hR⟩
     refine lc [0,1,2,3,4,5] [8,9] ?_ ?_
     ·rintro L ac Wn ⟨l0,l1,l2,l3,l4,l5,l6,l7,l8,l9,rfl,hI⟩ rfl ⟨rfl,rfl,rfl,rfl,rfl,rfl,-⟩ ⟨rfl,rfl,-⟩ Kc hK;simp only [sel_t,sel_f] at hI;obtain ⟨rfl,hb,hP,hR⟩:=hI;refine lin_skip rfl ?_;exact hK.out _ _ ⟨true,true,true,true,true,true,true,l7,false,false,by kernel_rfl,by kernel_rfl,hb,hP,hR⟩
     refine lc [0,1,2] [8,9] ?_ ?_
     ·rintro L ac Wn ⟨l0,l1,l2,l3,l4,l5,l6,l7,l8,l9,rfl,hI⟩ rfl ⟨rfl,rfl,rfl,-⟩ ⟨rfl,rfl,-⟩ Kc hK;simp only [sel_t,sel_f] at hI;obtain ⟨rfl,hb,hP,hR⟩:=hI;refine lin_skip rfl ?_;exact hK.out _ _ ⟨true,true,true,l3,l4,l5,l6,true,false,false,by kernel_rfl,by kernel_rfl,hb,hP,hR⟩
     refine lc [0,1,2,3,4,5,6,7] [9] ?_ ?_
     ·rintro L ac Wn ⟨l0,l1,l2,l3,l4,l5,l6,l7,l8,l9,rfl,hI⟩ rfl ⟨rfl,rfl,rfl,rfl,rfl,rfl,rfl,rfl,-⟩ ⟨rfl,-⟩ Kc hK;simp only [sel_t,sel_f] at hI;obtain ⟨rfl,hb,hP,hR⟩:=hI;refine lin_skip rfl ?_;exact hK.out _ _ ⟨true,true,true,true,true,true,true,true,true,false,by kernel_rfl,by kernel_rfl,hb,hP,hR⟩
     refine ln [0,1,2,3,4,5,6,7,8] [] ?_;rintro L ac Wn ⟨l0,l1,l2,l3,l4,l5,l6,l7,l8,l9,rfl,hI⟩ rfl ⟨rfl,rfl,rfl,rfl,rfl,rfl,rfl,rfl,rfl,-⟩ - Kc hK;simp only [sel_t,sel_f] at hI;obtain ⟨rfl,hb,hP,hR⟩:=hI;refine lin_skip rfl ?_;exact hK.out _ _ ⟨true,true,true,true,true,true,true,true,true,true,by kernel_rfl,by kernel_rfl,hb,hP,hR⟩
    refine bo [0,1,2,3,4,5,6,7,8,9] ?_;rintro L ac Wn ⟨l0,l1,l2,l3,l4,l5,l6,l7,l8,l9,rfl,hI⟩ ⟨rfl,rfl,rfl,rfl,rfl,rfl,rfl,rfl,rfl,rfl,-⟩ Kc hK;simp only [sel_t] at hI;obtain ⟨rfl,hb,hP,hR⟩:=hI;refine ly (.bool true) ?_;refine hK.out _ _ (fun fu hf=>wpAnyH_done (by kernel_rfl) ?_ _);clear hK Kc hf;clear hc1 hc2 hc3 hP0 hP1 hP2;have hc1:Wn.cell? ⟨lb,lo+k*3,none⟩=some (.bool m2):=by rw [hb.cell hlb];exact hc1'
    have hc2:Wn.cell? ⟨lb,lo+k*3+1,none⟩=some (.string s2):=by rw [hb.cell hlb];exact hc2'
    have hc3:Wn.cell? ⟨lb,lo+k*3+2,none⟩=some (.int .i64 e2):=by rw [hb.cell hlb];exact hc3'
    have hz1:Wn.cell? ⟨lb,lo,none⟩=some (.bool m2):=by have h:=hc1;rw [hk0,Nat.zero_mul,Nat.add_zero] at h;exact h
    have hz2:Wn.cell? ⟨lb,lo+1,none⟩=some (.string s2):=by have h:=hc2;rw [hk0,Nat.zero_mul,Nat.add_zero] at h;exact h
    have hz3:Wn.cell? ⟨lb,lo+2,none⟩=some (.int .i64 e2):=by have h:=hc3;rw [hk0,Nat.zero_mul,Nat.add_zero] at h;exact h
    go_wp2_with fail;refine (ryform_any _ m2 s2 e2 (by omega) (by omega) z3 o3 e3 HC.out.2.2.2.1).mono ?_;rintro e9 V ⟨rfl,hq⟩;replace hb:=below_next hb hq;replace hP:=hP.below hq;replace hR:=hR.below hq;clear hq;obtain ⟨hP0,hP1,hP2,hP3,hP4,hP5⟩:=hP.facts;have hf2:nv z3 o3 e3=farD (1) l (k+1):=by rw [HC.out.2.2.2.2.1,HC.out.2.2.1 hk0];rfl
    have hf3:df (nv z3 o3 e3)=nu z3 o3 e3:=by rw [HC.out.2.2.2.2.1];exact HC.out.2.2.2.1
    have HJ:=Lib.hid (show RFar w (((V.setCell ⟨w.heap.size+1,0,none⟩ (.bool z3)).setCell ⟨w.heap.size+1,1,none⟩ (.string o3)).setCell ⟨w.heap.size+1,2,none⟩ (.int .i64 e3)) (1) l (k+1) from ⟨z3,o3,e3,hP.set3 z3 o3 e3,hf2,hb3,((hR.fr (w.heap.size+1) 0 (.bool z3)).fr (w.heap.size+1) 1 (.string o3)).fr (w.heap.size+1) 2 (.int .i64 e3),below_set3 hb (show w.heap.size≤w.heap.size+1 by omega) 0 1 2 (.bool z3) (.string o3) (.int .i64 e3),fun _=>hf3,fun h=>by omega⟩);clear hP hR hb hf2 hf3;go_wp2;exact ⟨⟨k+1,by omega,by simp [hk0],HJ.out⟩,by simp [intY,hk0];omega⟩
   ·have hk0b:((k:Int) == 0)=false:=by rw [beq_eq_false_iff_ne];omega
    go_wp2_with fail
    by_cases h9:0<cc
    ·have d9:decide (0<cc)=true:=decide_eq_true h9;refine region_segs (n:=11) #[false,false,false,false,false,false,false,false,false,false,false] (by kernel_rfl) (by kernel_rfl) (by kernel_rfl) ?_;intro fu hf;refine ls 11 [0,1,2,3,4,5,6,7,8,9,10] 10 (fun L ac Wn=>∃ l0 l1 l2 l3 l4 l5 l6 l7 l8 l9:Bool,L=#[l0,l1,l2,l3,l4,l5,l6,l7,l8,l9,false]∧ac={tmps:=#[.slice (some { block:=lb,off:=lo }) n c,undef,.pointer (some ⟨w.heap.size,0,none⟩),.pointer (some ⟨w.heap.size+1,0,none⟩),.int .i64 ↑k,.agg #[.bool false,.string ⟨#[]⟩,.int .i64 0],.int .i64 ↑k,.slice (some { block:=lb,off:=lo }) n c,.int .i64 ↑n,.bool true,u10,u11,sel l0 (.int .i64 ↑k) (u12),sel l1 (.bool false) (u13),sel l2 (.bool false) (u14),sel l3 (.slice (some { block:=lb,off:=lo }) n c) (u15),sel l4 (.int .i64 ↑k) (u16),sel l5 (.pointer (some { block:=lb,off:=lo+k*3 })) (u17),sel l6 (.agg #[.bool m2,.string s2,.int .i64 e2]) (u18),sel l7 (.agg #[.bool q,.string t,.int .i64 f]) (u19),sel l8 (.int .i64 cc) (u20),sel l9 (.bool true) (u21),u22,u23,u24,u25,u26,u27,undef],defers:=[] }∧Below (w.heap.size) w Wn∧(Nk Wn (w.heap.size+1) q t f)∧(Nk Wn (w.heap.size) false ⟨#[]⟩ 0)) hf ?_ ?_ ?_ ?_
     ·exact ⟨false,false,false,false,false,false,false,false,false,false,by kernel_rfl,by kernel_rfl,hb.drew,hP.drew,hR.drew⟩
     ·rintro L ac Wn ⟨l0,l1,l2,l3,l4,l5,l6,l7,l8,l9,rfl,_⟩
      kernel_rfl
     ·refine (seg_all (b:=10) [0,1,2,3,4,5,6,7,8,9] ?_:∀ j∈[0,1,2,3,4,5,6,7,8,9,10],j≠10→_);refine lc [] [1,2,3,4,5,6,7,8,9] ?_ ?_
      ·rintro L ac Wn ⟨l0,l1,l2,l3,l4,l5,l6,l7,l8,l9,rfl,hI⟩ rfl - ⟨rfl,rfl,rfl,rfl,rfl,rfl,rfl,rfl,rfl,-⟩ Kc hK;simp only [sel_f] at hI;obtain ⟨rfl,hb,hP,hR⟩:=hI;refine ly (.int .i64 ↑k) ?_;exact hK.out _ _ ⟨true,false,false,false,false,false,false,false,false,false,by kernel_rfl,by kernel_rfl,hb,hP,hR⟩
      refine lc [0] [2,3,4,5,6,7,8,9] ?_ ?_
      ·rintro L ac Wn ⟨l0,l1,l2,l3,l4,l5,l6,l7,l8,l9,rfl,hI⟩ rfl ⟨rfl,-⟩ ⟨rfl,rfl,rfl,rfl,rfl,rfl,rfl,rfl,-⟩ Kc hK;simp only [sel_t,sel_f] at hI;obtain ⟨rfl,hb,hP,hR⟩:=hI;refine ly (.bool false) ?_;exact hK.out _ _ ⟨true,true,false,false,false,false,false,false,false,false,by kernel_rfl,by kernel_rfl,hb,hP,hR⟩
      refine lc [0,1] [3,4,5,6,7,8,9] ?_ ?_
      ·rintro L ac Wn ⟨l0,l1,l2,l3,l4,l5,l6,l7,l8,l9,rfl,hI⟩ rfl ⟨rfl,rfl,-⟩ ⟨rfl,rfl,rfl,rfl,rfl,rfl,rfl,-⟩ Kc hK;simp only [sel_t,sel_f] at hI;obtain ⟨rfl,hb,hP,hR⟩:=hI;refine ly (.bool false) ?_;exact hK.out _ _ ⟨true,true,true,false,false,false,false,false,false,false,by kernel_rfl,by kernel_rfl,hb,hP,hR⟩
      refine lc [0,1,2] [5,6,8,9] ?_ ?_
      ·rintro L ac Wn ⟨l0,l1,l2,l3,l4,l5,l6,l7,l8,l9,rfl,hI⟩ rfl ⟨rfl,rfl,rfl,-⟩ ⟨rfl,rfl,rfl,rfl,-⟩ Kc hK;simp only [sel_t,sel_f] at hI;obtain ⟨rfl,hb,hP,hR⟩:=hI;refine ly (.slice (some { block:=lb,off:=lo }) n c) ?_;exact hK.out _ _ ⟨true,true,true,true,l4,false,false,l7,false,false,by kernel_rfl,by kernel_rfl,hb,hP,hR⟩
      refine lc [0,1,2] [5,6,8,9] ?_ ?_
      ·rintro L ac Wn ⟨l0,l1,l2,l3,l4,l5,l6,l7,l8,l9,rfl,hI⟩ rfl ⟨rfl,rfl,rfl,-⟩ ⟨rfl,rfl,rfl,rfl,-⟩ Kc hK;simp only [sel_t,sel_f] at hI;obtain ⟨rfl,hb,hP,hR⟩:=hI;refine ly (.int .i64 ↑k) ?_;exact hK.out _ _ ⟨true,true,true,l3,true,false,false,l7,false,false,by kernel_rfl,by kernel_rfl,hb,hP,hR⟩
      refine lc [0,1,2,3,4] [6,8,9] ?_ ?_
      ·rintro L ac Wn ⟨l0,l1,l2,l3,l4,l5,l6,l7,l8,l9,rfl,hI⟩ rfl ⟨rfl,rfl,rfl,rfl,rfl,-⟩ ⟨rfl,rfl,rfl,-⟩ Kc hK;simp only [sel_t,sel_f] at hI;obtain ⟨rfl,hb,hP,hR⟩:=hI;refine ly (.pointer (some { block:=lb,off:=lo+k*3 })) ?_;exact hK.out _ _ ⟨true,true,true,true,true,true,false,l7,false,false,by kernel_rfl,by kernel_rfl,hb,hP,hR⟩
      refine lc [0,1,2,3,4,5] [8,9] ?_ ?_
      ·rintro L ac Wn ⟨l0,l1,l2,l3,l4,l5,l6,l7,l8,l9,rfl,hI⟩ rfl ⟨rfl,rfl,rfl,rfl,rfl,rfl,-⟩ ⟨rfl,rfl,-⟩ Kc hK;simp only [sel_t,sel_f] at hI;obtain ⟨rfl,hb,hP,hR⟩:=hI;have q0:Wn.cell? ⟨lb,lo+k*3,none⟩=some (.bool m2):=by rw [hb.cell hlb];exact hc1'
       have q1:Wn.cell? ⟨lb,lo+k*3+1,none⟩=some (.string s2):=by rw [hb.cell hlb];exact hc2'
       have q2:Wn.cell? ⟨lb,lo+k*3+2,none⟩=some (.int .i64 e2):=by rw [hb.cell hlb];exact hc3'
       refine ly (.agg #[.bool m2,.string s2,.int .i64 e2]) ?_;exact hK.out _ _ ⟨true,true,true,true,true,true,true,l7,false,false,by kernel_rfl,by kernel_rfl,hb,hP,hR⟩
      refine lc [0,1,2] [8,9] ?_ ?_
      ·rintro L ac Wn ⟨l0,l1,l2,l3,l4,l5,l6,l7,l8,l9,rfl,hI⟩ rfl ⟨rfl,rfl,rfl,-⟩ ⟨rfl,rfl,-⟩ Kc hK;simp only [sel_t,sel_f] at hI;obtain ⟨rfl,hb,hP,hR⟩:=hI;obtain ⟨q0,q1,q2,q3,q4,q5⟩:=(hP).facts;refine ly (.agg #[.bool q,.string t,.int .i64 f]) ?_;exact hK.out _ _ ⟨true,true,true,l3,l4,l5,l6,true,false,false,by kernel_rfl,by kernel_rfl,hb,hP,hR⟩
      refine lc [0,1,2,3,4,5,6,7] [9] ?_ ?_
      ·rintro L ac Wn ⟨l0,l1,l2,l3,l4,l5,l6,l7,l8,l9,rfl,hI⟩ rfl ⟨rfl,rfl,rfl,rfl,rfl,rfl,rfl,rfl,-⟩ ⟨rfl,-⟩ Kc hK;simp only [sel_t,sel_f] at hI;obtain ⟨rfl,hb,hP,hR⟩:=hI;go_simp;go_fit (rycmp_any _ m2 q s2 t e2 f (by omega) (by omega) (by omega) (by omega) cc HC.out.1);rintro e V ⟨rfl,hq⟩;exact hK.out _ _ ⟨true,true,true,true,true,true,true,true,true,false,by kernel_rfl,by kernel_rfl,(below_next hb hq),(hP.below hq),(hR.below hq)⟩
      refine ln [0,1,2,3,4,5,6,7,8] [] ?_;rintro L ac Wn ⟨l0,l1,l2,l3,l4,l5,l6,l7,l8,l9,rfl,hI⟩ rfl ⟨rfl,rfl,rfl,rfl,rfl,rfl,rfl,rfl,rfl,-⟩ - Kc hK;simp only [sel_t,sel_f] at hI;obtain ⟨rfl,hb,hP,hR⟩:=hI;refine ly (.bool true) ?_;exact hK.out _ _ ⟨true,true,true,true,true,true,true,true,true,true,by kernel_rfl,by kernel_rfl,hb,hP,hR⟩
     refine bo [0,1,2,3,4,5,6,7,8,9] ?_;rintro L ac Wn ⟨l0,l1,l2,l3,l4,l5,l6,l7,l8,l9,rfl,hI⟩ ⟨rfl,rfl,rfl,rfl,rfl,rfl,rfl,rfl,rfl,rfl,-⟩ Kc hK;simp only [sel_t] at hI;obtain ⟨rfl,hb,hP,hR⟩:=hI;refine ly (.bool true) ?_;refine hK.out _ _ (fun fu hf=>wpAnyH_done (by kernel_rfl) ?_ _);clear hK Kc hf;clear hc1 hc2 hc3 hP0 hP1 hP2;have hc1:Wn.cell? ⟨lb,lo+k*3,none⟩=some (.bool m2):=by rw [hb.cell hlb];exact hc1'
     have hc2:Wn.cell? ⟨lb,lo+k*3+1,none⟩=some (.string s2):=by rw [hb.cell hlb];exact hc2'
     have hc3:Wn.cell? ⟨lb,lo+k*3+2,none⟩=some (.int .i64 e2):=by rw [hb.cell hlb];exact hc3'
     go_wp2_with fail;refine (ryform_any _ m2 s2 e2 (by omega) (by omega) z3 o3 e3 HC.out.2.2.2.1).mono ?_;rintro e9 V ⟨rfl,hq⟩;replace hb:=below_next hb hq;replace hP:=hP.below hq;replace hR:=hR.below hq;clear hq;obtain ⟨hP0,hP1,hP2,hP3,hP4,hP5⟩:=hP.facts;have hf2:nv z3 o3 e3=farD (1) l (k+1):=by rw [HC.out.2.2.2.2.1,HC.out.2.1 (by omega),if_pos h9]
     have hf3:df (nv z3 o3 e3)=nu z3 o3 e3:=by rw [HC.out.2.2.2.2.1];exact HC.out.2.2.2.1
     have HJ:=Lib.hid (show RFar w (((V.setCell ⟨w.heap.size+1,0,none⟩ (.bool z3)).setCell ⟨w.heap.size+1,1,none⟩ (.string o3)).setCell ⟨w.heap.size+1,2,none⟩ (.int .i64 e3)) (1) l (k+1) from ⟨z3,o3,e3,hP.set3 z3 o3 e3,hf2,hb3,((hR.fr (w.heap.size+1) 0 (.bool z3)).fr (w.heap.size+1) 1 (.string o3)).fr (w.heap.size+1) 2 (.int .i64 e3),below_set3 hb (show w.heap.size≤w.heap.size+1 by omega) 0 1 2 (.bool z3) (.string o3) (.int .i64 e3),fun _=>hf3,fun h=>by omega⟩);clear hP hR hb hf2 hf3;go_wp2;exact ⟨⟨k+1,by omega,by simp,HJ.out⟩,by simp [intY];omega⟩
    ·have d9:decide (0<cc)=false:=decide_eq_false h9;refine region_segs (n:=11) #[false,false,false,false,false,false,false,false,false,false,false] (by kernel_rfl) (by kernel_rfl) (by kernel_rfl) ?_;intro fu hf;refine ls 11 [0,1,2,3,4,5,6,7,8,9,10] 10 (fun L ac Wn=>∃ l0 l1 l2 l3 l4 l5 l6 l7 l8 l9:Bool,L=#[l0,l1,l2,l3,l4,l5,l6,l7,l8,l9,false]∧ac={tmps:=#[.slice (some { block:=lb,off:=lo }) n c,undef,.pointer (some ⟨w.heap.size,0,none⟩),.pointer (some ⟨w.heap.size+1,0,none⟩),.int .i64 ↑k,.agg #[.bool false,.string ⟨#[]⟩,.int .i64 0],.int .i64 ↑k,.slice (some { block:=lb,off:=lo }) n c,.int .i64 ↑n,.bool true,u10,u11,sel l0 (.int .i64 ↑k) (u12),sel l1 (.bool false) (u13),sel l2 (.bool false) (u14),sel l3 (.slice (some { block:=lb,off:=lo }) n c) (u15),sel l4 (.int .i64 ↑k) (u16),sel l5 (.pointer (some { block:=lb,off:=lo+k*3 })) (u17),sel l6 (.agg #[.bool m2,.string s2,.int .i64 e2]) (u18),sel l7 (.agg #[.bool q,.string t,.int .i64 f]) (u19),sel l8 (.int .i64 cc) (u20),sel l9 (.bool false) (u21),u22,u23,u24,u25,u26,u27,undef],defers:=[] }∧Below (w.heap.size) w Wn∧(Nk Wn (w.heap.size+1) q t f)∧(Nk Wn (w.heap.size) false ⟨#[]⟩ 0)) hf ?_ ?_ ?_ ?_
     ·exact ⟨false,false,false,false,false,false,false,false,false,false,by kernel_rfl,by kernel_rfl,hb.drew,hP.drew,hR.drew⟩
     ·rintro L ac Wn ⟨l0,l1,l2,l3,l4,l5,l6,l7,l8,l9,rfl,_⟩
      kernel_rfl
     ·refine (seg_all (b:=10) [0,1,2,3,4,5,6,7,8,9] ?_:∀ j∈[0,1,2,3,4,5,6,7,8,9,10],j≠10→_);refine lc [] [1,2,3,4,5,6,7,8,9] ?_ ?_
      ·rintro L ac Wn ⟨l0,l1,l2,l3,l4,l5,l6,l7,l8,l9,rfl,hI⟩ rfl - ⟨rfl,rfl,rfl,rfl,rfl,rfl,rfl,rfl,rfl,-⟩ Kc hK;simp only [sel_f] at hI;obtain ⟨rfl,hb,hP,hR⟩:=hI;refine ly (.int .i64 ↑k) ?_;exact hK.out _ _ ⟨true,false,false,false,false,false,false,false,false,false,by kernel_rfl,by kernel_rfl,hb,hP,hR⟩
      refine lc [0] [2,3,4,5,6,7,8,9] ?_ ?_
      ·rintro L ac Wn ⟨l0,l1,l2,l3,l4,l5,l6,l7,l8,l9,rfl,hI⟩ rfl ⟨rfl,-⟩ ⟨rfl,rfl,rfl,rfl,rfl,rfl,rfl,rfl,-⟩ Kc hK;simp only [sel_t,sel_f] at hI;obtain ⟨rfl,hb,hP,hR⟩:=hI;refine ly (.bool false) ?_;exact hK.out _ _ ⟨true,true,false,false,false,false,false,false,false,false,by kernel_rfl,by kernel_rfl,hb,hP,hR⟩
      refine lc [0,1] [3,4,5,6,7,8,9] ?_ ?_
      ·rintro L ac Wn ⟨l0,l1,l2,l3,l4,l5,l6,l7,l8,l9,rfl,hI⟩ rfl ⟨rfl,rfl,-⟩ ⟨rfl,rfl,rfl,rfl,rfl,rfl,rfl,-⟩ Kc hK;simp only [sel_t,sel_f] at hI;obtain ⟨rfl,hb,hP,hR⟩:=hI;refine ly (.bool false) ?_;exact hK.out _ _ ⟨true,true,true,false,false,false,false,false,false,false,by kernel_rfl,by kernel_rfl,hb,hP,hR⟩
      refine lc [0,1,2] [5,6,8,9] ?_ ?_
      ·rintro L ac Wn ⟨l0,l1,l2,l3,l4,l5,l6,l7,l8,l9,rfl,hI⟩ rfl ⟨rfl,rfl,rfl,-⟩ ⟨rfl,rfl,rfl,rfl,-⟩ Kc hK;simp only [sel_t,sel_f] at hI;obtain ⟨rfl,hb,hP,hR⟩:=hI;refine ly (.slice (some { block:=lb,off:=lo }) n c) ?_;exact hK.out _ _ ⟨true,true,true,true,l4,false,false,l7,false,false,by kernel_rfl,by kernel_rfl,hb,hP,hR⟩
      refine lc [0,1,2] [5,6,8,9] ?_ ?_
      ·rintro L ac Wn ⟨l0,l1,l2,l3,l4,l5,l6,l7,l8,l9,rfl,hI⟩ rfl ⟨rfl,rfl,rfl,-⟩ ⟨rfl,rfl,rfl,rfl,-⟩ Kc hK;simp only [sel_t,sel_f] at hI;obtain ⟨rfl,hb,hP,hR⟩:=hI;refine ly (.int .i64 ↑k) ?_;exact hK.out _ _ ⟨true,true,true,l3,true,false,false,l7,false,false,by kernel_rfl,by kernel_rfl,hb,hP,hR⟩
      refine lc [0,1,2,3,4] [6,8,9] ?_ ?_
      ·rintro L ac Wn ⟨l0,l1,l2,l3,l4,l5,l6,l7,l8,l9,rfl,hI⟩ rfl ⟨rfl,rfl,rfl,rfl,rfl,-⟩ ⟨rfl,rfl,rfl,-⟩ Kc hK;simp only [sel_t,sel_f] at hI;obtain ⟨rfl,hb,hP,hR⟩:=hI;refine ly (.pointer (some { block:=lb,off:=lo+k*3 })) ?_;exact hK.out _ _ ⟨true,true,true,true,true,true,false,l7,false,false,by kernel_rfl,by kernel_rfl,hb,hP,hR⟩
      refine lc [0,1,2,3,4,5] [8,9] ?_ ?_
      ·rintro L ac Wn ⟨l0,l1,l2,l3,l4,l5,l6,l7,l8,l9,rfl,hI⟩ rfl ⟨rfl,rfl,rfl,rfl,rfl,rfl,-⟩ ⟨rfl,rfl,-⟩ Kc hK;simp only [sel_t,sel_f] at hI;obtain ⟨rfl,hb,hP,hR⟩:=hI;have q0:Wn.cell? ⟨lb,lo+k*3,none⟩=some (.bool m2):=by rw [hb.cell hlb];exact hc1'
       have q1:Wn.cell? ⟨lb,lo+k*3+1,none⟩=some (.string s2):=by rw [hb.cell hlb];exact hc2'
       have q2:Wn.cell? ⟨lb,lo+k*3+2,none⟩=some (.int .i64 e2):=by rw [hb.cell hlb];exact hc3'
       refine ly (.agg #[.bool m2,.string s2,.int .i64 e2]) ?_;exact hK.out _ _ ⟨true,true,true,true,true,true,true,l7,false,false,by kernel_rfl,by kernel_rfl,hb,hP,hR⟩
      refine lc [0,1,2] [8,9] ?_ ?_
      ·rintro L ac Wn ⟨l0,l1,l2,l3,l4,l5,l6,l7,l8,l9,rfl,hI⟩ rfl ⟨rfl,rfl,rfl,-⟩ ⟨rfl,rfl,-⟩ Kc hK;simp only [sel_t,sel_f] at hI;obtain ⟨rfl,hb,hP,hR⟩:=hI;obtain ⟨q0,q1,q2,q3,q4,q5⟩:=(hP).facts;refine ly (.agg #[.bool q,.string t,.int .i64 f]) ?_;exact hK.out _ _ ⟨true,true,true,l3,l4,l5,l6,true,false,false,by kernel_rfl,by kernel_rfl,hb,hP,hR⟩
      refine lc [0,1,2,3,4,5,6,7] [9] ?_ ?_
      ·rintro L ac Wn ⟨l0,l1,l2,l3,l4,l5,l6,l7,l8,l9,rfl,hI⟩ rfl ⟨rfl,rfl,rfl,rfl,rfl,rfl,rfl,rfl,-⟩ ⟨rfl,-⟩ Kc hK;simp only [sel_t,sel_f] at hI;obtain ⟨rfl,hb,hP,hR⟩:=hI;go_simp;go_fit (rycmp_any _ m2 q s2 t e2 f (by omega) (by omega) (by omega) (by omega) cc HC.out.1);rintro e V ⟨rfl,hq⟩;exact hK.out _ _ ⟨true,true,true,true,true,true,true,true,true,false,by kernel_rfl,by kernel_rfl,(below_next hb hq),(hP.below hq),(hR.below hq)⟩
      refine ln [0,1,2,3,4,5,6,7,8] [] ?_;rintro L ac Wn ⟨l0,l1,l2,l3,l4,l5,l6,l7,l8,l9,rfl,hI⟩ rfl ⟨rfl,rfl,rfl,rfl,rfl,rfl,rfl,rfl,rfl,-⟩ - Kc hK;simp only [sel_t,sel_f] at hI;obtain ⟨rfl,hb,hP,hR⟩:=hI;refine ly (.bool false) ?_;exact hK.out _ _ ⟨true,true,true,true,true,true,true,true,true,true,by kernel_rfl,by kernel_rfl,hb,hP,hR⟩
     refine bo [0,1,2,3,4,5,6,7,8,9] ?_;rintro L ac Wn ⟨l0,l1,l2,l3,l4,l5,l6,l7,l8,l9,rfl,hI⟩ ⟨rfl,rfl,rfl,rfl,rfl,rfl,rfl,rfl,rfl,rfl,-⟩ Kc hK;simp only [sel_t] at hI;obtain ⟨rfl,hb,hP,hR⟩:=hI;refine ly (.bool false) ?_;refine hK.out _ _ (fun fu hf=>wpAnyH_done (by kernel_rfl) ?_ _);clear hK Kc hf;have hf2:nv q t f=farD (1) l (k+1):=by rw [HC.out.2.1 (by omega),if_neg h9]
     have HJ:=Lib.hid (show RFar w Wn (1) l (k+1) from ⟨q,t,f,hP,hf2,hbq,hR,hb,fun _=>HD.out (by omega),fun h=>by omega⟩);clear hP hR hb hf2 hP0 hP1 hP2 hc1 hc2 hc3;go_wp2;exact ⟨⟨k+1,by omega,by simp,HJ.out⟩,by simp [intY];omega⟩
  ·have hkn:k=n:=by omega
   subst hkn;have hfin:df (nv q t f)=nu m' s' e':=by rw [hv];exact HN.out.2
   have hparts:q=m'∧t=s'∧f=e':=by
    by_cases h0:0<k
    ·rw [hdf h0] at hfin;exact nu_inj hfin
    ·obtain ⟨rfl,rfl,rfl⟩:=hz0 (by omega);exact nu_inj (show nu false ⟨#[]⟩ 0=nu m' s' e' from hfin)
   obtain ⟨hP0,hP1,hP2⟩:=hP.cells;obtain ⟨hR0,hR1,hR2,hR3,hR4,hR5⟩:=hR.facts;have HJ:=Lib.hid (And.intro (hR.set3 q t f) (And.intro hparts (below_set3 hb (Nat.le_refl _) 0 1 2 (.bool q) (.string t) (.int .i64 f))));clear hR hb hv hdf hz0 hfin hparts hP;go_wp2;exact ret_num rfl rfl HJ.out.1 ⟨by obtain ⟨a1,a2,a3⟩:=HJ.out.2.1;rw [a1,a2,a3];rfl,HJ.out.2.2⟩
end Go.Proofs.YteofihmlgiepfaaGreatDoor
