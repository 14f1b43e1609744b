/- Package dyad: the number farthest to one side; walked. -/
import Derived.Test.YtbijggomdpaknaaGreatDoorHP
namespace Go.Proofs.YtbijggomdpaknaaGreatDoor
set_option maxRecDepth 100000
set_option maxHeartbeats 1600000
open Go.RowKit Go.Shelf
def farD (side:Int) (l:List NV) (k:Nat):Dyadic:=match (l.take k).map nvl with
 | []=>0
 | x::t=>t.foldl (fun b y=>if 0<side*dsg (y-b) then y else b) x
theorem farD_one (side:Int) {l:List NV} (h:0<l.length):farD side l 1=nvl l[0]:=by
 cases l with
 | nil=>simp at h
 | cons x t=>rfl
theorem farD_succ (side:Int) {l:List NV} {k:Nat} (h0:0<k) (h:k<l.length):farD side l (k+1)=if 0<side*dsg (nvl l[k]-farD side l k) then nvl l[k] else farD side l k:=by
 cases l with
 | nil=>simp at h
 | cons x t =>
  obtain ⟨j,rfl⟩:∃ j,k=j+1:=⟨k-1,by omega⟩;have h1:j<t.length:=by simp at h;omega
  unfold farD;rw [List.take_succ_cons,List.take_succ_cons,List.take_succ_eq_append_getElem h1];simp only [List.map_cons,List.map_append,List.map_nil,List.foldl_append,List.foldl_cons,List.foldl_nil,List.getElem_cons_succ]
theorem along_any (w:World) (P:Nat) (side:Int) (hsd:side=-1∨side=1) (hP:Rw w P 3 [.int .i64 side]) (m n:Bool) (s t:ByteArray) (d e:Int) (hs:s.size≤50000) (ht:t.size≤50000) (hd0:-100000≤d∧d≤100000) (he:-100000≤e∧e≤100000) (c:Int) (hc:dsg (nv m s d-nv n t e)=c) :
  Calls Tryz.prog 102 #[nu m s d,nu n t e,.pointer (some ⟨P,0,none⟩)] w (Ret (.int .i64 (side*c)) w):=by
 have hc3:=sg_three (dm (nv m s d-nv n t e));have hmul:IntKind.i64.wrap (side*c)=side*c:=sg_sg (by omega) (by unfold dsg at hc;omega);have HC:=Lib.hid hc;clear hc hc3;unfold nu;go_enter Tryz.func102,Tryz.ntmps102;go_wp2_with fail;obtain ⟨hA,hB,hb⟩:=nblk2 w m n s t d e;have hPl:=hP.lt;replace hP:=(hP.alloc (.cells #[.bool m,.string s,.int .i64 d] 36)).alloc (.cells #[.bool n,.string t,.int .i64 e] 36);generalize ((w.alloc (.cells #[.bool m,.string s,.int .i64 d] 36)).alloc (.cells #[.bool n,.string t,.int .i64 e] 36))=W0 at *;refine region_segs (n:=6) #[false,false,false,false,false,false] (by kernel_rfl) (by kernel_rfl) (by kernel_rfl) ?_;intro fu hf;refine ls 6 [0,1,2,3,4] 4 (fun L ac Wn=>∃ l0 l1 l2 l3:Bool,L=#[l0,l1,l2,l3,false,false]∧ac={tmps:=#[.agg #[.bool m,.string s,.int .i64 d],.agg #[.bool n,.string t,.int .i64 e],.pointer (some ⟨P,0,none⟩),.pointer (some ⟨w.heap.size,0,none⟩),.pointer (some ⟨w.heap.size+1,0,none⟩),.int .i64 0,sel l0 (.int .i64 side) (undef),sel l1 (.agg #[.bool m,.string s,.int .i64 d]) (undef),sel l2 (.agg #[.bool n,.string t,.int .i64 e]) (undef),sel l3 (.int .i64 c) (undef),undef],defers:=[] }∧Below (w.heap.size) w Wn∧(Nk Wn (w.heap.size) m s d)∧(Nk Wn (w.heap.size+1) n t e)∧(Rw Wn P 3 [.int .i64 side])) hf ?_ ?_ ?_ ?_
 ·exact ⟨false,false,false,false,by kernel_rfl,by kernel_rfl,hb.drew,hA.drew,hB.drew,hP⟩
 ·rintro L ac Wn ⟨l0,l1,l2,l3,rfl,_⟩
  kernel_rfl
 ·refine (seg_all (b:=4) [0,1,2,3] ?_:∀ j∈[0,1,2,3,4],j≠4→_);refine lc [] [] ?_ ?_
  ·rintro L ac Wn ⟨l0,l1,l2,l3,rfl,hI⟩ rfl - - Kc hK;simp only [sel_f] at hI;obtain ⟨rfl,hb,hA,hB,hP⟩:=hI;have q0:=(hP).cell 0;have f0:=(hP).frozen 0;simp only [List.getElem?_cons_zero] at q0;refine ly (.int .i64 side) ?_;exact hK.out _ _ ⟨true,l1,l2,l3,by kernel_rfl,by kernel_rfl,hb,hA,hB,hP⟩
  refine lc [] [3] ?_ ?_
  ·rintro L ac Wn ⟨l0,l1,l2,l3,rfl,hI⟩ rfl - ⟨rfl,-⟩ Kc hK;simp only [sel_f] at hI;obtain ⟨rfl,hb,hA,hB,hP⟩:=hI;obtain ⟨q0,q1,q2,q3,q4,q5⟩:=(hA).facts;refine ly (.agg #[.bool m,.string s,.int .i64 d]) ?_;exact hK.out _ _ ⟨l0,true,l2,false,by kernel_rfl,by kernel_rfl,hb,hA,hB,hP⟩
  refine lc [] [3] ?_ ?_
  ·rintro L ac Wn ⟨l0,l1,l2,l3,rfl,hI⟩ rfl - ⟨rfl,-⟩ Kc hK;simp only [sel_f] at hI;obtain ⟨rfl,hb,hA,hB,hP⟩:=hI;obtain ⟨q0,q1,q2,q3,q4,q5⟩:=(hB).facts;refine ly (.agg #[.bool n,.string t,.int .i64 e]) ?_;exact hK.out _ _ ⟨l0,l1,true,false,by kernel_rfl,by kernel_rfl,hb,hA,hB,hP⟩
  refine ln [1,2] [] ?_;rintro L ac Wn ⟨l0,l1,l2,l3,rfl,hI⟩ rfl ⟨rfl,rfl,-⟩ - Kc hK;simp only [sel_t,sel_f] at hI;obtain ⟨rfl,hb,hA,hB,hP⟩:=hI;go_simp;go_fit (ycmp_any _ m n s t d e (by omega) (by omega) (by omega) (by omega) c HC.out);rintro e V ⟨rfl,hq⟩;exact hK.out _ _ ⟨l0,true,true,true,by kernel_rfl,by kernel_rfl,(below_next hb hq),(hA.below hq),(hB.below hq),(hP.below hq (hP).lt)⟩
 refine bo [0,1,2,3] ?_;rintro L ac Wn ⟨l0,l1,l2,l3,rfl,hI⟩ ⟨rfl,rfl,rfl,rfl,-⟩ Kc hK;simp only [sel_t] at hI;obtain ⟨rfl,hb,hA,hB,hP⟩:=hI;refine ly (.int .i64 (side*c)) ?_;refine hK.out _ _ (fun fu hf=>?_);clear hK Kc;refine ls 6 [5] 5 (fun L ac Wn=>L=#[true,true,true,true,true,false]∧ac={tmps:=#[.agg #[.bool m,.string s,.int .i64 d],.agg #[.bool n,.string t,.int .i64 e],.pointer (some ⟨P,0,none⟩),.pointer (some ⟨w.heap.size,0,none⟩),.pointer (some ⟨w.heap.size+1,0,none⟩),.int .i64 0,.int .i64 side,.agg #[.bool m,.string s,.int .i64 d],.agg #[.bool n,.string t,.int .i64 e],.int .i64 c,.int .i64 (side*c)],defers:=[] }∧Below (w.heap.size) w Wn∧(Nk Wn (w.heap.size) m s d)∧(Nk Wn (w.heap.size+1) n t e)∧(Rw Wn P 3 [.int .i64 side])) hf ?_ ?_ ?_ ?_
 ·exact ⟨by kernel_rfl,by kernel_rfl,hb,hA,hB,hP⟩
 ·rintro L ac Wn ⟨rfl,_⟩
  kernel_rfl
 ·exact (seg_all (b:=5) [] lin_nil:∀ j∈[5],j≠5→_)
 refine bo [] ?_;rintro L ac Wn ⟨rfl,hI⟩ - Kc hK;obtain ⟨rfl,hb,hA,hB,hP⟩:=hI;refine ly (.int .i64 (side*c)) ?_;refine hK.out _ _ (fun fu hf=>wpAnyH_done (by kernel_rfl) ?_ _);clear hK Kc hf;go_wp2;go_ret;exact ⟨rfl,hb⟩
theorem maxfunc_any (w:World) (P:Nat) (side:Int) (hsd:side=-1∨side=1) (hP:Rw w P 3 [.int .i64 side]) (ad:Option Addr) (l:List NV) (n c:Nat) (hn:l.length=n) (hmax:n≤250) (h0:0<n) (hl:NAt w ad l) (hs:∀ x∈l,x.2.1.size≤50000∧-100000≤x.2.2∧x.2.2≤100000) :
  Calls Tryz.prog 103 #[.slice ad n c,.func (.func 102) #[] #[.pointer (some ⟨P,0,none⟩)]] w (fun e w'=>(∃ m s d,e=.returned (.agg #[.bool m,.string s,.int .i64 d])∧nv m s d=farD side l n∧(m,s,d)∈l)∧Below w.heap.size w w'):=by
 have hn0:decide ((n:Int)<1)=false:=decide_eq_false (by omega);have h0l:0<l.length:=by omega
 have hnpos:(0:Int)<(n:Int):=by omega
 obtain ⟨lb,lo,rfl,hlb,hc1,hc2,hc3⟩:=hl 0 h0l;obtain ⟨m1,s1,e1,hx⟩:∃ m s e,l[0]=(m,s,e):=⟨_,_,_,rfl⟩;have hmem:=List.getElem_mem h0l;have hfar:=farD_one side h0l;rw [hx] at hc1 hc2 hc3 hmem hfar;rw [Nat.zero_mul,Nat.add_zero] at hc1 hc2 hc3;simp only at hc1 hc2 hc3;have hn1:=cell_past hc1 (.cells #[.bool false,.string ⟨#[]⟩,.int .i64 0] 36);have hn2:=cell_past hc2 (.cells #[.bool false,.string ⟨#[]⟩,.int .i64 0] 36);have hn3:=cell_past hc3 (.cells #[.bool false,.string ⟨#[]⟩,.int .i64 0] 36);go_enter Tryz.func103,Tryz.ntmps103;go_wp2_with fail;obtain ⟨hR',hM,hb⟩:=nblk2 w false m1 ⟨#[]⟩ s1 0 e1;generalize ((w.alloc (.cells #[.bool false,.string ⟨#[]⟩,.int .i64 0] 36)).alloc (.cells #[.bool m1,.string s1,.int .i64 e1] 36))=W0 at *;have HN:=Lib.hid hn;have HM:∃ k:Nat,1≤k∧k≤n∧(1:Int)=k∧∃ m s d,Nk W0 (w.heap.size+1) m s d∧nv m s d=farD side l k∧(m,s,d)∈l∧Nk W0 w.heap.size false ⟨#[]⟩ 0∧Below w.heap.size w W0:=
  ⟨1,Nat.le_refl _,h0,rfl,m1,s1,e1,hM,hfar.symm,hmem,hR',hb⟩
 clear hR' hM hb hc1 hc2 hc3 hn1 hn2 hn3 hfar hmem hn hx
 go_loopw [6] (fun i wr=>∃ k:Nat,1≤k∧k≤n∧i=.int .i64 k∧∃ m s d,Nk wr (w.heap.size+1) m s d∧nv m s d=farD side l k∧(m,s,d)∈l∧Nk wr w.heap.size false ⟨#[]⟩ 0∧Below w.heap.size w wr) (fun i _=>n-intY i)
 case atStart =>
  obtain ⟨k,h1,h2,h3,h4⟩:=HM;exact ⟨k,h1,h2,by rw [h3],h4⟩
 case round =>
  clear HM;obtain ⟨k,hk1,hk,rfl,m,s,d,hM,hv,hmem,hR,hb⟩:=hrel
  by_cases hlt:k<n
  ·have hkl:k<l.length:=by rw [HN.out];exact hlt
   obtain ⟨lb',lo',hae,hlb',hc1,hc2,hc3⟩:=hl k hkl;obtain ⟨rfl,rfl⟩:lb=lb'∧lo=lo':=by simpa using hae
   clear hae;obtain ⟨m2,s2,e2,hx⟩:∃ m s e,l[k]=(m,s,e):=⟨_,_,_,rfl⟩;have hm2:=List.getElem_mem hkl;have hsucc:=farD_succ side hk1 hkl;have hb1:=hs _ hmem;rw [hx] at hc1 hc2 hc3 hm2 hsucc;have hb2:=hs _ hm2;simp only at hc1 hc2 hc3 hb1 hb2;have hc1':=hc1;have hc2':=hc2;have hc3':=hc3;replace hc1:wr.cell? ⟨lb,lo+k*3,none⟩=some (.bool m2):=by rw [hb.cell hlb];exact hc1
   replace hc2:wr.cell? ⟨lb,lo+k*3+1,none⟩=some (.string s2):=by rw [hb.cell hlb];exact hc2
   replace hc3:wr.cell? ⟨lb,lo+k*3+2,none⟩=some (.int .i64 e2):=by rw [hb.cell hlb];exact hc3
   obtain ⟨cc,hc⟩:∃ cc,dsg (nv m2 s2 e2-nv m s d)=cc:=⟨_,rfl⟩;have hsucc2:farD side l (k+1)=if 0<side*cc then nv m2 s2 e2 else nv m s d:=by
    rw [hsucc,← hv];show (if 0<side*dsg (nv m2 s2 e2-nv m s d) then _ else _)=_;rw [hc];rfl
   have HC:=Lib.hid (And.intro hc hsucc2);have HV:=Lib.hid hv;clear hx hsucc hsucc2 hc hv;obtain ⟨hM0,hM1,hM2⟩:=hM.cells;go_wp2_with fail;clear hM0 hM1 hM2
   by_cases hpos:0<side*cc
   ·have d9:decide (0<side*cc)=true:=decide_eq_true hpos;refine region_segs (n:=8) #[false,false,false,false,false,false,false,false] (by kernel_rfl) (by kernel_rfl) (by kernel_rfl) ?_;intro fu hf;refine ls 8 [0,1,2,3,4,5,6] 6 (fun L ac Wn=>∃ l0 l1 l2 l3 l4 l5:Bool,L=#[l0,l1,l2,l3,l4,l5,false,false]∧ac={tmps:=#[.slice (some { block:=lb,off:=lo }) n c,.func (Fn.func 102) #[] #[.pointer (some ⟨P,0,none⟩)],undef,undef,.pointer (some ⟨w.heap.size,0,none⟩),.pointer (some ⟨w.heap.size+1,0,none⟩),.int .i64 ↑k,.slice (some { block:=lb,off:=lo }) n c,.int .i64 ↑n,.bool false,undef,.slice (some { block:=lb,off:=lo }) n c,.pointer (some { block:=lb,off:=lo }),.agg #[.bool m1,.string s1,.int .i64 e1],.int .i64 ↑k,.slice (some { block:=lb,off:=lo }) n c,.int .i64 ↑n,.bool true,u18,u19,sel l0 (Value.func (Fn.func 102) #[] #[.pointer (some ⟨P,0,none⟩)]) (u20),sel l1 (.slice (some { block:=lb,off:=lo }) n c) (u21),sel l2 (.int .i64 ↑k) (u22),sel l3 (.pointer (some { block:=lb,off:=lo+k*3 })) (u23),sel l4 (.agg #[.bool m2,.string s2,.int .i64 e2]) (u24),sel l5 (.agg #[.bool m,.string s,.int .i64 d]) (u25),u26,u27,u28,u29,u30,u31,undef],defers:=[] }∧Below (w.heap.size) w Wn∧(Nk Wn (w.heap.size+1) m s d)∧(Nk Wn (w.heap.size) false ⟨#[]⟩ 0)) hf ?_ ?_ ?_ ?_
    ·exact ⟨false,false,false,false,false,false,by kernel_rfl,by kernel_rfl,hb.drew,hM.drew,hR.drew⟩
    ·rintro L ac Wn ⟨l0,l1,l2,l3,l4,l5,rfl,_⟩
     kernel_rfl
    ·refine (seg_all (b:=6) [0,1,2,3,4,5] ?_:∀ j∈[0,1,2,3,4,5,6],j≠6→_);refine lc [] [] ?_ ?_
     ·rintro L ac Wn ⟨l0,l1,l2,l3,l4,l5,rfl,hI⟩ rfl - - Kc hK;simp only [sel_f] at hI;obtain ⟨rfl,hb,hM,hR⟩:=hI;refine ly (Value.func (Fn.func 102) #[] #[.pointer (some ⟨P,0,none⟩)]) ?_;exact hK.out _ _ ⟨true,l1,l2,l3,l4,l5,by kernel_rfl,by kernel_rfl,hb,hM,hR⟩
     refine lc [] [3,4] ?_ ?_
     ·rintro L ac Wn ⟨l0,l1,l2,l3,l4,l5,rfl,hI⟩ rfl - ⟨rfl,rfl,-⟩ Kc hK;simp only [sel_f] at hI;obtain ⟨rfl,hb,hM,hR⟩:=hI;refine ly (.slice (some { block:=lb,off:=lo }) n c) ?_;exact hK.out _ _ ⟨l0,true,l2,false,false,l5,by kernel_rfl,by kernel_rfl,hb,hM,hR⟩
     refine lc [] [3,4] ?_ ?_
     ·rintro L ac Wn ⟨l0,l1,l2,l3,l4,l5,rfl,hI⟩ rfl - ⟨rfl,rfl,-⟩ Kc hK;simp only [sel_f] at hI;obtain ⟨rfl,hb,hM,hR⟩:=hI;refine ly (.int .i64 ↑k) ?_;exact hK.out _ _ ⟨l0,l1,true,false,false,l5,by kernel_rfl,by kernel_rfl,hb,hM,hR⟩
     refine lc [1,2] [4] ?_ ?_
     ·rintro L ac Wn ⟨l0,l1,l2,l3,l4,l5,rfl,hI⟩ rfl ⟨rfl,rfl,-⟩ ⟨rfl,-⟩ Kc hK;simp only [sel_t,sel_f] at hI;obtain ⟨rfl,hb,hM,hR⟩:=hI;refine ly (.pointer (some { block:=lb,off:=lo+k*3 })) ?_;exact hK.out _ _ ⟨l0,true,true,true,false,l5,by kernel_rfl,by kernel_rfl,hb,hM,hR⟩
     refine lc [1,2,3] [] ?_ ?_
     ·rintro L ac Wn ⟨l0,l1,l2,l3,l4,l5,rfl,hI⟩ rfl ⟨rfl,rfl,rfl,-⟩ - Kc hK;simp only [sel_t,sel_f] at hI;obtain ⟨rfl,hb,hM,hR⟩:=hI;have q0:Wn.cell? ⟨lb,lo+k*3,none⟩=some (.bool m2):=by rw [hb.cell hlb];exact hc1'
      have q1:Wn.cell? ⟨lb,lo+k*3+1,none⟩=some (.string s2):=by rw [hb.cell hlb];exact hc2'
      have q2:Wn.cell? ⟨lb,lo+k*3+2,none⟩=some (.int .i64 e2):=by rw [hb.cell hlb];exact hc3'
      refine ly (.agg #[.bool m2,.string s2,.int .i64 e2]) ?_;exact hK.out _ _ ⟨l0,true,true,true,true,l5,by kernel_rfl,by kernel_rfl,hb,hM,hR⟩
     refine ln [] [] ?_;rintro L ac Wn ⟨l0,l1,l2,l3,l4,l5,rfl,hI⟩ rfl - - Kc hK;simp only [sel_f] at hI;obtain ⟨rfl,hb,hM,hR⟩:=hI;obtain ⟨q0,q1,q2,q3,q4,q5⟩:=(hM).facts;refine ly (.agg #[.bool m,.string s,.int .i64 d]) ?_;exact hK.out _ _ ⟨l0,l1,l2,l3,l4,true,by kernel_rfl,by kernel_rfl,hb,hM,hR⟩
    refine bo [0,1,2,3,4,5] ?_;rintro L ac Wn ⟨l0,l1,l2,l3,l4,l5,rfl,hI⟩ ⟨rfl,rfl,rfl,rfl,rfl,rfl,-⟩ Kc hK;simp only [sel_t] at hI;obtain ⟨rfl,hb,hM,hR⟩:=hI;go_simp;go_fit (along_any _ P side hsd (hP.below hb hP.lt) m2 m s2 s e2 d (by omega) (by omega) (by omega) (by omega) cc HC.out.1);rintro e V ⟨rfl,hq⟩;replace hM:=hM.below hq;replace hR:=hR.below hq;replace hb:=(below_next hb hq);refine hK.out _ _ (fun fu hf=>?_);clear hK Kc;refine ls 8 [7] 7 (fun L ac Wn=>L=#[true,true,true,true,true,true,true,false]∧ac={tmps:=#[.slice (some { block:=lb,off:=lo }) n c,.func (Fn.func 102) #[] #[.pointer (some ⟨P,0,none⟩)],undef,undef,.pointer (some ⟨w.heap.size,0,none⟩),.pointer (some ⟨w.heap.size+1,0,none⟩),.int .i64 ↑k,.slice (some { block:=lb,off:=lo }) n c,.int .i64 ↑n,.bool false,undef,.slice (some { block:=lb,off:=lo }) n c,.pointer (some { block:=lb,off:=lo }),.agg #[.bool m1,.string s1,.int .i64 e1],.int .i64 ↑k,.slice (some { block:=lb,off:=lo }) n c,.int .i64 ↑n,.bool true,u18,u19,.func (Fn.func 102) #[] #[.pointer (some ⟨P,0,none⟩)],.slice (some { block:=lb,off:=lo }) n c,.int .i64 ↑k,.pointer (some { block:=lb,off:=lo+k*3 }),.agg #[.bool m2,.string s2,.int .i64 e2],.agg #[.bool m,.string s,.int .i64 d],.int .i64 (side*cc),u27,u28,u29,u30,u31,undef],defers:=[] }∧Below (w.heap.size) w Wn∧(Nk Wn (w.heap.size+1) m s d)∧(Nk Wn (w.heap.size) false ⟨#[]⟩ 0)) hf ?_ ?_ ?_ ?_
    ·exact ⟨by kernel_rfl,by kernel_rfl,hb,hM,hR⟩
    ·rintro L ac Wn ⟨rfl,_⟩
     kernel_rfl
    ·exact (seg_all (b:=7) [] lin_nil:∀ j∈[7],j≠7→_)
    refine bo [] ?_;rintro L ac Wn ⟨rfl,hI⟩ - Kc hK;obtain ⟨rfl,hb,hM,hR⟩:=hI;refine ly (.bool true) ?_;refine hK.out _ _ (fun fu hf=>wpAnyH_done (by kernel_rfl) ?_ _);clear hK Kc hf;clear hc1 hc2 hc3;have hc1:Wn.cell? ⟨lb,lo+k*3,none⟩=some (.bool m2):=by rw [hb.cell hlb];exact hc1'
    have hc2:Wn.cell? ⟨lb,lo+k*3+1,none⟩=some (.string s2):=by rw [hb.cell hlb];exact hc2'
    have hc3:Wn.cell? ⟨lb,lo+k*3+2,none⟩=some (.int .i64 e2):=by rw [hb.cell hlb];exact hc3'
    obtain ⟨hM0,hM1,hM2,hM3,hM4,hM5⟩:=hM.facts;have hf2:nv m2 s2 e2=farD side l (k+1):=by rw [HC.out.2,if_pos hpos]
    have HJ:=Lib.hid (And.intro (hM.set3 m2 s2 e2) (And.intro hf2 (And.intro hm2 (And.intro (((hR.fr (w.heap.size+1) 0 (.bool m2)).fr (w.heap.size+1) 1 (.string s2)).fr (w.heap.size+1) 2 (.int .i64 e2)) (below_set3 hb (show w.heap.size≤w.heap.size+1 by omega) 0 1 2 (.bool m2) (.string s2) (.int .i64 e2))))));clear hM hR hb hf2 hmem hm2;go_wp2;exact ⟨⟨k+1,by omega,by omega,by simp,m2,s2,e2,HJ.out⟩,by simp [intY];omega⟩
   ·have d9:decide (0<side*cc)=false:=decide_eq_false hpos;refine region_segs (n:=8) #[false,false,false,false,false,false,false,false] (by kernel_rfl) (by kernel_rfl) (by kernel_rfl) ?_;intro fu hf;refine ls 8 [0,1,2,3,4,5,6] 6 (fun L ac Wn=>∃ l0 l1 l2 l3 l4 l5:Bool,L=#[l0,l1,l2,l3,l4,l5,false,false]∧ac={tmps:=#[.slice (some { block:=lb,off:=lo }) n c,.func (Fn.func 102) #[] #[.pointer (some ⟨P,0,none⟩)],undef,undef,.pointer (some ⟨w.heap.size,0,none⟩),.pointer (some ⟨w.heap.size+1,0,none⟩),.int .i64 ↑k,.slice (some { block:=lb,off:=lo }) n c,.int .i64 ↑n,.bool false,undef,.slice (some { block:=lb,off:=lo }) n c,.pointer (some { block:=lb,off:=lo }),.agg #[.bool m1,.string s1,.int .i64 e1],.int .i64 ↑k,.slice (some { block:=lb,off:=lo }) n c,.int .i64 ↑n,.bool true,u18,u19,sel l0 (Value.func (Fn.func 102) #[] #[.pointer (some ⟨P,0,none⟩)]) (u20),sel l1 (.slice (some { block:=lb,off:=lo }) n c) (u21),sel l2 (.int .i64 ↑k) (u22),sel l3 (.pointer (some { block:=lb,off:=lo+k*3 })) (u23),sel l4 (.agg #[.bool m2,.string s2,.int .i64 e2]) (u24),sel l5 (.agg #[.bool m,.string s,.int .i64 d]) (u25),u26,u27,u28,u29,u30,u31,undef],defers:=[] }∧Below (w.heap.size) w Wn∧(Nk Wn (w.heap.size+1) m s d)∧(Nk Wn (w.heap.size) false ⟨#[]⟩ 0)) hf ?_ ?_ ?_ ?_
    ·exact ⟨false,false,false,false,false,false,by kernel_rfl,by kernel_rfl,hb.drew,hM.drew,hR.drew⟩
    ·rintro L ac Wn ⟨l0,l1,l2,l3,l4,l5,rfl,_⟩
     kernel_rfl
    ·refine (seg_all (b:=6) [0,1,2,3,4,5] ?_:∀ j∈[0,1,2,3,4,5,6],j≠6→_);refine lc [] [] ?_ ?_
     ·rintro L ac Wn ⟨l0,l1,l2,l3,l4,l5,rfl,hI⟩ rfl - - Kc hK;simp only [sel_f] at hI;obtain ⟨rfl,hb,hM,hR⟩:=hI;refine ly (Value.func (Fn.func 102) #[] #[.pointer (some ⟨P,0,none⟩)]) ?_;exact hK.out _ _ ⟨true,l1,l2,l3,l4,l5,by kernel_rfl,by kernel_rfl,hb,hM,hR⟩
     refine lc [] [3,4] ?_ ?_
     ·rintro L ac Wn ⟨l0,l1,l2,l3,l4,l5,rfl,hI⟩ rfl - ⟨rfl,rfl,-⟩ Kc hK;simp only [sel_f] at hI;obtain ⟨rfl,hb,hM,hR⟩:=hI;refine ly (.slice (some { block:=lb,off:=lo }) n c) ?_;exact hK.out _ _ ⟨l0,true,l2,false,false,l5,by kernel_rfl,by kernel_rfl,hb,hM,hR⟩
     refine lc [] [3,4] ?_ ?_
     ·rintro L ac Wn ⟨l0,l1,l2,l3,l4,l5,rfl,hI⟩ rfl - ⟨rfl,rfl,-⟩ Kc hK;simp only [sel_f] at hI;obtain ⟨rfl,hb,hM,hR⟩:=hI;refine ly (.int .i64 ↑k) ?_;exact hK.out _ _ ⟨l0,l1,true,false,false,l5,by kernel_rfl,by kernel_rfl,hb,hM,hR⟩
     refine lc [1,2] [4] ?_ ?_
     ·rintro L ac Wn ⟨l0,l1,l2,l3,l4,l5,rfl,hI⟩ rfl ⟨rfl,rfl,-⟩ ⟨rfl,-⟩ Kc hK;simp only [sel_t,sel_f] at hI;obtain ⟨rfl,hb,hM,hR⟩:=hI;refine ly (.pointer (some { block:=lb,off:=lo+k*3 })) ?_;exact hK.out _ _ ⟨l0,true,true,true,false,l5,by kernel_rfl,by kernel_rfl,hb,hM,hR⟩
     refine lc [1,2,3] [] ?_ ?_
     ·rintro L ac Wn ⟨l0,l1,l2,l3,l4,l5,rfl,hI⟩ rfl ⟨rfl,rfl,rfl,-⟩ - Kc hK;simp only [sel_t,sel_f] at hI;obtain ⟨rfl,hb,hM,hR⟩:=hI;have q0:Wn.cell? ⟨lb,lo+k*3,none⟩=some (.bool m2):=by rw [hb.cell hlb];exact hc1'
      have q1:Wn.cell? ⟨lb,lo+k*3+1,none⟩=some (.string s2):=by rw [hb.cell hlb];exact hc2'
      have q2:Wn.cell? ⟨lb,lo+k*3+2,none⟩=some (.int .i64 e2):=by rw [hb.cell hlb];exact hc3'
      refine ly (.agg #[.bool m2,.string s2,.int .i64 e2]) ?_;exact hK.out _ _ ⟨l0,true,true,true,true,l5,by kernel_rfl,by kernel_rfl,hb,hM,hR⟩
     refine ln [] [] ?_;rintro L ac Wn ⟨l0,l1,l2,l3,l4,l5,rfl,hI⟩ rfl - - Kc hK;simp only [sel_f] at hI;obtain ⟨rfl,hb,hM,hR⟩:=hI;obtain ⟨q0,q1,q2,q3,q4,q5⟩:=(hM).facts;refine ly (.agg #[.bool m,.string s,.int .i64 d]) ?_;exact hK.out _ _ ⟨l0,l1,l2,l3,l4,true,by kernel_rfl,by kernel_rfl,hb,hM,hR⟩
    refine bo [0,1,2,3,4,5] ?_;rintro L ac Wn ⟨l0,l1,l2,l3,l4,l5,rfl,hI⟩ ⟨rfl,rfl,rfl,rfl,rfl,rfl,-⟩ Kc hK;simp only [sel_t] at hI;obtain ⟨rfl,hb,hM,hR⟩:=hI;go_simp;go_fit (along_any _ P side hsd (hP.below hb hP.lt) m2 m s2 s e2 d (by omega) (by omega) (by omega) (by omega) cc HC.out.1);rintro e V ⟨rfl,hq⟩;replace hM:=hM.below hq;replace hR:=hR.below hq;replace hb:=(below_next hb hq);refine hK.out _ _ (fun fu hf=>?_);clear hK Kc;refine ls 8 [7] 7 (fun L ac Wn=>L=#[true,true,true,true,true,true,true,false]∧ac={tmps:=#[.slice (some { block:=lb,off:=lo }) n c,.func (Fn.func 102) #[] #[.pointer (some ⟨P,0,none⟩)],undef,undef,.pointer (some ⟨w.heap.size,0,none⟩),.pointer (some ⟨w.heap.size+1,0,none⟩),.int .i64 ↑k,.slice (some { block:=lb,off:=lo }) n c,.int .i64 ↑n,.bool false,undef,.slice (some { block:=lb,off:=lo }) n c,.pointer (some { block:=lb,off:=lo }),.agg #[.bool m1,.string s1,.int .i64 e1],.int .i64 ↑k,.slice (some { block:=lb,off:=lo }) n c,.int .i64 ↑n,.bool true,u18,u19,.func (Fn.func 102) #[] #[.pointer (some ⟨P,0,none⟩)],.slice (some { block:=lb,off:=lo }) n c,.int .i64 ↑k,.pointer (some { block:=lb,off:=lo+k*3 }),.agg #[.bool m2,.string s2,.int .i64 e2],.agg #[.bool m,.string s,.int .i64 d],.int .i64 (side*cc),u27,u28,u29,u30,u31,undef],defers:=[] }∧Below (w.heap.size) w Wn∧(Nk Wn (w.heap.size+1) m s d)∧(Nk Wn (w.heap.size) false ⟨#[]⟩ 0)) hf ?_ ?_ ?_ ?_
    ·exact ⟨by kernel_rfl,by kernel_rfl,hb,hM,hR⟩
    ·rintro L ac Wn ⟨rfl,_⟩
     kernel_rfl
    ·exact (seg_all (b:=7) [] lin_nil:∀ j∈[7],j≠7→_)
    refine bo [] ?_;rintro L ac Wn ⟨rfl,hI⟩ - Kc hK;obtain ⟨rfl,hb,hM,hR⟩:=hI;refine ly (.bool false) ?_;refine hK.out _ _ (fun fu hf=>wpAnyH_done (by kernel_rfl) ?_ _);clear hK Kc hf;clear hc1 hc2 hc3;have hc1:Wn.cell? ⟨lb,lo+k*3,none⟩=some (.bool m2):=by rw [hb.cell hlb];exact hc1'
    have hc2:Wn.cell? ⟨lb,lo+k*3+1,none⟩=some (.string s2):=by rw [hb.cell hlb];exact hc2'
    have hc3:Wn.cell? ⟨lb,lo+k*3+2,none⟩=some (.int .i64 e2):=by rw [hb.cell hlb];exact hc3'
    have hf2:nv m s d=farD side l (k+1):=by rw [HC.out.2,if_neg hpos]
    have HJ:=Lib.hid (And.intro hM (And.intro hf2 (And.intro hmem (And.intro hR hb))));clear hM hR hb hf2 hmem hm2;go_wp2;exact ⟨⟨k+1,by omega,by omega,by simp,m,s,d,HJ.out⟩,by simp [intY];omega⟩
  ·have hkn:k=n:=by omega
   subst hkn;obtain ⟨hM0,hM1,hM2⟩:=hM.cells;obtain ⟨hR0,hR1,hR2,hR3,hR4,hR5⟩:=hR.facts;have HJ:=Lib.hid (And.intro (hR.set3 m s d) (And.intro hv (And.intro hmem (below_set3 hb (Nat.le_refl _) 0 1 2 (.bool m) (.string s) (.int .i64 d)))));clear hM hR hb hv hmem;go_wp2;exact ret_num rfl rfl HJ.out.1 ⟨⟨m,s,d,rfl,HJ.out.2.1,HJ.out.2.2.1⟩,HJ.out.2.2.2⟩
end Go.Proofs.YtbijggomdpaknaaGreatDoor
