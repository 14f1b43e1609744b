/- Layer 1, laid together: P6, P8, P9, P9T, P10, P11, PGrid. -/
import Derived.Test.YtemedphcafgolaaGreatDoorPC
/- Package poly: all terms of a row times one,walked. -/
namespace Go.Proofs.YtemedphcafgolaaGreatDoor
set_option maxRecDepth 100000
set_option maxHeartbeats 3200000
open Go.RowKit Go.Shelf Go.Lib
theorem tcells_set:∀ (l:List TV) (i:Nat) (x:TV),tcells (l.set i x)=((((tcells l).set (i*4) (.string x.1)).set (i*4+1) (.bool x.2.1)).set (i*4+2) (.string x.2.2.1)).set (i*4+3) (.int .i64 x.2.2.2)
 | [],i,x=>by simp [tcells]
 | y::l,0,x=>rfl
 | y::l,i+1,x=>by
  rw [List.set_cons_succ,tcells,tcells,tcells_set l i x,show (i+1)*4=i*4+1+1+1+1 by omega];rfl
def Tr (w:World) (g:Nat) (l:List TV):Prop:=Rw w g 58 (tcells l)
section
variable {w w' : World} {g : Nat} {l : List TV}
theorem Tr.lt (h:Tr w g l):g<w.heap.size:=Rw.lt h
theorem Tr.below (h:Tr w g l) (hq:Below w.heap.size w w'):Tr w' g l:=Rw.below h hq h.lt
theorem Tr.alloc (h:Tr w g l) (o:Obj):Tr (w.alloc o) g l:=Rw.alloc h o
theorem Tr.tat (h:Tr w g l):TAt w (some ⟨g,0,none⟩) l:=by
 intro i hi;obtain ⟨h1,h2,h3,h4⟩:=tcells_get l i hi;refine ⟨g,0,rfl,h.lt,?_,?_,?_,?_⟩
 ·rw [Nat.zero_add,Rw.cell h];exact h1
 ·rw [Nat.zero_add,Rw.cell h];exact h2
 ·rw [Nat.zero_add,Rw.cell h];exact h3
 ·rw [Nat.zero_add,Rw.cell h];exact h4
theorem Tr.set_ (h:Tr w g l) (i:Nat) (x:TV):Tr ((((w.setCell ⟨g,i*4,none⟩ (.string x.1)).setCell ⟨g,i*4+1,none⟩ (.bool x.2.1)).setCell ⟨g,i*4+2,none⟩ (.string x.2.2.1)).setCell ⟨g,i*4+3,none⟩ (.int .i64 x.2.2.2)) g (l.set i x):=by
 unfold Tr;rw [tcells_set];exact (((Rw.set_ h _ _).set_ _ _).set_ _ _).set_ _ _
theorem Tr.facts (h:Tr w g l) (i:Nat) (hi:i<l.length):w.cell? ⟨g,i*4,none⟩=some (.string l[i].1)∧w.cell? ⟨g,i*4+1,none⟩=some (.bool l[i].2.1)∧w.cell? ⟨g,i*4+2,none⟩=some (.string l[i].2.2.1)∧w.cell? ⟨g,i*4+3,none⟩=some (.int .i64 l[i].2.2.2) ∧
  w.frozen? ⟨g,i*4,none⟩=false∧w.frozen? ⟨g,i*4+1,none⟩=false∧w.frozen? ⟨g,i*4+2,none⟩=false∧w.frozen? ⟨g,i*4+3,none⟩=false:=by
 obtain ⟨h1,h2,h3,h4⟩:=tcells_get l i hi;exact ⟨by rw [Rw.cell h];exact h1,by rw [Rw.cell h];exact h2,by rw [Rw.cell h];exact h3,by rw [Rw.cell h];exact h4,Rw.frozen h _,Rw.frozen h _,Rw.frozen h _,Rw.frozen h _⟩
theorem Tk.far4 {x:TV} {b:Nat} (h:Tk w b x) (hb:b≠g) (i j k m:Nat) (u v y z:Value):Tk ((((w.setCell ⟨g,i,none⟩ u).setCell ⟨g,j,none⟩ v).setCell ⟨g,k,none⟩ y).setCell ⟨g,m,none⟩ z) b x:=
 (((Rw.far h (p:=⟨g,i,none⟩) hb u).far (p:=⟨g,j,none⟩) hb v).far (p:=⟨g,k,none⟩) hb y).far (p:=⟨g,m,none⟩) hb z
end
def zt:TV:=(⟨#[]⟩,false,⟨#[]⟩,0)
theorem made_terms (n:Nat):(madeCells (Value.cells (.agg #[.string ⟨#[]⟩,.bool false,.string ⟨#[]⟩,.int .i64 0])) (n*4)).toList=tcells (List.replicate n zt):=by
 apply List.ext_getElem?
 intro j
 by_cases hj:j<n*4
 ·obtain ⟨h1,h2,h3,h4⟩:=tcells_get (List.replicate n zt) (j / 4) (by rw [List.length_replicate];omega);simp only [List.getElem_replicate] at h1 h2 h3 h4;have e:(madeCells (Value.cells (.agg #[.string ⟨#[]⟩,.bool false,.string ⟨#[]⟩,.int .i64 0])) (n*4)).toList[j]?=some ((Value.cells (.agg #[.string ⟨#[]⟩,.bool false,.string ⟨#[]⟩,.int .i64 0]))[j % 4]!):=by
   simp [madeCells,hj];rfl
  rw [e]
  rcases (show j % 4=0∨j % 4=1∨j % 4=2∨j % 4=3 by omega) with q|q|q|q
  ·rw [q];rw [show j=j / 4*4 by omega];exact h1.symm
  ·rw [q];rw [show j=j / 4*4+1 by omega];exact h2.symm
  ·rw [q];rw [show j=j / 4*4+2 by omega];exact h3.symm
  ·rw [q];rw [show j=j / 4*4+3 by omega];exact h4.symm
 ·rw [List.getElem?_eq_none (by rw [Array.length_toList,size_madeCells];omega),List.getElem?_eq_none (by rw [tcells_len,List.length_replicate];omega)]
theorem make_zero (W:World) (n:Nat) (hmax:n≤100000) :
  ∃ w',(Instr.makeSlice 22 (.int .i64 (n:Int)) (.int .i64 (n:Int))).run Tryz.prog W=.ok (.slice (some ⟨W.heap.size,0,none⟩) n n) w'∧Tr w' W.heap.size (List.replicate n zt)∧W.grownBy w' none:=by
 obtain ⟨i,hi,hz,hs,hb⟩:=info_parts infoT4;obtain ⟨w',h1,h2,h3⟩:=run_make_full (P:=Tryz.prog) W W.heap.size 22 58 i _ 4 Tryz.underlying22 hi hz hs .i64 .i64 n (by rw [hb];omega) (by unfold maxLen;omega) (Nat.le_refl _);refine ⟨w',h1,?_,h3⟩
 rcases h2.2 with ⟨h,_⟩|⟨g,cap,cur,e,_,hg,_,_,hcs,ht⟩
 ·cases h
 ·simp only [Value.slice.injEq,Option.some.injEq,Addr.mk.injEq,and_true,true_and] at e;obtain ⟨rfl,rfl⟩:=e;have hl:cur.toList=tcells (List.replicate n zt):=by
   rw [← made_terms,← ht,List.take_of_length_le];rw [Array.length_toList,hcs];exact Nat.le_refl _
  unfold Tr Rw;rw [← hl];exact hg
theorem fill_setT {A:List TV} {k n:Nat} {v z:TV} (hA:A.length=k) (h:k<n):(A++List.replicate (n-k) z).set k v=(A++[v])++List.replicate (n-(k+1)) z:=by
 rw [List.set_append_right _ _ (by omega),hA,Nat.sub_self,show n-k=(n-(k+1))+1 by omega,List.replicate_succ,List.set_cons_zero];simp
theorem prod_two (x y:NV):prodD [x,y] 2=nvl x*nvl y:=by
 show (1*nvl x)*nvl y=_;rw [Dyadic.one_mul]
def mulTV (x y:TV):TV:=(togS addF y.1 x.1,canonN (nvl y.2*nvl x.2))
theorem map_take_succ {α β:Type} (f:α→β) {l:List α} {i:Nat} (h:i<l.length):(l.take (i+1)).map f=(l.take i).map f++[f l[i]]:=by
 rw [List.take_succ_eq_append_getElem h,List.map_append];rfl
def okN (x:NV):Prop:=x.2.1.size≤1000∧-1000000≤x.2.2∧x.2.2≤1000000
theorem multiplied_any (w:World) (qd:Option Addr) (n qc:Nat) (q:List TV) (hn:q.length=n) (hmax:n≤5000) (hq:TAt w qd q) (x:TV) (hx:okN x.2∧x.1.size≤1000000) (hqo:∀ y∈q,okN y.2∧y.1.size≤1000000) :
  Calls Tryz.prog 81 #[.slice qd n qc,tagg x] w (fun e w'=>∃ g,e=.returned (.slice (some ⟨g,0,none⟩) n n)∧TAt w' (some ⟨g,0,none⟩) (q.map (mulTV x))∧Below w.heap.size w w'):=by
 obtain ⟨xt,xm,xs,xd⟩:=x;obtain ⟨⟨hx1,hx2,hx3⟩,hx4⟩:=hx;simp only at hx1 hx2 hx3 hx4;have hT:=Tk.new w xt xm xs xd;have hb:=(Below.refl w.heap.size w).alloc (Nat.le_refl _) (.cells #[.string xt,.bool xm,.string xs,.int .i64 xd] 58);obtain ⟨W1,hmk,hR,hgr⟩:=make_zero (w.alloc (.cells #[.string xt,.bool xm,.string xs,.int .i64 xd] 58)) n (by omega);have hb1:Below w.heap.size w W1:=hb.grown hgr hb.size (by simp);have hT1:Tk W1 w.heap.size (xt,xm,xs,xd):=Rw.grown hT hgr (by simp);rw [World.size_alloc] at hR hmk;clear hgr hT hb;unfold tagg;go_enter Tryz.func81,Tryz.ntmps81;go_wp2
 go_loopw [15] (fun iv wr=>∃ i:Nat,iv=.int .i64 i∧i≤n∧Tr wr (w.heap.size+1) ((q.take i).map (mulTV (xt,xm,xs,xd))++List.replicate (n-i) zt)∧Tk wr w.heap.size (xt,xm,xs,xd)∧Below w.heap.size w wr) (fun iv _=>n-(RowKit.intOf iv).toNat)
 case atStart=>exact ⟨0,rfl,Nat.zero_le _,hR,hT1,hb1⟩
 case round =>
  clear hR hT1 hb1 hmk;obtain ⟨i,rfl,hi,hR,hT,hb⟩:=hrel
  by_cases hik:i<n
  ·have hil:i<q.length:=by omega
   obtain ⟨lb,lo,rfl,hlb,c0,c1,c2,c3⟩:=hq.below hb i hil;have hst:=map_take_succ (mulTV (xt,xm,xs,xd)) hil;have hlen:((q.take i).map (mulTV (xt,xm,xs,xd))).length=i:=by rw [List.length_map,List.length_take];omega
   obtain ⟨⟨hy1,hy2,hy3⟩,hy4⟩:=hqo _ (List.getElem_mem hil);generalize q[i]=y at *;obtain ⟨yt,ym,ys,yd⟩:=y;simp only at c0 c1 c2 c3 hy1 hy2 hy3 hy4;obtain ⟨o,ho⟩:∃ o,togS addF yt xt=o:=⟨_,rfl⟩;obtain ⟨e0,he⟩:∃ e0,togE addF yt xt=e0:=⟨_,rfl⟩;have hz:=canonN_df (nvl (ym,ys,yd)*nvl (xm,xs,xd));have hst2:mulTV (xt,xm,xs,xd) (yt,ym,ys,yd)=(o,canonN (nvl (ym,ys,yd)*nvl (xm,xs,xd))):=by rw [← ho];rfl
   rw [hst2] at hst;clear hst2;generalize canonN (nvl (ym,ys,yd)*nvl (xm,xs,xd))=zz at *;obtain ⟨zm,zs,zd⟩:=zz;simp only at hz;have hU0:=Tk.new wr yt ym ys yd;have hb0:=(Below.refl wr.heap.size wr).alloc (Nat.le_refl _) (.cells #[.string yt,.bool ym,.string ys,.int .i64 yd] 58);have hT0:=(hT.below hb0).facts;obtain ⟨t0,t1,t2,t3,-⟩:=hT0;go_wp2_with fail;refine (pm_mul_any _ yt xt (by omega) (by omega) o e0 ho he).mono ?_;rintro e V ⟨rfl,hqV⟩;have hb2:=below_next hb0 hqV;have hU2:=(hU0.below hqV).facts;have hT2:=(hT.below hb2).facts;obtain ⟨u0,u1,u2,u3,-⟩:=hU2;obtain ⟨s0,s1,s2,s3,-⟩:=hT2;have hrow:NAt (V.alloc (.cells #[.bool ym,.string ys,.int .i64 yd,.bool xm,.string xs,.int .i64 xd] 26)) (some ⟨V.heap.size,0,none⟩) [(ym,ys,yd),(xm,xs,xd)]:=NAt.new V 26 [(ym,ys,yd),(xm,xs,xd)] _ rfl;have hb3:=hb2.alloc hb2.size (.cells #[.bool ym,.string ys,.int .i64 yd,.bool xm,.string xs,.int .i64 xd] 26);have hm:=ymul_any _ V.heap.size 0 [(ym,ys,yd),(xm,xs,xd)] 2 2 rfl (Nat.le_refl _) (by omega) (by omega) (fun z hz=>by
    rcases List.mem_cons.1 hz with rfl|hz
    ·exact ⟨hy1,hy2,hy3⟩
    ·obtain rfl:=List.mem_singleton.1 hz;exact ⟨hx1,hx2,hx3⟩) hrow zm zs zd ((congrArg df (prod_two _ _)).trans hz)
   clear c0 c1 c2 c3 t0 t1 t2 t3 hU0 hqV hz;go_wp2_with fail;refine hm.mono ?_;rintro e V2 ⟨rfl,hq2⟩;have hb4:=below_next hb3 hq2;have hb5:=below_next hb hb4;have hR2:=hR.below hb4;have hT3:=hT.below hb4;have hlt:i<((q.take i).map (mulTV (xt,xm,xs,xd))++List.replicate (n-i) zt).length:=by rw [List.length_append,hlen,List.length_replicate];omega
   obtain ⟨f0,f1,f2,f3,f4,f5,f6,f7⟩:=hR2.facts i hlt;clear hm hrow u0 u1 u2 u3 s0 s1 s2 s3 hb0 hb2 hb3 hq2 hT hR;have hR5:Tr ((((V2.setCell ⟨w.heap.size+1,i*4,none⟩ (.string o)).setCell ⟨w.heap.size+1,i*4+1,none⟩ (.bool zm)).setCell ⟨w.heap.size+1,i*4+2,none⟩ (.string zs)).setCell ⟨w.heap.size+1,i*4+3,none⟩ (.int .i64 zd)) (w.heap.size+1) ((q.take (i+1)).map (mulTV (xt,xm,xs,xd))++List.replicate (n-(i+1)) zt):=by
    rw [hst,← fill_setT hlen hik];exact hR2.set_ i (o,zm,zs,zd)
   have hT5:=hT3.far4 (g:=w.heap.size+1) (by omega) (i*4) (i*4+1) (i*4+2) (i*4+3) (.string o) (.bool zm) (.string zs) (.int .i64 zd);have hb6:=tbelow_set4 hb5 (b:=w.heap.size+1) (by omega) (i*4) (i*4+1) (i*4+2) (i*4+3) (.string o) (.bool zm) (.string zs) (.int .i64 zd);clear hR2 hT3 hb5 hst hlen hb4;go_wp2;exact ⟨⟨i+1,rfl,hik,hR5,hT5,hb6⟩,by simp [RowKit.intOf];omega⟩
  ·obtain rfl:i=n:=by omega
   rw [Nat.sub_self,List.replicate_zero,List.append_nil,List.take_of_length_le (by omega)] at hR;have HR:=Lib.hid hR.tat;clear hR hT;go_wp2;go_ret;exact ⟨_,rfl,HR.out,hb⟩
def RetJ (ns:List Int) (w:World):Ending→World→Prop:=fun e w'=>∃ ad c,e=.returned (.slice ad ns.length c)∧RI w' ad ns∧(∀ b off,ad=some ⟨b,off,none⟩→w.heap.size≤b)∧Below w.heap.size w w'
theorem exps_new (w:World) (s:ByteArray) (hs:s.size≤1000000000) (ns:List Int) (ho:(if okM s.data.toList then expsM s.data.toList else [])=ns) :
  Calls Tryz.prog 69 #[.string s] w (RetJ ns w):=by
 have hb:=Below.refl w.heap.size w;go_enter Tryz.func69,Tryz.ntmps69;go_wp2_with fail;obtain ⟨m,hm⟩:∃ m,okM s.data.toList=m:=⟨_,rfl⟩;refine (may_any _ s hs s.size m (by rw [hm];simp)).mono ?_;rintro e W ⟨rfl,hq⟩;replace hb:=below_next hb hq;have hWs:=hb.size;clear hq;rw [hm] at ho
 cases m with
 | false =>
  have h0:ns=[]:=by rw [← ho];rfl
  subst h0;go_wp2;go_ret;exact ⟨none,0,rfl,RI.nil _ _,(fun _ _ h=>by cases h),hb⟩
 | true =>
  have h1:expsM s.data.toList=ns:=by rw [← ho];rfl
  have HO:=Lib.hid (And.intro h1 hm);clear ho h1 hm;have hmk:=pm_make_ints s.size (by omega) W;have hI:=EXI.start W s;go_wp2
  go_loopw [] (fun wr=>∃ k:Nat,EXI W wr s k) (fun wr=>s.size-wr.iterPos (W.heap.size+1))
  case atStart=>exact ⟨0,hI⟩
  case round =>
   clear hI hmk;obtain ⟨k,hk,hit,hR,hbw⟩:=hrel
   by_cases hks:k<s.size
   ·have ha:(s[k]'hks).toNat<128:=by
     have:=okM_get HO.out.2 (k:=k) hks
     rwa [get_list] at this
    have hnx:∀ ty,(Instr.next (.pointer (some ⟨W.heap.size+1,0,none⟩)) true ty).run Tryz.prog wr=_:=fun ty=>Lib.run_next_ascii_at wr (W.heap.size+1) s k ty hit hks ha;have hsz:=hR.lt;have hitn:(wr.iterAt (W.heap.size+1) s (k+1)).heap[W.heap.size+1]?=some (.stringIter s (k+1)):=Lib.iterAt_heap _ _ _ _ _ hit;have hRn:Rw (wr.iterAt (W.heap.size+1) s (k+1)) W.heap.size 3 _:=hR.below (below_iterAt (Below.refl (W.heap.size+1) wr) (Nat.le_refl _) _ _) (by omega);have hbn:=below_iterAt hbw (k:=W.heap.size+1) (by omega) s (k+1);have hcl:=hRn.cell k;have hfz:=hRn.frozen k;have hAl:((expsM (s.data.toList.take k)).map (Value.int .i64)).length=k:=by
     rw [List.length_map,expsM_length,List.length_take,show s.data.toList.length=s.size from rfl];omega
    rw [List.getElem?_append_right (by omega),hAl,Nat.sub_self,show s.size-k=(s.size-(k+1))+1 by omega,List.replicate_succ,List.getElem?_cons_zero] at hcl;obtain ⟨y,hy⟩:∃ y:Nat,(s[k]'hks).toNat=y:=⟨_,rfl⟩;have hnew:=hRn.set_ k (.int .i64 (y:Int));rw [fill_set hAl hks] at hnew;have hex:=expsM_take (l:=s.data.toList) (k:=k) hks;rw [get_list s k hks,hy] at hex;have hIn:EXI W ((wr.iterAt (W.heap.size+1) s (k+1)).setCell ⟨W.heap.size,k,none⟩ (.int .i64 (y:Int))) s (k+1):=by
     refine ⟨hks,(Below.heap_setCell _ _ _ _ (by simp)).trans hitn,?_,hbn.setCell (p:=⟨W.heap.size,k,none⟩) (Nat.le_refl _) _⟩;rw [hex,List.map_append];exact hnew
    have hpos:=iterPos_of hIn.2.1;have hpos0:=iterPos_of hit;rw [hy] at hnx ha;have HR:=Lib.hid (And.intro hIn (And.intro hpos hpos0));clear hR hRn hbw hbn hitn hpos hpos0 hy hnew hex hIn hAl hit;go_wp2;go_roundw
    case rel=>exact ⟨k+1,HR.out.1⟩
    case measure=>rw [HR.out.2.1,HR.out.2.2];omega
   ·have hnx:∀ ty,(Instr.next (.pointer (some ⟨W.heap.size+1,0,none⟩)) true ty).run Tryz.prog wr=_:=fun ty=>Lib.run_next_end_at wr (W.heap.size+1) s k ty hit hks;obtain rfl:k=s.size:=by omega
    have hb2:=below_next hb hbw;rw [List.take_of_length_le (show s.data.toList.length≤s.size from Nat.le_refl _),HO.out.1] at hR;have hl:ns.length=s.size:=by rw [← HO.out.1,expsM_length];rfl
    have hRI:=RI.of_rw (pre:=[]) (off:=0) hR rfl;have HE:=Lib.hid (And.intro hRI hl);clear hR hRI hl;go_wp2;go_ret;exact ⟨_,_,by rw [HE.out.2];rfl,HE.out.1,(fun b off h=>by simp only [Option.some.injEq,Addr.mk.injEq] at h;rw [← h.1];exact hWs),hb2⟩
theorem RI.far {w:World} {ad:Option Addr} {ns:List Int} (h:RI w ad ns) {g:Nat} (hg:∀ b off,ad=some ⟨b,off,none⟩→b≠g) (k:Nat) (u:Value):RI (w.setCell ⟨g,k,none⟩ u) ad ns:=fun i hi=>by
 obtain ⟨b,off,e,hl,hc⟩:=h i hi;exact ⟨b,off,e,by simpa using hl,(World.cell?_of_block (Below.heap_setCell w _ u b (hg b off e))).trans hc⟩
def maxL (a b:List Nat):List Nat:=List.zipWith max a b
def gl (v:Nat) (l:List TV):List Nat:=l.foldl (fun a t=>maxL a (t.1.data.toList.map UInt8.toNat)) (List.replicate v 0)
theorem gl_snoc (v:Nat) (l:List TV) (t:TV):gl v (l++[t])=maxL (gl v l) (t.1.data.toList.map UInt8.toNat):=by
 unfold gl;rw [List.foldl_append];rfl
theorem foldl_snoc_ind {α:Type} {P:List α→Prop} (h0:P []) (h1:∀ l x,P l→P (l++[x])):∀ l,P l:=by
 intro l;rw [← List.reverse_reverse l]
 induction l.reverse with
 | nil=>exact h0
 | cons x t ih=>rw [List.reverse_cons];exact h1 _ _ ih
theorem gl_len (v:Nat) (l:List TV):(∀ t∈l,t.1.size=v)→(gl v l).length=v:=by
 refine foldl_snoc_ind (P:=fun l=>(∀ t∈l,t.1.size=v)→(gl v l).length=v) (fun _=>by simp [gl]) (fun l x ih h=>?_) l;rw [gl_snoc];have h1:=ih fun t ht=>h t (List.mem_append_left _ ht);have h2:x.1.data.toList.length=v:=h x (List.mem_append_right _ (List.mem_singleton.2 rfl));simp [maxL,h1,h2]
theorem gl_spec (v:Nat) (l:List TV):(∀ t∈l,t.1.size=v)→∀ k (hk:k<(gl v l).length),(∀ t∈l,∀ h:k<t.1.data.toList.length,(t.1.data.toList[k]).toNat≤(gl v l)[k])∧((gl v l)[k]=0∨∃ t∈l,∃ h:k<t.1.data.toList.length,(gl v l)[k]=(t.1.data.toList[k]).toNat):=by
 refine foldl_snoc_ind (P:=fun l=>(∀ t∈l,t.1.size=v)→∀ k (hk:k<(gl v l).length),(∀ t∈l,∀ h:k<t.1.data.toList.length,(t.1.data.toList[k]).toNat≤(gl v l)[k])∧((gl v l)[k]=0∨∃ t∈l,∃ h:k<t.1.data.toList.length,(gl v l)[k]=(t.1.data.toList[k]).toNat)) ?_ ?_ l
 ·intro _ k hk;exact ⟨fun t ht=>absurd ht List.not_mem_nil,.inl (by simp [gl])⟩
 ·intro l x ih h k hk;have hx:=h x (List.mem_append_right _ (List.mem_singleton.2 rfl));have hxl:x.1.data.toList.length=v:=hx;have hl:=gl_len v l fun t ht=>h t (List.mem_append_left _ ht);have hkv:k<v:=by rw [gl_len v _ h] at hk;exact hk
  obtain ⟨h1,h2⟩:=ih (fun t ht=>h t (List.mem_append_left _ ht)) k (by omega);have e:(gl v (l++[x]))[k]=max ((gl v l)[k]'(by omega)) (x.1.data.toList[k]'(by omega)).toNat:=by
   simp only [gl_snoc,maxL,List.getElem_zipWith,List.getElem_map]
  rw [e];refine ⟨fun t ht hk2=>?_,?_⟩
  ·rcases List.mem_append.1 ht with ht|ht
   ·exact Nat.le_trans (h1 t ht hk2) (Nat.le_max_left _ _)
   ·obtain rfl:=List.mem_singleton.1 ht;exact Nat.le_max_right _ _
  ·by_cases hm:(gl v l)[k]'(by omega)≤(x.1.data.toList[k]'(by omega)).toNat
   ·rw [Nat.max_eq_right hm];exact .inr ⟨x,List.mem_append_right _ (List.mem_singleton.2 rfl),by omega,rfl⟩
   ·rw [Nat.max_eq_left (by omega)]
    rcases h2 with h2|⟨t,ht,h3,h4⟩
    ·exact .inl h2
    ·exact .inr ⟨t,List.mem_append_left _ ht,h3,h4⟩
def mixL (a b:List Nat) (k:Nat):List Nat:=b.take k++a.drop k
theorem mix_zero (a b:List Nat):mixL a b 0=a:=rfl
theorem mix_all {a b:List Nat} (h:a.length=b.length):mixL a b b.length=b:=by
 unfold mixL;rw [List.take_of_length_le (Nat.le_refl _),List.drop_eq_nil_of_le (by omega),List.append_nil]
theorem mix_get {a b:List Nat} {k:Nat} (ha:k<a.length) (hb:k≤b.length):(mixL a b k)[k]?=some a[k]:=by
 unfold mixL;rw [List.getElem?_append_right (by rw [List.length_take];omega),List.length_take,Nat.min_eq_left hb,Nat.sub_self,List.getElem?_drop,Nat.add_zero,List.getElem?_eq_getElem ha]
theorem mix_set {a b:List Nat} {k:Nat} (ha:k<a.length) (hb:k<b.length):(mixL a b k).set k b[k]=mixL a b (k+1):=by
 unfold mixL;rw [List.set_append_right _ _ (by rw [List.length_take];omega),List.length_take,Nat.min_eq_left (by omega),Nat.sub_self,List.drop_eq_getElem_cons ha,List.set_cons_zero,List.take_succ_eq_append_getElem hb,List.append_assoc];rfl
def natC (l:List Nat):List Value:=l.map fun n:Nat=>Value.int .i64 (n:Int)
theorem natC_ints (l:List Nat):natC l=(l.map fun n:Nat=>(n:Int)).map (Value.int .i64):=by
 unfold natC;rw [List.map_map];rfl
theorem natC_set (l:List Nat) (k n:Nat):natC (l.set k n)=(natC l).set k (.int .i64 (n:Int)):=by
 unfold natC;rw [List.map_set]
theorem natC_get (l:List Nat) (k:Nat):(natC l)[k]?=l[k]?.map fun n:Nat=>Value.int .i64 (n:Int):=by
 unfold natC;rw [List.getElem?_map]
theorem greatest_any (w:World) (v:Nat) (td:Option Addr) (n c:Nat) (l:List TV) (hl:l.length=n) (hmax:n≤1000000) (hv:v≤1000) (hp:TAt w td l) (hm:∀ x∈l,mayB x.1 v=true) :
  Calls Tryz.prog 47 #[.agg #[.int .i64 (v:Int),.slice td n c]] w (RetJ ((gl v l).map fun n:Nat=>(n:Int)) w):=by
 have hP:=Rw.new w 31 [.int .i64 (v:Int),.slice td n c];have hb:=(Below.refl w.heap.size w).alloc (Nat.le_refl _) (.cells #[.int .i64 (v:Int),.slice td n c] 31);have hmk:=pm_make_ints v (by omega) (w.alloc (.cells #[.int .i64 (v:Int),.slice td n c] 31));have hR:=Rw.new (w.alloc (.cells #[.int .i64 (v:Int),.slice td n c] 31)) 3 (List.replicate v (Value.int .i64 0));have hR0:List.replicate v (Value.int .i64 0)=natC (gl v []):=by simp [natC,gl]
 replace hP:=hP.alloc (.cells (List.replicate v (Value.int .i64 0)).toArray 3);replace hb:=hb.alloc hb.size (.cells (List.replicate v (Value.int .i64 0)).toArray 3);rw [World.size_alloc] at hR;have hR1:∀ W,Rw W (w.heap.size+1) 3 (List.replicate v (Value.int .i64 0))→Rw W (w.heap.size+1) 3 (natC (gl v [])):=fun W h=>by rw [← hR0];exact h
 replace hR:=hR1 _ hR;clear hR1;obtain ⟨p0,p1,-⟩:=hP.facts2;have hsz:∀ x∈l,x.1.size=v:=fun x hx=>by
  have h1:=hm x hx;unfold mayB at h1;simp only [Bool.and_eq_true,decide_eq_true_eq] at h1;omega
 have hgl:=gl_len v l hsz;have HS:=Lib.hid (And.intro hsz (And.intro hm (And.intro hgl hl)));clear hsz hm hgl hl hR0;go_enter Tryz.func47,Tryz.ntmps47;go_wp2
 go_loopw [14] (fun iv wr=>∃ i:Nat,iv=.int .i64 i∧i≤n∧Rw wr (w.heap.size+1) 3 (natC (gl v (l.take i)))∧Below w.heap.size w wr) (fun iv _=>n-(RowKit.intOf iv).toNat)
 case atStart=>exact ⟨0,rfl,Nat.zero_le _,hR,hb⟩
 case round =>
  clear hR hb hP p0 p1 hmk;obtain ⟨i,rfl,hi,hR,hb⟩:=hrel
  by_cases hik:i<n
  ·have hil:i<l.length:=by have:=HS.out.2.2.2;omega
   obtain ⟨lb,lo,rfl,hlb,c0,c1,c2,c3⟩:=hp.below hb i hil;have hxs:=HS.out.1 _ (List.getElem_mem hil);have hxm:=HS.out.2.1 _ (List.getElem_mem hil);have hgn:gl v (l.take (i+1))=maxL (gl v (l.take i)) (l[i].1.data.toList.map UInt8.toNat):=by rw [List.take_succ_eq_append_getElem hil,gl_snoc]
   have hA:(gl v (l.take i)).length=v:=gl_len v _ fun t ht=>HS.out.1 t (List.mem_of_mem_take ht);have hB:(gl v (l.take (i+1))).length=v:=gl_len v _ fun t ht=>HS.out.1 t (List.mem_of_mem_take ht);generalize l[i]=x at *;obtain ⟨xt,xm,xs,xd⟩:=x;simp only at c0 c1 c2 c3 hxs hxm hgn;have hok:okM xt.data.toList=true:=by
    unfold mayB at hxm;rw [Bool.and_eq_true] at hxm;exact hxm.1
   obtain ⟨es,ts,hes,hts,hel,htl,het⟩:∃ (es:List Int) (ts:List Nat),(if okM xt.data.toList then expsM xt.data.toList else [])=es∧xt.data.toList.map UInt8.toNat=ts∧es.length=v∧ts.length=v∧es=ts.map (fun n:Nat=>(n:Int)):=by
    refine ⟨_,_,rfl,rfl,?_,?_,?_⟩
    ·rw [if_pos hok,expsM_length];exact hxs
    ·rw [List.length_map];exact hxs
    ·rw [if_pos hok,List.map_map];rfl
   rw [hts] at hgn;generalize gl v (l.take i)=A at *;generalize hBn:gl v (l.take (i+1))=B at *;have hbx:=(Below.refl wr.heap.size wr).alloc (Nat.le_refl _) (.cells #[.string xt,.bool xm,.string xs,.int .i64 xd] 58);have hex:=exps_new (wr.alloc (.cells #[.string xt,.bool xm,.string xs,.int .i64 xd] 58)) xt (by omega) es hes;clear hes hts hok hxm;subst het;go_wp2_with fail;refine hex.mono ?_;rintro e V ⟨ad,ec,rfl,hRI,hfr,hq⟩;rw [hel];replace hbx:=below_next hbx hq;have hbV:=below_next hb hbx;have hRV:=hR.below hbx hR.lt;have hgV:∀ b off,ad=some ⟨b,off,none⟩→b≠w.heap.size+1:=fun b off h=>by
    have h1:=hfr b off h;have h2:=hR.lt;rw [World.size_alloc] at h1;omega
   clear hex hfr hq hbx hR hb c0 c1 c2 c3;go_wp2
   go_loopw [22] (fun iv wr2=>∃ k:Nat,iv=.int .i64 k∧k≤v∧Rw wr2 (w.heap.size+1) 3 (natC (mixL A B k))∧RI wr2 ad (ts.map (fun n:Nat=>(n:Int)))∧Below w.heap.size w wr2) (fun iv _=>v-(RowKit.intOf iv).toNat)
   case atStart=>exact ⟨0,rfl,Nat.zero_le _,hRV,hRI,hbV⟩
   case round =>
    clear hRV hRI hbV;obtain ⟨k,rfl,hk,hR,hRI,hb⟩:=hrel
    by_cases hkv:k<v
    ·obtain ⟨rb,ro,rfl,hrl,hrc⟩:=hRI k (by rw [List.length_map];omega);have hgc:=hR.cell k;have hgf:=hR.frozen k;have hmx:(mixL A B k).set k B[k]=mixL A B (k+1):=mix_set (by omega) (by omega);rw [natC_get,mix_get (by omega) (by omega)] at hgc;simp only [Option.map_some,List.getElem_map] at hgc hrc;have hBk:B[k]'(by omega)=max (A[k]'(by omega)) (ts[k]'(by omega)):=by simp only [hgn,maxL,List.getElem_zipWith]
     have hnew:=hR.set_ k (.int .i64 ((B[k]'(by omega):Nat):Int));rw [← natC_set,hmx] at hnew;have hRI2:=hRI.far hgV k (.int .i64 ((B[k]'(by omega):Nat):Int));have hb2:=hb.setCell (p:=⟨w.heap.size+1,k,none⟩) (by show w.heap.size≤w.heap.size+1;omega) (.int .i64 ((B[k]'(by omega):Nat):Int));have hcast:((B[k]'(by omega):Nat):Int)=max ((A[k]'(by omega):Nat):Int) ((ts[k]'(by omega):Nat):Int):=by rw [hBk];omega
     rw [hcast] at hnew hRI2 hb2;generalize ((A[k]'(by omega):Nat):Int)=ak at *;generalize ((ts[k]'(by omega):Nat):Int)=tk at *;clear hmx hR hRI hb hcast hBk;go_wp2;exact ⟨⟨k+1,rfl,hkv,hnew,hRI2,hb2⟩,by simp [RowKit.intOf];omega⟩
    ·obtain rfl:k=v:=by omega
     have hmi:=mix_all (a:=A) (b:=B) (by omega);rw [hB] at hmi;rw [hmi] at hR;clear hRI hmi;go_wp2;exact ⟨⟨i+1,rfl,hik,by rw [hBn];exact hR,hb⟩,by simp [RowKit.intOf];omega⟩
  ·obtain rfl:i=n:=by omega
   rw [List.take_of_length_le (by have:=HS.out.2.2.2;omega),natC_ints] at hR;have hRI:=RI.of_rw (pre:=[]) (post:=[]) (off:=0) (ns:=(gl v l).map fun n:Nat=>(n:Int)) (by rw [List.append_nil,List.nil_append];exact hR) rfl;have hll:((gl v l).map fun n:Nat=>(n:Int)).length=v:=by rw [List.length_map];exact HS.out.2.2.1
   have HE:=Lib.hid (And.intro hRI hll);clear hR hRI hll;go_wp2;go_ret;exact ⟨_,_,by rw [HE.out.2];rfl,HE.out.1,(fun b off h=>by simp only [Option.some.injEq,Addr.mk.injEq] at h;omega),hb⟩
theorem okE_zip {a b:List UInt8}:okE (zipF addF a b)=true↔∀ k (ha:k<a.length) (hb:k<b.length),a[k].toNat+b[k].toNat≤127:=by
 unfold okE zipF;rw [List.all_eq_true]
 constructor
 ·intro h k ha hb;have h1:=h _ (List.getElem_mem (l:=List.zipWith (fun x y=>addF x.toNat y.toNat) a b) (n:=k) (by rw [List.length_zipWith];omega));rw [List.getElem_zipWith] at h1;unfold addF at h1;simp only [decide_eq_true_eq] at h1;omega
 ·intro h z hz;obtain ⟨k,hk,rfl⟩:=List.getElem_of_mem hz;rw [List.length_zipWith] at hk;rw [List.getElem_zipWith];have h1:=h k (by omega) (by omega);unfold addF;simp only [decide_eq_true_eq];omega
def okAll (p q:List TV):Prop:=∀ x∈p,∀ y∈q,okE (zipF addF y.1.data.toList x.1.data.toList)=true
theorem okAll_comm {p q:List TV} (h:okAll p q):okAll q p:=fun x hx y hy=>by
 have h1:=okE_zip.1 (h y hy x hx);refine okE_zip.2 fun k ha hb=>?_;have h2:=h1 k hb ha;omega
def topB (v:Nat) (l:List TV):ByteArray:=⟨((gl v l).map UInt8.ofNat).toArray⟩
theorem may_parts {s:ByteArray} {v:Nat} (h:mayB s (v:Int)=true):s.size=v∧okM s.data.toList=true:=by
 unfold mayB at h;rw [Bool.and_eq_true,decide_eq_true_eq] at h;exact ⟨by omega,h.1⟩
theorem gl_le (v:Nat) (l:List TV) (h:∀ t∈l,mayB t.1 (v:Int)=true):(gl v l).length=v∧∀ k (hk:k<(gl v l).length),(gl v l)[k]≤127:=by
 have hs:∀ t∈l,t.1.size=v:=fun t ht=>(may_parts (h t ht)).1;refine ⟨gl_len v l hs,fun k hk=>?_⟩
 rcases (gl_spec v l hs k hk).2 with h1|⟨t,ht,hk2,h1⟩
 ·omega
 ·have h2:=okM_get (may_parts (h t ht)).2 (k:=k) hk2;omega
theorem topB_get (v:Nat) (l:List TV) (h:∀ t∈l,mayB t.1 (v:Int)=true):(topB v l).data.toList.length=v∧∀ k (hk:k<(topB v l).data.toList.length) (hk2:k<(gl v l).length),((topB v l).data.toList[k]).toNat=(gl v l)[k]:=by
 obtain ⟨h1,h2⟩:=gl_le v l h;refine ⟨by show ((gl v l).map UInt8.ofNat).length=v;rw [List.length_map];exact h1,fun k hk hk2=>?_⟩;have e:(topB v l).data.toList[k]=UInt8.ofNat (gl v l)[k]:=by
  show (((gl v l).map UInt8.ofNat).toArray.toList)[k]=_;exact List.getElem_map _
 rw [e];exact ofNat_toNat' (by have:=h2 k hk2;omega)
theorem top_ok {v:Nat} {p q:List TV} (hp:∀ t∈p,mayB t.1 (v:Int)=true) (hq:∀ t∈q,mayB t.1 (v:Int)=true):okE (zipF addF (topB v p).data.toList (topB v q).data.toList)=true↔okAll p q:=by
 obtain ⟨lp,gp⟩:=topB_get v p hp;obtain ⟨lq,gq⟩:=topB_get v q hq;obtain ⟨np,bp⟩:=gl_le v p hp;obtain ⟨nq,bq⟩:=gl_le v q hq;have sp:∀ t∈p,t.1.size=v:=fun t ht=>(may_parts (hp t ht)).1;have sq:∀ t∈q,t.1.size=v:=fun t ht=>(may_parts (hq t ht)).1;rw [okE_zip]
 constructor
 ·intro h x hx y hy;refine okE_zip.2 fun k ha hb=>?_;have hkv:k<v:=by have h1:=sp x hx;have h2:x.1.data.toList.length=x.1.size:=rfl;omega
  have h1:=h k (by omega) (by omega);rw [gp k (by omega) (by omega),gq k (by omega) (by omega)] at h1;have h2:=(gl_spec v p sp k (by omega)).1 x hx hb;have h3:=(gl_spec v q sq k (by omega)).1 y hy ha;omega
 ·intro h k ha hb;rw [gp k ha (by omega),gq k hb (by omega)];have b1:=bp k (by omega);have b2:=bq k (by omega)
  rcases (gl_spec v p sp k (by omega)).2 with h1|⟨x,hx,hk1,h1⟩
  ·omega
  ·rcases (gl_spec v q sq k (by omega)).2 with h2|⟨y,hy,hk2,h2⟩
   ·omega
   ·have h3:=okE_zip.1 (h x hx y hy) k hk2 hk1;omega
theorem top_ofS (v:Nat) (l:List TV) (h:∀ t∈l,mayB t.1 (v:Int)=true):ofS ((gl v l).map fun n:Nat=>(n:Int))=topB v l∧ofE ((gl v l).map fun n:Nat=>(n:Int))=0:=by
 have hk:okE ((gl v l).map fun n:Nat=>(n:Int))=true:=by
  unfold okE;rw [List.all_eq_true];intro z hz;obtain ⟨n,hn,rfl⟩:=List.mem_map.1 hz;obtain ⟨k,hk,rfl⟩:=List.getElem_of_mem hn
  have:=(gl_le v l h).2 k hk
  simp only [decide_eq_true_eq];omega
 refine ⟨?_,by unfold ofE;rw [hk];rfl⟩;unfold ofS;rw [hk,if_pos rfl];unfold bytesE topB;rw [List.map_map];rfl
theorem zip_addL:∀ (a b:List UInt8),bytesE (zipF addF a b)=addL a b
 | [],b=>by cases b <;> rfl
 | x::a,[]=>rfl
 | x::a,y::b=>by
  show UInt8.ofNat (addF x.toNat y.toNat).toNat::bytesE (zipF addF a b)=_;rw [zip_addL a b];rfl
theorem tog_addL {a b:ByteArray} {v:Nat} (ha:mayB a (v:Int)=true) (hb:mayB b (v:Int)=true) (h:okE (zipF addF a.data.toList b.data.toList)=true):(togS addF a b).data.toList=addL a.data.toList b.data.toList∧togE addF a b=0:=by
 obtain ⟨a1,a2⟩:=may_parts ha;obtain ⟨b1,b2⟩:=may_parts hb;unfold togS togE;rw [a2,b2,decide_eq_true (show a.size=b.size by omega)];simp only [Bool.and_self,if_true];unfold ofS ofE;rw [h,if_pos rfl,if_pos rfl];exact ⟨by show (bytesE _).toArray.toList=_;rw [zip_addL],rfl⟩
theorem mul_row {x:TV} {q:List TV} {v:Nat} (hx:mayB x.1 (v:Int)=true) (hq:∀ y∈q,mayB y.1 (v:Int)=true) (h:∀ y∈q,okE (zipF addF y.1.data.toList x.1.data.toList)=true):(q.map (mulTV x)).map tdv=scaleT mulM (tdv x) (q.map tdv):=by
 unfold scaleT;rw [List.map_map,List.map_map];refine List.map_congr_left fun y hy=>?_;show tdv (mulTV x y)=(mulM x.1.data.toList y.1.data.toList,nvl x.2*nvl y.2);unfold mulTV tdv;simp only;rw [(tog_addL (hq y hy) hx (h y hy)).1,nvl_canon,Dyadic.mul_comm];rfl
theorem top_any (w:World) (v:Nat) (td:Option Addr) (n c:Nat) (l:List TV) (hl:l.length=n) (hmax:n≤1000000) (hv:v≤1000) (hp:TAt w td l) (hm:∀ x∈l,mayB x.1 (v:Int)=true) :
  Calls Tryz.prog 79 #[.agg #[.int .i64 (v:Int),.slice td n c]] w (Ret (.string (topB v l)) w):=by
 have hP:=Rw.new w 31 [.int .i64 (v:Int),.slice td n c];have hb:=(Below.refl w.heap.size w).alloc (Nat.le_refl _) (.cells #[.int .i64 (v:Int),.slice td n c] 31);have hg:=greatest_any (w.alloc (.cells #[.int .i64 (v:Int),.slice td n c] 31)) v td n c l hl hmax hv (hp.alloc _) hm;obtain ⟨o1,o2⟩:=top_ofS v l hm;have hgl:((gl v l).map fun n:Nat=>(n:Int)).length≤1000:=by rw [List.length_map,(gl_le v l hm).1];exact hv
 generalize topB v l=tb at *;generalize (gl v l).map (fun n:Nat=>(n:Int))=ns at *;obtain ⟨m,hm2⟩:∃ m,ns.length=m:=⟨_,rfl⟩;have HO:=Lib.hid (And.intro o1 (And.intro o2 hm2));rw [hm2] at hgl;unfold RetJ at hg;rw [hm2] at hg;clear o1 o2 hm hp hm2 hl;go_enter Tryz.func79,Tryz.ntmps79;go_wp2_with fail;refine hg.mono ?_;rintro e W1 ⟨ad,c1,rfl,hRI,-,hq⟩;replace hb:=below_next hb hq;have hof:=pm_of_any W1 ad ns m c1 HO.out.2.2 (by omega) hRI tb 0 HO.out.1 HO.out.2.1;clear hg hq hRI;go_wp2_with fail;refine hof.mono ?_;rintro e W2 ⟨rfl,hq⟩;replace hb:=below_next hb hq;clear hof hq;go_wp2;go_ret;exact ⟨rfl,hb⟩
theorem times1_row (W:World) (k P v:Nat) (qd:Option Addr) (n qc:Nat) (q:List TV) (hn:q.length=n) (hmax:n≤5000) (hq:TAt W qd q) (hP:W.cell? ⟨P,1,none⟩=some (.slice qd n qc)) (hv:v≤1000) (x:TV)
  (hx:okN x.2∧mayB x.1 (v:Int)=true) (hqo:∀ y∈q,okN y.2∧mayB y.1 (v:Int)=true) (hok:∀ y∈q,okE (zipF addF y.1.data.toList x.1.data.toList)=true) (hf:∀ y∈q,fitsN k (canonN (nvl y.2*nvl x.2))) :
  Calls Tryz.prog 80 (#[tagg x]++#[.pointer (some ⟨P,0,none⟩)]) W (fun e W'=>RowOut W W' k e (scaleT mulM (tdv x) (q.map tdv))):=by
 rw [show (#[tagg x]++#[.pointer (some ⟨P,0,none⟩)]:Array Value)=#[tagg x,.pointer (some ⟨P,0,none⟩)] from rfl];have hrow:=mul_row hx.2 (fun y hy=>(hqo y hy).2) hok;have hsx:x.1.size≤1000000:=by have:=(may_parts hx.2).1;omega
 have hb:=(Below.refl W.heap.size W).alloc (Nat.le_refl _) (.cells #[.string x.1,.bool x.2.1,.string x.2.2.1,.int .i64 x.2.2.2] 58);have hc:=multiplied_any (W.alloc (.cells #[.string x.1,.bool x.2.1,.string x.2.2.1,.int .i64 x.2.2.2] 58)) qd n qc q hn hmax (hq.below hb) x ⟨hx.1,hsx⟩ (fun y hy=>⟨(hqo y hy).1,by have:=(may_parts (hqo y hy).2).1;omega⟩);have hP2:=cell_keep hb hP;have hml:(q.map (mulTV x)).length=n:=by rw [List.length_map];exact hn
 have HF:=Lib.hid (And.intro hf (And.intro hrow hml));clear hf hrow hml hqo hok hq hP hn;obtain ⟨xt,xm,xs,xd⟩:=x;unfold tagg at hc ⊢;simp only at hc hb hP2 ⊢;go_enter Tryz.func80,Tryz.ntmps80;go_wp2_with fail;refine hc.mono ?_;rintro e W1 ⟨g,rfl,ht,hq⟩;replace hb:=below_next hb hq;clear hc hq hP2;go_wp2;go_ret;refine ⟨some ⟨g,0,none⟩,n,_,by rw [HF.out.2.2];rfl,by rw [HF.out.2.2];exact Nat.le_refl _,ht,HF.out.2.1,fun z hz=>?_,hb⟩;obtain ⟨y,hy,rfl⟩:=List.mem_map.1 hz;exact HF.out.1 y hy
def PolyErr (w w' : World) (e:Ending) (c:Int):Prop:=e=.returned (.tuple #[.agg #[.int .i64 0,.slice none 0 0],.int .i64 c])∧Below w.heap.size w w'
theorem Rw.far2 {w:World} {b g:Nat} {T:TypeId} {l:List Value} (h:Rw w b T l) (hb:b≠g) (i j:Nat) (u v:Value):Rw ((w.setCell ⟨g,i,none⟩ u).setCell ⟨g,j,none⟩ v) b T l:=(Rw.far h (p:=⟨g,i,none⟩) hb u).far (p:=⟨g,j,none⟩) hb v
theorem tog_err {a b:ByteArray} {v:Nat} (ha:mayB a (v:Int)=true) (hb:mayB b (v:Int)=true) (h:okE (zipF addF a.data.toList b.data.toList)=false):togE addF a b=3:=by
 obtain ⟨a1,a2⟩:=may_parts ha;obtain ⟨b1,b2⟩:=may_parts hb;unfold togE;rw [a2,b2,decide_eq_true (show a.size=b.size by omega)];simp only [Bool.and_self,if_true];unfold ofE;rw [h];rfl
theorem topB_may (v:Nat) (l:List TV) (h:∀ t∈l,mayB t.1 (v:Int)=true):mayB (topB v l) (v:Int)=true:=by
 obtain ⟨h1,h2⟩:=topB_get v l h;obtain ⟨g1,g2⟩:=gl_le v l h;unfold mayB;have e1:(topB v l).data.toList.all (fun b=>decide (b.toNat<128))=true:=by
  rw [List.all_eq_true];intro b hb;obtain ⟨k,hk,rfl⟩:=List.getElem_of_mem hb;rw [decide_eq_true_eq,h2 k hk (by omega)]
  have:=g2 k (by omega)
  omega
 have e2:(topB v l).size=v:=h1;rw [e1,e2];simp
theorem row_fits {k N:Nat} (hk:250≤k) (hN:N<256 ^ k) {x:TV} {q:List TV} (h:Fits N (scaleT mulM (tdv x) (q.map tdv))):∀ y∈q,fitsN k (canonN (nvl y.2*nvl x.2)):=by
 intro y hy;obtain ⟨z,h1,h2⟩:=h.mem (x:=(mulM (tdv x).1 (tdv y).1,(tdv x).2*(tdv y).2)) (List.mem_map_of_mem (f:=fun y:TD=>(mulM (tdv x).1 y.1,(tdv x).2*y.2)) (List.mem_map_of_mem hy));have e:nvl y.2*nvl x.2=unitD z:=by rw [Dyadic.mul_comm];exact h1
 exact fit_small e (by omega) hk
theorem may_td {x:TV} {v:Nat} (h:mayB x.1 (v:Int)=true):okM (tdv x).1=true∧(tdv x).1.length=v:=⟨(may_parts h).2,(may_parts h).1⟩
theorem gathered_prod {v:Nat} {p q:List TV} (hp:∀ x∈p,mayB x.1 (v:Int)=true) (hq:∀ y∈q,mayB y.1 (v:Int)=true) (rq:Rising (q.map tdv)):dropNought (halves (p.map fun x=>scaleT mulM (tdv x) (q.map tdv)))=polyOf (prodTD mulM (p.map tdv) (q.map tdv)):=by
 rw [halves_poly]
 ·congr 1
  rw [← prod_rows,List.map_map];rfl
 ·intro r hr;obtain ⟨x,hx,rfl⟩:=List.mem_map.1 hr;exact scale_rising (n:=v) (may_td (hp x hx)) (fun y hy=>by obtain ⟨z,hz,rfl⟩:=List.mem_map.1 hy;exact may_td (hq z hz)) rq
theorem row_may {x:TV} {q:List TV} {v:Nat} (hq:∀ y∈q,mayB y.1 (v:Int)=true):∀ z∈scaleT mulM (tdv x) (q.map tdv),z.1.length≤v:=by
 intro z hz;obtain ⟨u,hu,rfl⟩:=List.mem_map.1 hz;obtain ⟨y,hy,rfl⟩:=List.mem_map.1 hu;show (addL (tdv y).1 (tdv x).1).length≤v;have h1:∀ a b:List UInt8,(addL a b).length≤a.length:=by
  intro a
  induction a with
  | nil=>intro b;cases b <;> simp [addL]
  | cons c a ih=>intro b;cases b with
   | nil=>simp [addL]
   | cons d b=>simp [addL,ih b]
 have h2:=h1 (tdv y).1 (tdv x).1;have h3:=(may_td (hq y hy)).2;omega
theorem times_any (w:World) (k N v:Nat) (hk:250≤k) (hk2:k≤1000) (hv:v≤1000) (pd qd:Option Addr) (n m pc qc:Nat) (p q:List TV) (hn:p.length=n) (hm:q.length=m) (hpc:n≤pc) (hqc:m≤qc) (hn4:n≤4000) (hm4:m≤4000) (hnm:n*m≤4000) (hpt:TAt w pd p) (hqt:TAt w qd q)
  (hpo:∀ x∈p,okN x.2∧mayB x.1 (v:Int)=true) (hqo:∀ y∈q,okN y.2∧mayB y.1 (v:Int)=true) (rp:Rising (p.map tdv)) (rq:Rising (q.map tdv))
  (fp:∀ x∈p,Fits N (scaleT mulM (tdv x) (q.map tdv))) (fq:∀ y∈q,Fits N (scaleT mulM (tdv y) (p.map tdv))) (hN:4000*N<256 ^ k) :
  Calls Tryz.prog 53 #[.agg #[.int .i64 (v:Int),.slice pd n pc],.agg #[.int .i64 (v:Int),.slice qd m qc]] w
   (fun e w'=>(okAll p q∧PolyOut w w' e v ((polyOf (prodTD mulM (p.map tdv) (q.map tdv))).map canonT))∨(¬ okAll p q∧PolyErr w w' e 3)):=by
 have hmp:=fun x hx=>(hpo x hx).2;have hmq:=fun x hx=>(hqo x hx).2;have hP:=Rw.new w 31 [.int .i64 (v:Int),.slice pd n pc];have hb:=(Below.refl w.heap.size w).alloc (Nat.le_refl _) (.cells #[.int .i64 (v:Int),.slice pd n pc] 31);have hQ:=Rw.new (w.alloc (.cells #[.int .i64 (v:Int),.slice pd n pc] 31)) 31 [.int .i64 (v:Int),.slice qd m qc];simp only [World.size_alloc] at hQ;replace hP:=hP.alloc (.cells #[.int .i64 (v:Int),.slice qd m qc] 31);replace hb:=hb.alloc hb.size (.cells #[.int .i64 (v:Int),.slice qd m qc] 31);have hR:=Rw.new ((w.alloc (.cells #[.int .i64 (v:Int),.slice pd n pc] 31)).alloc (.cells #[.int .i64 (v:Int),.slice qd m qc] 31)) 31 [.int .i64 0,.slice none 0 0];simp only [World.size_alloc] at hR;replace hP:=hP.alloc (.cells #[.int .i64 0,.slice none 0 0] 31);replace hQ:=hQ.alloc (.cells #[.int .i64 0,.slice none 0 0] 31);replace hb:=hb.alloc hb.size (.cells #[.int .i64 0,.slice none 0 0] 31);have hbig:¬ (65536:Int)<(n:Int)*m:=by
  have:((n*m:Nat):Int)≤4000:=by omega
  rw [Int.natCast_mul] at this;omega
 have hw:IntKind.i64.wrap ((n:Int)*m)=(n:Int)*m:=by
  have h1:((n*m:Nat):Int)≤4000:=by omega
  have h2:(0:Int)≤((n*m:Nat):Int):=by omega
  rw [Int.natCast_mul] at h1 h2;rw [IntKind.wrap_i64];omega
 obtain ⟨p0,p1,-⟩:=hP.facts2;obtain ⟨q0,q1,-⟩:=hQ.facts2;generalize hRR:polyOf (prodTD mulM (p.map tdv) (q.map tdv))=R at *;go_enter Tryz.func53,Tryz.ntmps53;go_wp2_with fail;generalize ((w.alloc (.cells #[.int .i64 (v:Int),.slice pd n pc] 31)).alloc (.cells #[.int .i64 (v:Int),.slice qd m qc] 31)).alloc (.cells #[.int .i64 0,.slice none 0 0] 31)=W0 at *;have htp:∀ W,TAt W pd p→Calls Tryz.prog 79 #[.agg #[.int .i64 (v:Int),.slice pd n pc]] W (Ret (.string (topB v p)) W):=fun W h=>top_any W v pd n pc p hn (by omega) hv h hmp;have htq:∀ W,TAt W qd q→Calls Tryz.prog 79 #[.agg #[.int .i64 (v:Int),.slice qd m qc]] W (Ret (.string (topB v q)) W):=fun W h=>top_any W v qd m qc q hm (by omega) hv h hmq;have hmtp:=topB_may v p hmp;have hmtq:=topB_may v q hmq;have htok:=top_ok hmp hmq;generalize topB v p=tp at *;generalize topB v q=tq at *;have hsp:=(may_parts hmtp).1;have hsq:=(may_parts hmtq).1;have hterr:=tog_err hmtp hmtq;have htgood:=fun h=>(tog_addL hmtp hmtq h).2;obtain ⟨o,ho⟩:∃ o,togS addF tp tq=o:=⟨_,rfl⟩;obtain ⟨e0,he⟩:∃ e0,togE addF tp tq=e0:=⟨_,rfl⟩;clear p0 p1 q0 q1;refine region_segs (n:=10) #[false,false,false,false,false,false,false,false,false,false] (by kernel_rfl) (by kernel_rfl) (by kernel_rfl) ?_;intro fu hf
 refine ls 10 [0,1,2,3,4] 4 (fun L ac Wn=>∃ l0 l1 l2 l3:Bool,L=#[l0,l1,l2,l3,false,false,false,false,false,false]∧ac={tmps:=#[.agg #[.int .i64 ↑v,.slice pd n pc],.agg #[.int .i64 ↑v,.slice qd m qc],.pointer (some ⟨w.heap.size,0,none⟩),.pointer (some ⟨w.heap.size+1,0,none⟩),.pointer (some ⟨w.heap.size+1+1,0,none⟩),.int .i64 0,undef,undef,.pointer (some { block:=w.heap.size,off:=1 }),.slice pd n pc,.int .i64 ↑n,.pointer (some { block:=w.heap.size+1,off:=1 }),.slice qd m qc,.int .i64 ↑m,.int .i64 (↑n*↑m),.bool false,undef,undef,sel l0 (.agg #[.int .i64 ↑v,.slice pd n pc]) (undef),sel l1 (.string tp) (undef),sel l2 (.agg #[.int .i64 ↑v,.slice qd m qc]) (undef),sel l3 (.string tq) (undef),undef,undef,undef,undef,undef,undef,undef,undef,undef,undef,undef,undef,undef,undef,undef,undef,undef,undef,undef,undef,undef,undef,undef,undef],defers:=[] }∧Below (w.heap.size) w Wn∧(Rw Wn (w.heap.size) 31 [.int .i64 ↑v,.slice pd n pc])∧(Rw Wn (w.heap.size+1) 31 [.int .i64 ↑v,.slice qd m qc])∧(Rw Wn (w.heap.size+1+1) 31 [.int .i64 0,.slice none 0 0])) hf ?_ ?_ ?_ ?_
 ·exact ⟨false,false,false,false,by kernel_rfl,by kernel_rfl,hb.drew,hP.drew,hQ.drew,hR.drew⟩
 ·rintro L ac Wn ⟨l0,l1,l2,l3,rfl,_⟩
  kernel_rfl
 ·refine (seg_all (b:=4) [0,1,2,3] ?_:∀ j∈[0,1,2,3,4],j≠4→_);refine lc [] [1,3] ?_ ?_
  ·rintro L ac Wn ⟨l0,l1,l2,l3,rfl,hI⟩ rfl - ⟨rfl,rfl,-⟩ Kc hK;simp only [sel_f] at hI;obtain ⟨rfl,hb,hP,hQ,hR⟩:=hI;have q0:=(hP).cell 0;have f0:=(hP).frozen 0;have q1:=(hP).cell 1;have f1:=(hP).frozen 1;simp only [List.getElem?_cons_zero,List.getElem?_cons_succ] at q0 q1;refine ly (.agg #[.int .i64 ↑v,.slice pd n pc]) ?_;exact hK.out _ _ ⟨true,false,l2,false,by kernel_rfl,by kernel_rfl,hb,hP,hQ,hR⟩
  refine lc [0] [3] ?_ ?_
  ·rintro L ac Wn ⟨l0,l1,l2,l3,rfl,hI⟩ rfl ⟨rfl,-⟩ ⟨rfl,-⟩ Kc hK;simp only [sel_t,sel_f] at hI;obtain ⟨rfl,hb,hP,hQ,hR⟩:=hI;go_simp;go_fit (htp _ (hpt.below hb));rintro e V ⟨rfl,hq⟩;exact hK.out _ _ ⟨true,true,l2,false,by kernel_rfl,by kernel_rfl,(below_next hb hq),(hP.below hq (hP).lt),(hQ.below hq (hQ).lt),(hR.below hq (hR).lt)⟩
  refine lc [] [3] ?_ ?_
  ·rintro L ac Wn ⟨l0,l1,l2,l3,rfl,hI⟩ rfl - ⟨rfl,-⟩ Kc hK;simp only [sel_f] at hI;obtain ⟨rfl,hb,hP,hQ,hR⟩:=hI;have q0:=(hQ).cell 0;have f0:=(hQ).frozen 0;have q1:=(hQ).cell 1;have f1:=(hQ).frozen 1;simp only [List.getElem?_cons_zero,List.getElem?_cons_succ] at q0 q1;refine ly (.agg #[.int .i64 ↑v,.slice qd m qc]) ?_;exact hK.out _ _ ⟨l0,l1,true,false,by kernel_rfl,by kernel_rfl,hb,hP,hQ,hR⟩
  refine ln [0,1,2] [] ?_;rintro L ac Wn ⟨l0,l1,l2,l3,rfl,hI⟩ rfl ⟨rfl,rfl,rfl,-⟩ - Kc hK;simp only [sel_t,sel_f] at hI;obtain ⟨rfl,hb,hP,hQ,hR⟩:=hI;go_simp;go_fit (htq _ (hqt.below hb));rintro e V ⟨rfl,hq⟩;exact hK.out _ _ ⟨true,true,true,true,by kernel_rfl,by kernel_rfl,(below_next hb hq),(hP.below hq (hP).lt),(hQ.below hq (hQ).lt),(hR.below hq (hR).lt)⟩
 refine bo [0,1,2,3] ?_;rintro L ac Wn ⟨l0,l1,l2,l3,rfl,hI⟩ ⟨rfl,rfl,rfl,rfl,-⟩ Kc hK;simp only [sel_t] at hI;obtain ⟨rfl,hb,hP,hQ,hR⟩:=hI;go_simp;go_fit (pm_mul_any _ tp tq (by omega) (by omega) o e0 ho he);rintro e V ⟨rfl,hq⟩;replace hP:=hP.below hq (hP).lt;replace hQ:=hQ.below hq (hQ).lt;replace hR:=hR.below hq (hR).lt;replace hb:=(below_next hb hq);refine hK.out _ _ (fun fu hf=>?_);clear hK Kc
 refine ls 10 [5,6,7,8,9] 9 (fun L ac Wn=>∃ l5 l6 l7 l8:Bool,L=#[true,true,true,true,true,l5,l6,l7,l8,false]∧ac={tmps:=#[.agg #[.int .i64 ↑v,.slice pd n pc],.agg #[.int .i64 ↑v,.slice qd m qc],.pointer (some ⟨w.heap.size,0,none⟩),.pointer (some ⟨w.heap.size+1,0,none⟩),.pointer (some ⟨w.heap.size+1+1,0,none⟩),.int .i64 0,sel l8 (.string o) (undef),undef,.pointer (some { block:=w.heap.size,off:=1 }),.slice pd n pc,.int .i64 ↑n,.pointer (some { block:=w.heap.size+1,off:=1 }),.slice qd m qc,.int .i64 ↑m,.int .i64 (↑n*↑m),.bool false,undef,sel l5 (.tuple #[.string o,.int .i64 e0]) (undef),.agg #[.int .i64 ↑v,.slice pd n pc],.string tp,.agg #[.int .i64 ↑v,.slice qd m qc],.string tq,.tuple #[.string o,.int .i64 e0],sel l6 (.string o) (undef),sel l7 (.int .i64 e0) (undef),undef,undef,undef,undef,undef,undef,undef,undef,undef,undef,undef,undef,undef,undef,undef,undef,undef,undef,undef,undef,undef],defers:=[] }∧Below (w.heap.size) w Wn∧(Rw Wn (w.heap.size) 31 [.int .i64 ↑v,.slice pd n pc])∧(Rw Wn (w.heap.size+1) 31 [.int .i64 ↑v,.slice qd m qc])∧(Rw Wn (w.heap.size+1+1) 31 [.int .i64 0,.slice none 0 0])) hf ?_ ?_ ?_ ?_
 ·exact ⟨false,false,false,false,by kernel_rfl,by kernel_rfl,hb,hP,hQ,hR⟩
 ·rintro L ac Wn ⟨l5,l6,l7,l8,rfl,_⟩
  kernel_rfl
 ·refine (seg_all (b:=9) [5,6,7,8] ?_:∀ j∈[5,6,7,8,9],j≠9→_);refine lc [] [6,7,8] ?_ ?_
  ·rintro L ac Wn ⟨l5,l6,l7,l8,rfl,hI⟩ rfl - ⟨rfl,rfl,rfl,-⟩ Kc hK;simp only [sel_f] at hI;obtain ⟨rfl,hb,hP,hQ,hR⟩:=hI;refine ly (.tuple #[.string o,.int .i64 e0]) ?_;exact hK.out _ _ ⟨true,false,false,false,by kernel_rfl,by kernel_rfl,hb,hP,hQ,hR⟩
  refine lc [5] [8] ?_ ?_
  ·rintro L ac Wn ⟨l5,l6,l7,l8,rfl,hI⟩ rfl ⟨rfl,-⟩ ⟨rfl,-⟩ Kc hK;simp only [sel_t,sel_f] at hI;obtain ⟨rfl,hb,hP,hQ,hR⟩:=hI;refine ly (.string o) ?_;exact hK.out _ _ ⟨true,true,l7,false,by kernel_rfl,by kernel_rfl,hb,hP,hQ,hR⟩
  refine lc [5] [] ?_ ?_
  ·rintro L ac Wn ⟨l5,l6,l7,l8,rfl,hI⟩ rfl ⟨rfl,-⟩ - Kc hK;simp only [sel_t,sel_f] at hI;obtain ⟨rfl,hb,hP,hQ,hR⟩:=hI;refine ly (.int .i64 e0) ?_;exact hK.out _ _ ⟨true,l6,true,l8,by kernel_rfl,by kernel_rfl,hb,hP,hQ,hR⟩
  refine ln [5,6] [] ?_;rintro L ac Wn ⟨l5,l6,l7,l8,rfl,hI⟩ rfl ⟨rfl,rfl,-⟩ - Kc hK;simp only [sel_t,sel_f] at hI;obtain ⟨rfl,hb,hP,hQ,hR⟩:=hI;refine ly (.string o) ?_;exact hK.out _ _ ⟨true,true,l7,true,by kernel_rfl,by kernel_rfl,hb,hP,hQ,hR⟩
 refine bo [5,6,7,8] ?_;rintro L ac Wn ⟨l5,l6,l7,l8,rfl,hI⟩ ⟨rfl,rfl,rfl,rfl,-⟩ Kc hK;simp only [sel_t] at hI;obtain ⟨rfl,hb,hP,hQ,hR⟩:=hI;refine ly (.int .i64 e0) ?_;refine hK.out _ _ (fun fu hf=>wpAnyH_done (by kernel_rfl) ?_ _);clear hK Kc hf
 skip
 cases hoke:okE (zipF addF tp.data.toList tq.data.toList) with
 | false =>
  have e1:=hterr hoke;rw [he] at e1;subst e1;have hno:¬ okAll p q:=fun h=>by
   have:=htok.2 h
   rw [hoke] at this
   cases this
  obtain ⟨r0,r1,r2,r3⟩:=hR.facts2;clear hterr htgood htok hoke ho he;go_wp2;exact ret_poly rfl rfl rfl (hR.set2 _ _) (.inr ⟨hno,rfl,pbelow_set2 hb (by omega) _ _ _ _⟩)
 | true =>
  have e1:=htgood hoke;rw [he] at e1;subst e1;have hyes:=htok.1 hoke;clear hterr htgood htok hoke ho he htp htq
  by_cases hsw:m<n
  ·have hsw2:(m:Int)<n:=by omega
   have f0:=hP.facts2;have f1:=hQ.facts2;obtain ⟨p0,p1,p2,p3⟩:=f0;obtain ⟨q0,q1,q2,q3⟩:=f1;have hb6:=pbelow_set2 (pbelow_set2 hb (b:=w.heap.size) (by omega) 0 1 (.int .i64 (v:Int)) (.slice qd m qc)) (b:=w.heap.size+1) (by omega) 0 1 (.int .i64 (v:Int)) (.slice pd n pc);have hQ6:=(hQ.far2 (g:=w.heap.size) (by omega) 0 1 (.int .i64 (v:Int)) (.slice qd m qc)).set2 (.int .i64 (v:Int)) (.slice pd n pc);have hR6:=(hR.far2 (g:=w.heap.size) (by omega) 0 1 (.int .i64 (v:Int)) (.slice qd m qc)).far2 (g:=w.heap.size+1) (by omega) 0 1 (.int .i64 (v:Int)) (.slice pd n pc);have hP6:=(hP.set2 (.int .i64 (v:Int)) (.slice qd m qc)).far2 (g:=w.heap.size+1) (by omega) 0 1 (.int .i64 (v:Int)) (.slice pd n pc);clear hP hQ hR hb;have hcall:=gatheredT_any k N n hk (by omega) (togC k (by omega)) 80 #[.pointer (some ⟨w.heap.size+1,0,none⟩)] (fun _ _=>by kernel_rfl) (fun x=>scaleT mulM (tdv x) (p.map tdv)) ((((Wn.setCell ⟨w.heap.size,0,none⟩ (.int .i64 (v:Int))).setCell ⟨w.heap.size,1,none⟩ (.slice qd m qc)).setCell ⟨w.heap.size+1,0,none⟩ (.int .i64 (v:Int))).setCell ⟨w.heap.size+1,1,none⟩ (.slice pd n pc)) v qd m qc q hm hqc (by omega)
    (Nat.lt_of_le_of_lt (Nat.mul_le_mul_right _ hm4) hN) (by rw [Nat.mul_comm];exact hnm) (hqt.below hb6) (fun x hx=>⟨fq x hx,by simp [scaleT,hn]⟩) (fun x hx y hy=>by have:=row_may hmp y hy;omega)
    (fun W hq' x hx=>times1_row W k (w.heap.size+1) v pd n pc p hn (by omega) (hpt.below (below_next hb6 hq')) (cell_keep hq' (hQ6.cell 1)) hv x (hqo x hx) hpo (fun y hy=>okAll_comm hyes x hx y hy) (row_fits hk (by omega) (fq x hx)))
   rw [gathered_prod hmq hmp rp,poly_mul_comm mulM (fun _ _ _ _=>mulM_comm _ _),hRR] at hcall;go_wp2_with fail;refine hcall.mono ?_;rintro e W5 ⟨od,oc,rfl,hoc,hot,hnew,hq5⟩;have hRlt:=hR6.lt;replace hR6:=hR6.below hq5 hR6.lt;replace hb6:=below_next hb6 hq5;obtain ⟨r0,r1,r2,r3⟩:=hR6.facts2;clear hcall hq5 hP6 hQ6 p0 p1 q0 q1 p2 p3 q2 q3;go_wp2;exact ret_poly rfl rfl rfl (hR6.set2 _ _) (.inl ⟨hyes,od,oc,by rw [List.length_map];rfl,hoc,hot.far2 (r:=w.heap.size+1+1) (fun lb lo h=>by have:=hnew lb lo h;omega) _ _ _ _,fun lb lo h=>by have:=hnew lb lo h;omega,pbelow_set2 hb6 (by omega) _ _ _ _⟩)
  ·have hsw2:¬ (m:Int)<n:=by omega
   obtain ⟨p0,p1,-⟩:=hP.facts2;obtain ⟨q0,q1,-⟩:=hQ.facts2;have hcall:=gatheredT_any k N m hk (by omega) (togC k (by omega)) 80 #[.pointer (some ⟨w.heap.size+1,0,none⟩)] (fun _ _=>by kernel_rfl) (fun x=>scaleT mulM (tdv x) (q.map tdv)) Wn v pd n pc p hn hpc (by omega)
    (Nat.lt_of_le_of_lt (Nat.mul_le_mul_right _ hn4) hN) hnm (hpt.below hb) (fun x hx=>⟨fp x hx,by simp [scaleT,hm]⟩) (fun x hx y hy=>by have:=row_may hmq y hy;omega)
    (fun W hq' x hx=>times1_row W k (w.heap.size+1) v qd m qc q hm (by omega) (hqt.below (below_next hb hq')) (cell_keep hq' q1) hv x (hpo x hx) hqo (fun y hy=>hyes x hx y hy) (row_fits hk (by omega) (fp x hx)))
   rw [gathered_prod hmp hmq rq,hRR] at hcall;go_wp2_with fail;refine hcall.mono ?_;rintro e W5 ⟨od,oc,rfl,hoc,hot,hnew,hq5⟩;have hRlt:=hR.lt;replace hR:=hR.below hq5 hR.lt;replace hb:=below_next hb hq5;obtain ⟨r0,r1,r2,r3⟩:=hR.facts2;clear hcall hq5 hP hQ p0 p1 q0 q1;go_wp2;exact ret_poly rfl rfl rfl (hR.set2 _ _) (.inl ⟨hyes,od,oc,by rw [List.length_map];rfl,hoc,hot.far2 (r:=w.heap.size+1+1) (fun lb lo h=>by have:=hnew lb lo h;omega) _ _ _ _,fun lb lo h=>by have:=hnew lb lo h;omega,pbelow_set2 hb (by omega) _ _ _ _⟩)
theorem sum_any (w:World) (k N M:Nat) (hk:250≤k) (hk2:k≤5000) (ad:Option Addr) (n c:Nat) (v:Int) (t:List TV) (l:List PV) (hn:((v,t)::l).length=n) (hc:n≤c) (hmax:n≤5000) (hN:n*N<256 ^ k) (hM:n*M≤4000) (hp:PAt w ad ((v,t)::l))
  (hf:∀ x∈(v,t)::l,Fits N (x.2.map tdv)∧x.2.length≤M) (hr:∀ x∈(v,t)::l,Rising (x.2.map tdv)) (hs:∀ x∈(v,t)::l,∀ z∈x.2,fitsN k z.2∧z.1.size≤1000000) :
  Calls Tryz.prog 52 #[.slice ad n c] w (fun e w'=>PolyOut w w' e v ((polyOf ((((v,t)::l).map fun x=>x.2.map tdv).flatten)).map canonT)):=by
 have hR:=Rw.new w 31 [.int .i64 0,.slice none 0 0];have hb:=(Below.refl w.heap.size w).alloc (Nat.le_refl _) (.cells #[.int .i64 0,.slice none 0 0] 31);have hcall:=gatheredP_any k N M hk hk2 (togC k hk2) 77 #[] (fun _ _=>by kernel_rfl) (fun x=>x.2.map tdv) (w.alloc (.cells #[.int .i64 0,.slice none 0 0] 31)) v ad n c ((v,t)::l) hn hc hmax hN hM (hp.alloc _)
  (fun x hx=>⟨(hf x hx).1,by rw [List.length_map];exact (hf x hx).2⟩) (fun x hx y hy=>by obtain ⟨z,hz,rfl⟩:=List.mem_map.1 hy;exact (hs x hx z hz).2) (fun W _ x hx td tc ht htc=>sum1_row W k x td tc ht htc (fun z hz=>(hs x hx z hz).1))
 rw [halves_poly (fun r hr2=>by obtain ⟨x,hx,rfl⟩:=List.mem_map.1 hr2;exact hr x hx)] at hcall;obtain ⟨lb,lo,td,tc,rfl,hlb,c0,c1,-⟩:=(hp.alloc (.cells #[.int .i64 0,.slice none 0 0] 31)) 0 (by simp);simp only [List.getElem_cons_zero,Nat.zero_mul,Nat.add_zero] at c0 c1;have hn0:(0:Int)<(n:Int):=by
  rw [← hn];simp only [List.length_cons];omega
 generalize hRR:(polyOf ((((v,t)::l).map fun x=>x.2.map tdv).flatten)).map canonT=R at *;clear hf hr hs hp hM hN hn;go_enter Tryz.func52,Tryz.ntmps52;go_wp2_with fail;refine hcall.mono ?_;rintro e W1 ⟨od,oc,rfl,hoc,hot,hnew,hq⟩;have hRlt:=hR.lt;replace hR:=hR.below hq hR.lt;replace hb:=below_next hb hq;obtain ⟨r0,r1,r2,r3⟩:=hR.facts2;clear hcall hq c0 c1 hlb;go_wp2;exact ret_poly rfl rfl rfl (hR.set2 _ _) ⟨od,oc,rfl,hoc,hot.far2 (r:=w.heap.size) (fun lb lo h=>by have:=hnew lb lo h;omega) _ _ _ _,fun lb lo h=>by have:=hnew lb lo h;omega,pbelow_set2 hb (Nat.le_refl _) _ _ _ _⟩
theorem singles_flat (l:List TV):(l.map fun x=>[tdv x]).flatten=l.map tdv:=by
 induction l with
 | nil=>rfl
 | cons x l ih=>rw [List.map_cons,List.flatten_cons,ih];rfl
theorem infoI1:(Tryz.prog.info? 3).map (·.size)=some 1:=by kernel_rfl
theorem make_any (w:World) (k N:Nat) (hk:250≤k) (hk2:k≤5000) (v:Int) (ad:Option Addr) (n c:Nat) (l:List TV) (hn:l.length=n) (hc:n≤c) (hmax:n≤4000) (hN:n*N<256 ^ k) (hp:TAt w ad l) (hf:∀ x∈l,Fits N [tdv x]∧fitsN k x.2∧x.1.size≤1000000) :
  Calls Tryz.prog 10 #[.int .i64 v,.slice ad n c] w
   (fun e w'=>((0≤v∧v≤12)∧(∀ x∈l,mayB x.1 v=true)∧PolyOut w w' e v ((polyOf (l.map tdv)).map canonT))∨(¬ ((0≤v∧v≤12)∧(∀ x∈l,mayB x.1 v=true))∧PolyErr w w' e 1)):=by
 have hV:=Rw.new w 3 [.int .i64 v];have hb:=(Below.refl w.heap.size w).alloc (Nat.le_refl _) (.cells #[.int .i64 v] 3);have hR:=Rw.new (w.alloc (.cells #[.int .i64 v] 3)) 31 [.int .i64 0,.slice none 0 0];simp only [World.size_alloc] at hR;replace hV:=hV.alloc (.cells #[.int .i64 0,.slice none 0 0] 31);replace hb:=hb.alloc hb.size (.cells #[.int .i64 0,.slice none 0 0] 31);have hv0:=hV.cell 0;simp only [List.getElem?_cons_zero] at hv0;obtain ⟨r0,r1,r2,r3⟩:=hR.facts2;obtain ⟨q,hq⟩:∃ q,decide (0≤v∧v≤12)=q:=⟨_,rfl⟩;go_enter Tryz.func10,Tryz.ntmps10;go_wp2_with fail;generalize (w.alloc (.cells #[.int .i64 v] 3)).alloc (.cells #[.int .i64 0,.slice none 0 0] 31)=W0 at *;refine (isvars_any W0 v q hq).mono ?_;rintro e W1 ⟨rfl,rfl⟩
 cases q with
 | false =>
  have hno:¬ ((0≤v∧v≤12)∧(∀ x∈l,mayB x.1 v=true)):=fun h=>by
   have:=of_decide_eq_false hq
   exact this h.1
  clear hq hp hf;go_wp2;exact ret_poly rfl rfl rfl (hR.set2 _ _) (.inr ⟨hno,rfl,pbelow_set2 hb (by omega) _ _ _ _⟩)
 | true =>
  have hv12:0≤v∧v≤12:=of_decide_eq_true hq;have hcon:=containsT_any (fun x=>!mayB x.1 v) 36 #[.pointer (some ⟨w.heap.size,0,none⟩)] (fun _ _=>by kernel_rfl) W0 ad n c l hn (by omega) (hp.below hb)
   (fun W hq' x hx=>by
    rw [show (#[tagg x]++#[.pointer (some ⟨w.heap.size,0,none⟩)]:Array Value)=#[tagg x,.pointer (some ⟨w.heap.size,0,none⟩)] from rfl];exact make1_any W w.heap.size x v (by have:=(hf x hx).2.2;omega) (cell_keep hq' hv0) _ rfl)
  clear hq;obtain ⟨qa,hqa⟩:∃ qa,(l.any fun x=>!mayB x.1 v)=qa:=⟨_,rfl⟩;rw [hqa] at hcon;go_wp2_with fail;refine hcon.mono ?_;rintro e W1 ⟨rfl,hq1⟩;have hV1:=hV.below hq1 hV.lt;have hR1:=hR.below hq1 hR.lt;have hb1:=below_next hb hq1;have hv1:=hV1.cell 0;simp only [List.getElem?_cons_zero] at hv1;obtain ⟨s0,s1,s2,s3⟩:=hR1.facts2;clear hcon hq1 hV hR hb r0 r1 r2 r3 hv0
  cases qa with
  | true =>
   have hno:¬ ((0≤v∧v≤12)∧(∀ x∈l,mayB x.1 v=true)):=fun h=>by
    obtain ⟨x,hx,hx2⟩:=List.any_eq_true.1 hqa;rw [h.2 x hx] at hx2
    cases hx2
   clear hqa hp hf;go_wp2;exact ret_poly rfl rfl rfl (hR1.set2 _ _) (.inr ⟨hno,rfl,pbelow_set2 hb1 (by omega) _ _ _ _⟩)
  | false =>
   have hall:∀ x∈l,mayB x.1 v=true:=fun x hx=>by
    have:=List.any_eq_false.1 hqa x hx
    simpa using this
   have hn65:¬ (65536:Int)<(n:Int):=by omega
   have hcall:=gatheredT_any k N 1 hk hk2 (togC k hk2) 40 #[] (fun _ _=>by kernel_rfl) (fun x=>[tdv x]) W1 v ad n c l hn hc (by omega) hN (by omega) (hp.below hb1) (fun x hx=>⟨(hf x hx).1,by simp⟩)
    (fun x hx y hy=>by obtain rfl:=List.mem_singleton.1 hy;exact (hf x hx).2.2) (fun W _ x hx=>alone_row W k x (hf x hx).2.1)
   rw [halves_poly (fun r hr2=>by obtain ⟨x,hx,rfl⟩:=List.mem_map.1 hr2;exact List.pairwise_singleton _ _),singles_flat] at hcall;clear hf hp hqa;have HA:=Lib.hid hall;clear hall;go_wp2_with fail;refine hcall.mono ?_;rintro e W2 ⟨od,oc,rfl,hoc,hot,hnew,hq⟩;have hRlt:=hR1.lt;replace hR1:=hR1.below hq hR1.lt;replace hb1:=below_next hb1 hq;obtain ⟨t0,t1,t2,t3⟩:=hR1.facts2;clear hcall hq s0 s1 s2 s3 hV1 hv1;go_wp2;exact ret_poly rfl rfl rfl (hR1.set2 _ _) (.inl ⟨hv12,HA.out,od,oc,by rw [List.length_map];rfl,hoc,hot.far2 (r:=w.heap.size+1) (fun lb lo h=>by have:=hnew lb lo h;omega) _ _ _ _,fun lb lo h=>by have:=hnew lb lo h;omega,pbelow_set2 hb1 (by omega) _ _ _ _⟩)
open Go.RowKit Go.Shelf Go.Lib Go.Op
def gD (u:Nat) (z:Int):Dyadic:=.ofIntWithPrec z u
theorem gD_rat (u:Nat) (z:Int):(gD u z).toRat=(z:Rat)*2 ^ (-(u:Int)):=by
 unfold gD;rw [Dyadic.toRat_ofIntWithPrec_eq_mul_two_pow]
theorem gD_add (u:Nat) (a b:Int):gD u a+gD u b=gD u (a+b):=by
 rw [← Dyadic.toRat_inj,Dyadic.toRat_add,gD_rat,gD_rat,gD_rat,Rat.intCast_add]
 grind
theorem gD_mul (u v:Nat) (a b:Int):gD u a*gD v b=gD (u+v) (a*b):=by
 rw [← Dyadic.toRat_inj,Dyadic.toRat_mul,gD_rat,gD_rat,gD_rat,Rat.intCast_mul,show (-((u+v:Nat):Int))=-(u:Int)+-(v:Int) by omega,Rat.zpow_add (by decide)]
 grind
theorem gD_finer (u t:Nat) (z:Int):gD u z=gD (u+t) (z*((2 ^ t:Nat):Int)):=by
 have h1:gD t ((2 ^ t:Nat):Int)=1:=by
  rw [← Dyadic.toRat_inj,gD_rat];have e2:(((2 ^ t:Nat):Int):Rat)=2 ^ (t:Int):=by
   rw [Rat.zpow_natCast,Int.natCast_pow,Rat.intCast_pow];rfl
  rw [e2,← Rat.zpow_add (by decide),Int.add_right_neg];rfl
 rw [← gD_mul,h1,Dyadic.mul_one]
def GF (u:Nat):Nat→List TD→Prop
 | _,[]=>True
 | N,x::l=>∃ (z:Int) (M:Nat),x.2=gD u z∧z.natAbs+M≤N∧GF u M l
variable {u : Nat}
theorem GF.mono:∀ {l:List TD} {M N:Nat},GF u M l→M≤N→GF u N l
 | [],_,_,_,_=>trivial
 | _::_,_,_,⟨z,K,h1,h2,h3⟩,h=>⟨z,K,h1,by omega,h3⟩
theorem GF.app:∀ {a b:List TD} {M N:Nat},GF u M a→GF u N b→GF u (M+N) (a++b)
 | [],_,_,_,_,h=>h.mono (by omega)
 | x::a,b,M,N,⟨z,K,h1,h2,h3⟩,h=>⟨z,K+N,h1,by omega,GF.app h3 h⟩
theorem GF.mem:∀ {l:List TD} {N:Nat} {x:TD},GF u N l→x∈l→∃ z:Int,x.2=gD u z∧z.natAbs≤N
 | y::l,N,x,⟨z,K,h1,h2,h3⟩,hx=>by
  rcases List.mem_cons.1 hx with rfl|hx
  ·exact ⟨z,h1,by omega⟩
  ·obtain ⟨u,h4,h5⟩:=GF.mem h3 hx;exact ⟨u,h4,by omega⟩
theorem GF.merge:∀ {a b:List TD} {M N:Nat},GF u M a→GF u N b→GF u (M+N) (merge2 a b)
 | [],b,M,N,_,h=>by
  rw [merge2];exact h.mono (by omega)
 | x::a,[],M,N,h,_=>by
  rw [merge2];exact h.mono (by omega)
 | x::a,y::b,M,N,ha,hb=>by
  obtain ⟨z,K,h1,h2,h3⟩:=ha;obtain ⟨t,J,g1,g2,g3⟩:=hb;rw [merge2]
  split
  ·exact ⟨z,K+N,h1,by omega,GF.merge h3 ⟨t,J,g1,g2,g3⟩⟩
  ·split
   ·exact ⟨t,M+J,g1,by omega,GF.merge ⟨z,K,h1,h2,h3⟩ g3⟩
   ·refine ⟨z+t,K+J,?_,by omega,GF.merge h3 g3⟩;show x.2+y.2=_;rw [h1,g1,gD_add]
termination_by a b=>a.length+b.length
theorem GF.drop:∀ {l:List TD} {N:Nat},GF u N l→GF u N (dropNought l)
 | [],_,h=>h
 | x::l,N,⟨z,K,h1,h2,h3⟩=>by
  have h:=GF.drop h3;unfold dropNought at *;rw [List.filter_cons]
  split
  ·exact ⟨z,K,h1,h2,h⟩
  ·exact h.mono (by omega)
theorem GF.gath:∀ {l:List TD} {N:Nat},GF u N l→GF u N (gath l)
 | [],_,_=>trivial
 | x::l,N,⟨z,K,h1,h2,h3⟩=>by
  have h:GF u (z.natAbs+K) (merge2 [x] (Go.Proofs.YtemedphcafgolaaGreatDoor.gath l)):=GF.merge (M:=z.natAbs) ⟨z,0,h1,by omega,trivial⟩ (GF.gath h3);exact h.mono h2
theorem GF.poly {l:List TD} {N:Nat} (h:GF u N l):GF u N (polyOf l):=h.gath.drop
theorem GF.scale {v:Nat} {x:TD} {a:Int} (hx:x.2=gD u a):∀ {q:List TD} {B:Nat},GF v B q→GF (u+v) (a.natAbs*B) (scaleT mulM x q)
 | [],_,_=>trivial
 | y::q,B,⟨z,K,h1,h2,h3⟩=>by
  refine ⟨a*z,a.natAbs*K,?_,?_,GF.scale hx h3⟩
  ·show x.2*y.2=_;rw [hx,h1,gD_mul]
  ·rw [Int.natAbs_mul,← Nat.mul_add];exact Nat.mul_le_mul_left _ h2
theorem GF.prod {v:Nat} {q:List TD} {B:Nat} (hq:GF v B q):∀ {p:List TD} {A:Nat},GF u A p→GF (u+v) (A*B) (prodTD mulM p q)
 | [],_,_=>trivial
 | x::p,A,⟨z,K,h1,h2,h3⟩=>by
  have h:=GF.app (GF.scale h1 hq) (GF.prod hq h3);refine h.mono ?_;rw [← Nat.add_mul];exact Nat.mul_le_mul_right _ h2
theorem GF.fits:∀ {l:List TD} {N:Nat},u≤2000→GF u N l→Fits (N*2 ^ (2000-u)) l
 | [],_,_,_=>trivial
 | x::l,N,hu,⟨z,K,h1,h2,h3⟩=>by
  refine ⟨z*((2 ^ (2000-u):Nat):Int),K*2 ^ (2000-u),?_,?_,GF.fits hu h3⟩
  ·rw [h1,gD_finer u (2000-u),show u+(2000-u)=2000 by omega];rfl
  ·rw [Int.natAbs_mul,Int.natAbs_natCast,← Nat.add_mul];exact Nat.mul_le_mul_right _ h2
theorem gath_mem:∀ {l:List TD} {z:TD},z∈gath l→∃ y∈l,y.1=z.1
 | [],_,h=>absurd h List.not_mem_nil
 | x::l,z,h=>by
  rcases merge2_mem (a:=[x]) h with ⟨y,hy,e⟩|⟨y,hy,e⟩
  ·obtain rfl:=List.mem_singleton.1 hy;exact ⟨y,List.mem_cons_self,e⟩
  ·obtain ⟨t,ht,e2⟩:=gath_mem hy;exact ⟨t,List.mem_cons_of_mem _ ht,e2.trans e⟩
theorem polyOf_mem {l:List TD} {z:TD} (h:z∈polyOf l):∃ y∈l,y.1=z.1:=gath_mem (List.mem_filter.1 h).1
def Good (u A v:Nat) (p:List TV):Prop:=(∀ x∈p,mayB x.1 (v:Int)=true∧tform x)∧Rising (p.map tdv)∧NoNought (p.map tdv)∧GF u A (p.map tdv)
theorem good_canon {v A:Nat} {l:List TD} (h1:∀ x∈l,okM x.1=true∧x.1.length=v) (h2:GF u A l):Good u A v ((polyOf l).map canonT):=by
 obtain ⟨o1,o2,o3⟩:=out_may l;refine ⟨fun x hx=>⟨?_,o1 x hx⟩,o2,o3,?_⟩
 ·obtain ⟨z,hz,rfl⟩:=List.mem_map.1 hx;obtain ⟨y,hy,e⟩:=polyOf_mem hz;obtain ⟨a,b⟩:=h1 y hy;rw [e] at a b;unfold mayB canonT;have e1:(⟨z.1.toArray⟩:ByteArray).size=v:=by
   show z.1.toArray.size=v;simpa using b
  rw [e1];have e2:(⟨z.1.toArray⟩:ByteArray).data.toList=z.1:=rfl;rw [e2];simpa [okM] using a
 ·have e:((polyOf l).map canonT).map tdv=polyOf l:=by
   rw [List.map_map]
   conv=>rhs;rw [← List.map_id (polyOf l)]
   exact List.map_congr_left fun x _=>tdv_canon x
  rw [e];exact h2.poly
theorem prod_mem {p q:List TD} {z:TD} (h:z∈prodTD mulM p q):∃ x∈p,∃ y∈q,z.1=mulM x.1 y.1:=by
 induction p with
 | nil=>exact absurd h List.not_mem_nil
 | cons x p ih =>
  rcases List.mem_append.1 h with h|h
  ·obtain ⟨y,hy,rfl⟩:=List.mem_map.1 h;exact ⟨x,List.mem_cons_self,y,hy,rfl⟩
  ·obtain ⟨a,ha,b,hb,e⟩:=ih h;exact ⟨a,List.mem_cons_of_mem _ ha,b,hb,e⟩
theorem addL_ok:∀ {a b:List UInt8},okE (zipF addF a b)=true→okM (addL a b)=true
 | [],[],_=>rfl
 | [],_::_,_=>rfl
 | _::_,[],_=>rfl
 | x::a,y::b,h=>by
  have h1:(decide (0≤addF x.toNat y.toNat∧addF x.toNat y.toNat≤127) && okE (zipF addF a b))=true:=h;rw [Bool.and_eq_true,decide_eq_true_eq] at h1;have h2:=addL_ok h1.2;have h3:(UInt8.ofNat (x.toNat+y.toNat)).toNat<128:=by
   have h4:=h1.1.2;unfold addF at h4;rw [ofNat_toNat' (by omega)];omega
  show (decide ((UInt8.ofNat (x.toNat+y.toNat)).toNat<128) && okM (addL a b))=true;rw [h2,decide_eq_true h3];rfl
theorem addL_len:∀ {a b:List UInt8},a.length=b.length→(addL a b).length=a.length
 | [],[],_=>rfl
 | _::a,_::b,h=>by
  show (addL a b).length+1=a.length+1;rw [addL_len (by simpa using h)]
theorem good_prod {a A b B v:Nat} {p q:List TV} (hp:Good a A v p) (hq:Good b B v q) (h:okAll p q):Good (a+b) (A*B) v ((polyOf (prodTD mulM (p.map tdv) (q.map tdv))).map canonT):=by
 refine good_canon (fun z hz=>?_) (GF.prod hq.2.2.2 hp.2.2.2);obtain ⟨x,hx,y,hy,e⟩:=prod_mem hz;obtain ⟨x',hx',rfl⟩:=List.mem_map.1 hx;obtain ⟨y',hy',rfl⟩:=List.mem_map.1 hy;have h1:=h x' hx' y' hy';have l1:=(may_td (hp.1 x' hx').1).2;have l2:=(may_td (hq.1 y' hy').1).2;rw [e];show okM (addL (tdv y').1 (tdv x').1)=true∧(addL (tdv y').1 (tdv x').1).length=v;exact ⟨addL_ok h1,by rw [addL_len (by omega)];exact l2⟩
theorem Good.okN {u A v k:Nat} {p:List TV} (h:Good u A v p) (hk:250≤k) (hk2:k≤1000) (hu:u≤2000) (hA:A*2 ^ (2000-u)<256 ^ k):∀ x∈p,fitsN k x.2∧okN x.2:=by
 intro x hx;obtain ⟨z,h1,h2⟩:=(GF.fits hu h.2.2.2).mem (List.mem_map_of_mem (f:=tdv) hx);have h3:=fit_small (d:=nvl x.2) h1 (by omega) hk;have h4:=canon_of (h.1 x hx).2;have h5:canonN (nvl x.2)=x.2:=congrArg Prod.snd h4;rw [h5] at h3;refine ⟨h3,?_⟩;unfold Go.Proofs.YtemedphcafgolaaGreatDoor.okN;omega
end Go.Proofs.YtemedphcafgolaaGreatDoor
