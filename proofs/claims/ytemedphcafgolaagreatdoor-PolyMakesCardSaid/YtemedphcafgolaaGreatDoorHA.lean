/- Layer 1, laid together: YApp, Y15. -/
import Derived.Test.YtemedphcafgolaaGreatDoorHP
/- append onto a row of eight Ints that has room. -/
namespace Go.Proofs.YtemedphcafgolaaGreatDoor
set_option maxRecDepth 100000
set_option maxHeartbeats 3200000
open Go.RowKit Go.Shelf
theorem icells_append (l m:List IV):icells (l++m)=icells l++icells m:=by
 induction l with
 | nil=>rfl
 | cons x l ih=>simp [icells,ih]
def OwnI (w:World) (g:Nat) (vs:List IV):Prop:=∃ T L,Rw w g T L∧L.length=16∧vs.length≤8∧L.take (2*vs.length)=icells vs
section
variable {w w' : World} {g : Nat} {vs : List IV}
theorem OwnI.lt (h:OwnI w g vs):g<w.heap.size:=by obtain ⟨_,_,h,_⟩:=h;exact h.lt
theorem OwnI.alloc (h:OwnI w g vs) (o:Obj):OwnI (w.alloc o) g vs:=by obtain ⟨T,L,h,k⟩:=h;exact ⟨T,L,h.alloc o,k⟩
theorem OwnI.below (h:OwnI w g vs) (hq:Below w.heap.size w w'):OwnI w' g vs:=by obtain ⟨T,L,h,k⟩:=h;exact ⟨T,L,h.below hq h.lt,k⟩
theorem OwnI.drew (h:OwnI w g vs):OwnI w.drew g vs:=h
theorem OwnI.far (h:OwnI w g vs) {p:Addr} (hp:g≠p.block) (u:Value):OwnI (w.setCell p u) g vs:=by obtain ⟨T,L,h,k⟩:=h;exact ⟨T,L,h.far hp u,k⟩
theorem OwnI.fr {w:World} {g:Nat} {vs:List IV} (h:OwnI w g vs) (A k:Nat) (u:Value) (hp:g≠A:=by omega):OwnI (w.setCell ⟨A,k,none⟩ u) g vs:=h.far (p:=⟨A,k,none⟩) hp u
theorem OwnI.nil (h:OwnI w g vs):OwnI w g []:=by obtain ⟨T,L,h,h1,_,_⟩:=h;exact ⟨T,L,h,h1,Nat.zero_le _,by simp [icells]⟩
theorem OwnI.rows (h:OwnI w g vs):IAt w (some ⟨g,0,none⟩) vs:=by
 obtain ⟨T,L,h,h1,h2,h3⟩:=h;intro i hi;obtain ⟨k1,k2⟩:=icells_get vs i hi;have e:∀ j,j<2*vs.length→L[j]?=(icells vs)[j]?:=fun j hj=>by rw [← h3,List.getElem?_take_of_lt hj]
 refine ⟨g,0,rfl,h.lt,?_,?_⟩
 ·rw [Nat.zero_add,h.cell,e _ (by omega)];exact k1
 ·rw [Nat.zero_add,h.cell,e _ (by omega)];exact k2
end
theorem infoIz:(Tryz.prog.info? 24).map (fun i=>(i.zero,i.size,i.bytes))=some (some (.agg #[.bool false,.string ⟨#[]⟩]),2,24):=by kernel_rfl
theorem run_append_int (w:World) (ty:TypeId) (g:Nat) (vs:List IV) (n:Nat) (hn:vs.length=n) (h8:n<8) (h:OwnI w g vs) (a:Addr) (x:IV) (c:Nat) (hx:∀ j u,[.bool x.1,.string x.2][j]?=some u→w.cell? (a.add j)=some u) :
  ∃ w',(Builtin.append_ #[132,132] ty #[.slice (some ⟨g,0,none⟩) n 8,.slice (some a) 1 c]).run Tryz.prog w=.ok (.slice (some ⟨g,0,none⟩) (n+1) 8) w'∧OwnI w' g (vs++[x])∧w.grownBy w' (some g):=by
 subst hn;obtain ⟨i,hi,hz,hs,hb⟩:=info_parts infoIz;obtain ⟨T,L,hR,h1,h2,h3⟩:=h;have h1c:∀ u∈[Value.bool x.1,.string x.2],u.oneCell'=true:=by intro u hu;simp at hu;rcases hu with rfl|rfl <;> rfl
 have hroom:vs.length+1≤8:=h8;have hf:=run_firstCells_some (P:=Tryz.prog) w i.size 1 a 1 c [Value.bool x.1,.string x.2] (by simp [hs]) hx;have hst:=run_storeCells_at Tryz.prog g (vs.length*i.size) T [Value.bool x.1,.string x.2] 0 L.toArray w hR (by simp [hs];omega) h1c;simp only [Nat.add_zero] at hst;refine ⟨w.setRow g (L.take (vs.length*2)++[Value.bool x.1,.string x.2]++L.drop (vs.length*2+2)).toArray,?_,⟨T,L.take (vs.length*2)++[Value.bool x.1,.string x.2]++L.drop (vs.length*2+2),?_,?_,by simpa using hroom,?_⟩,?_⟩
 ·rw [hs] at hst;simp only [hs] at hf;simp [Builtin.append_,run_underlying Tryz.underlying132,sizeOf,typeInfo,hi,Builtin.lenOf,hroom,hs,hf,Addr.add_lit,hst]
 ·exact setRow_heap w g L.toArray _ T _ hR
 ·simp;omega
 ·rw [List.length_append,List.length_singleton,List.take_left' (by simp;omega),icells_append,← h3,Nat.mul_comm];rfl
 ·exact ⟨rfl,rfl,rfl,by simp,fun k _ hk=>setRow_other w g k _ (fun e=>hk (by rw [e]))⟩
theorem wpList_append_int {w:World} {ops:Array Oper} {rest:List Oper} {o:Oper} {a:Act} {Q:Exit→Act→World→Prop} (hgd:o.guard=none) (s y:Operand)
  (ho:o.op=.call { callee:=.builtin .append,args:=#[s,y],argTypes:=#[132,132] })
  (g:Nat) (vs:List IV) (n:Nat) (hs:a.eval s=.slice (some ⟨g,0,none⟩) n 8) (hn:vs.length=n) (h8:n<8) (h:OwnI w g vs) (b:Addr) (x:IV) (c:Nat) (hy:a.eval y=.slice (some b) 1 c)
  (hx:∀ j u,[.bool x.1,.string x.2][j]?=some u→w.cell? (b.add j)=some u)
  (hk:∀ w',OwnI w' g (vs++[x])→w.grownBy w' (some g)→wpList Tryz.prog ops Q rest (a.put o.dst (.slice (some ⟨g,0,none⟩) (n+1) 8)) w'):wpList Tryz.prog ops Q (o::rest) a w:=by
 refine wpList_plain hgd fun K hK=>?_;obtain ⟨w',hr,h2,h3⟩:=run_append_int w o.type g vs n hn h8 h b x c hx;unfold Oper.wp execOp;simp only [ho,resolve,invoke,builtin,Sem.run_bind,Sem.run_pure,Result.andThen_ok,List.map_toArray,List.map_cons,List.map_nil,hs,hy,hr];exact hK _ _ (hk w' h2 h3)
theorem step_append_int {w:World} {ops:Array Oper} {o:Oper} {a:Act} {Q:Exit→Act→World→Prop} {K:Act→World→Prop} (hw:Region.wanted o (yielded ops a.tmps)=true) (s y:Operand)
  (ho:o.op=.call { callee:=.builtin .append,args:=#[s,y],argTypes:=#[132,132] })
  (g:Nat) (vs:List IV) (n:Nat) (hs:a.eval s=.slice (some ⟨g,0,none⟩) n 8) (hn:vs.length=n) (h8:n<8) (h:OwnI w g vs) (b:Addr) (x:IV) (c:Nat) (hy:a.eval y=.slice (some b) 1 c)
  (hx:∀ j u,[.bool x.1,.string x.2][j]?=some u→w.cell? (b.add j)=some u)
  (hk:∀ w',OwnI w' g (vs++[x])→w.grownBy w' (some g)→K (a.put o.dst (.slice (some ⟨g,0,none⟩) (n+1) 8)) w') :
  if Region.wanted o (yielded ops a.tmps)=true then Oper.wp Tryz.prog o a w K Q else K (a.put o.dst undef) w:=by
 rw [if_pos hw];obtain ⟨w',hr,h2,h3⟩:=run_append_int w o.type g vs n hn h8 h b x c hx;unfold Oper.wp execOp;simp only [ho,resolve,invoke,builtin,Sem.run_bind,Sem.run_pure,Result.andThen_ok,List.map_toArray,List.map_cons,List.map_nil,hs,hy,hr];exact hk w' h2 h3
theorem one_int {w:World} {g:Nat} {x:IV} (h:IAt w (some ⟨g,0,none⟩) [x]):∀ j u,[.bool x.1,.string x.2][j]?=some u→w.cell? ((⟨g,0,none⟩:Addr).add j)=some u:=by
 intro j u hj;obtain ⟨lb,lo,e,_,h1,h2⟩:=h 0 (by simp);obtain ⟨rfl,rfl⟩:g=lb∧0=lo:=by simpa using e
 rw [addr_add0]
 match j with
 | 0=>simp at hj;subst hj;simpa using h1
 | 1=>simp at hj;subst hj;simpa using h2
 | j+2=>simp at hj
theorem sumI_all {l:List IV} {x:IV}:sumI (l++[x]) (l++[x]).length=sumI l l.length+wv x.1 x.2:=by
 unfold sumI;rw [List.take_length,List.take_length];simp
theorem low_all {l:List NV} (hs:∀ x∈l,-100000≤x.2.2∧x.2.2≤100000):∀ k,k≤l.length→(∀ i,(h:i<l.length)→i<k→num l[i].2.1≠0→lowF l k≤l[i].2.2)∧(lowF l k=maxI∨(-100000≤lowF l k∧lowF l k≤100000))
 | 0,_=>⟨fun i _ h=>by omega,Or.inl rfl⟩
 | k+1,hk=>by
  obtain ⟨h1,h2⟩:=low_all hs k (by omega);have hx:=hs l[k] (List.getElem_mem (by omega));have hw:=wv_abs l[k].1 l[k].2.1;rw [lowF_succ (show k<l.length by omega)]
  by_cases h0:wv l[k].1 l[k].2.1=0
  ·rw [if_pos h0];refine ⟨fun i hi hik hn=>?_,h2⟩
   by_cases hie:i=k
   ·subst hie;omega
   ·exact h1 i hi (by omega) hn
  ·rw [if_neg h0];refine ⟨fun i hi hik hn=>?_,?_⟩
   ·by_cases hie:i=k
    ·subst hie;omega
    ·have:=h1 i hi (by omega) hn
     omega
   ·unfold maxI at *;omega
theorem some_ne {a b:Nat} (h:a≠b):some a≠some b:=fun e=>h (by injection e)
def YAW (w wr:World) (q Q:Nat) (E:Int) (l:List NV) (k:Nat) (vs:List IV):Prop:=
 Dyadic.ofIntWithPrec (sumI vs vs.length) (-E)=sumD l k∧(sumI vs vs.length).natAbs≤k*256 ^ q∧(E=maxI→sumI vs vs.length=0)∧(∀ x∈vs,x.2.size≤40000)∧OwnI wr (Q+1) vs∧Nk wr w.heap.size false ⟨#[]⟩ 0∧Rw wr Q 96 [.int .i64 E]∧w.heap.size<Q∧Below w.heap.size w wr
theorem nv_none {z:Bool} {o:ByteArray} {E:Int} (h:nv z o E=0):wv z o=0:=by
 have h5:dsg (nv z o E)=0:=by rw [h];rfl
 rw [sgn_nv] at h5
 rcases sg_cases (wv z o) with ⟨h6,_⟩|⟨_,h7⟩|⟨_,h7⟩ <;> omega
theorem yaw_more {q:Nat} {E:Int} {l:List NV} {k:Nat} {vs:List IV} {z:Bool} {o:ByteArray} (hk:k<l.length) (h1:Dyadic.ofIntWithPrec (sumI vs vs.length) (-E)=sumD l k) (h2:(sumI vs vs.length).natAbs≤k*256 ^ q) (h3:E=maxI→sumI vs vs.length=0)
  (hv:nv z o E=nvl l[k]) (ho:o.size≤q) (h4:E=maxI→nvl l[k]=0) :
  Dyadic.ofIntWithPrec (sumI (vs++[(z,o)]) (vs++[(z,o)]).length) (-E)=sumD l (k+1)∧(sumI (vs++[(z,o)]) (vs++[(z,o)]).length).natAbs≤(k+1)*256 ^ q∧(E=maxI→sumI (vs++[(z,o)]) (vs++[(z,o)]).length=0):=by
 rw [sumI_all];refine ⟨?_,?_,fun h=>?_⟩
 ·rw [← of_add,h1,sumD_succ hk,← hv];rfl
 ·have h5:=wv_abs z o;have h6:num o<256 ^ q:=lt_size ho;show (_+wv z o).natAbs≤_;rw [Nat.add_mul,Nat.one_mul];omega
 ·rw [h3 h,nv_none (by rw [hv,h4 h]),Int.add_zero]
theorem sum_size {x:Int} {k q:Nat} (h:x.natAbs≤k*256 ^ q) (hk:k<256):x.natAbs<256 ^ (q+1):=by
 rw [Nat.pow_succ];have h0:0<256 ^ q:=Nat.pow_pos (by decide);have h1:k*256 ^ q<256*256 ^ q:=Nat.mul_lt_mul_of_pos_right hk h0;rw [Nat.mul_comm (256 ^ q)];omega
theorem yadd_any (w:World) (ad:Option Addr) (l:List NV) (n c:Nat) (hn:l.length=n) (hmax:n≤250) (hs:∀ x∈l,x.2.1.size≤10000∧-100000≤x.2.2∧x.2.2≤100000) (hl:NAt w ad l) (m' : Bool) (s' : ByteArray) (e' : Int) (hd:df (sumD l n)=nu m' s' e') :
  Calls Tryz.prog 89 #[.slice ad n c] w (Ret (.agg #[.bool m',.string s',.int .i64 e']) w):=by
 obtain ⟨E,hE⟩:∃ E,lowF l n=E:=⟨_,rfl⟩;have HN:=Lib.hid (And.intro hn (And.intro hE hd));clear hn hd hE;go_enter Tryz.func89,Tryz.ntmps89;go_wp2_with fail;have hR0:=Nk.new w false ⟨#[]⟩ 0;have hb0:=(Below.refl w.heap.size w).alloc (Nat.le_refl _) (.cells #[.bool false,.string ⟨#[]⟩,.int .i64 0] 26);have hl0:=hl.alloc (.cells #[.bool false,.string ⟨#[]⟩,.int .i64 0] 26);generalize (w.alloc (.cells #[.bool false,.string ⟨#[]⟩,.int .i64 0] 26))=W0 at *;refine (shared_any W0 ad l n c HN.out.1 (by omega) (fun x hx=>by obtain ⟨h1,h2,h3⟩:=hs x hx;omega) hl0 E HN.out.2.1).mono ?_;rintro e1 W1 ⟨rfl,hq⟩;have hb:=below_next hb0 hq;have hR:=hR0.below hq;clear hq hR0 hb0 hl0;go_wp2_with fail;have hsc:Rw (W1.alloc (.cells #[.int .i64 E] 96)) W1.heap.size 96 [.int .i64 E]:=Rw.new W1 _ _;have hRQ:=hR.lt;have hsz:(W1.alloc (.cells #[.int .i64 E] 96)).heap.size=W1.heap.size+1:=World.size_alloc _ _;replace hR:=hR.alloc (.cells #[.int .i64 E] 96);replace hb:=hb.alloc hb.size (.cells #[.int .i64 E] 96);generalize (W1.alloc (.cells #[.int .i64 E] 96))=W2 at *;generalize W1.heap.size=Q at *;have hrm:OwnI (W2.alloc (.cells #[.bool false,.string ⟨#[]⟩,.bool false,.string ⟨#[]⟩,.bool false,.string ⟨#[]⟩,.bool false,.string ⟨#[]⟩,.bool false,.string ⟨#[]⟩,.bool false,.string ⟨#[]⟩,.bool false,.string ⟨#[]⟩,.bool false,.string ⟨#[]⟩] 131)) (Q+1) []:=by
  rw [← hsz];exact ⟨_,_,Rw.new W2 _ [Value.bool false,.string ⟨#[]⟩,.bool false,.string ⟨#[]⟩,.bool false,.string ⟨#[]⟩,.bool false,.string ⟨#[]⟩,.bool false,.string ⟨#[]⟩,.bool false,.string ⟨#[]⟩,.bool false,.string ⟨#[]⟩,.bool false,.string ⟨#[]⟩],rfl,Nat.zero_le _,rfl⟩
 replace hR:=hR.alloc (.cells #[.bool false,.string ⟨#[]⟩,.bool false,.string ⟨#[]⟩,.bool false,.string ⟨#[]⟩,.bool false,.string ⟨#[]⟩,.bool false,.string ⟨#[]⟩,.bool false,.string ⟨#[]⟩,.bool false,.string ⟨#[]⟩,.bool false,.string ⟨#[]⟩] 131);replace hsc:=hsc.alloc (.cells #[.bool false,.string ⟨#[]⟩,.bool false,.string ⟨#[]⟩,.bool false,.string ⟨#[]⟩,.bool false,.string ⟨#[]⟩,.bool false,.string ⟨#[]⟩,.bool false,.string ⟨#[]⟩,.bool false,.string ⟨#[]⟩,.bool false,.string ⟨#[]⟩] 131);replace hb:=hb.alloc hb.size (.cells #[.bool false,.string ⟨#[]⟩,.bool false,.string ⟨#[]⟩,.bool false,.string ⟨#[]⟩,.bool false,.string ⟨#[]⟩,.bool false,.string ⟨#[]⟩,.bool false,.string ⟨#[]⟩,.bool false,.string ⟨#[]⟩,.bool false,.string ⟨#[]⟩] 131);generalize (W2.alloc (.cells #[.bool false,.string ⟨#[]⟩,.bool false,.string ⟨#[]⟩,.bool false,.string ⟨#[]⟩,.bool false,.string ⟨#[]⟩,.bool false,.string ⟨#[]⟩,.bool false,.string ⟨#[]⟩,.bool false,.string ⟨#[]⟩,.bool false,.string ⟨#[]⟩] 131))=W3 at *;obtain ⟨q,hq35⟩:∃ q,q=35000:=⟨_,rfl⟩;have hJ0:YAW w W3 q Q E l 0 []:=⟨rfl,Nat.zero_le _,fun _=>rfl,fun x h=>by simp at h,hrm,hR,hsc,hRQ,hb⟩;clear hb hsc hrm hR hRQ hsz
 go_loopw [6,20] (fun r i wr=>∃ (k:Nat) (vs:List IV),k≤n∧vs.length≤8∧i=.int .i64 k∧r=.slice (some ⟨Q+1,0,none⟩) vs.length 8∧YAW w wr q Q E l k vs) (fun _ i _=>n-intY i)
 case atStart=>exact ⟨0,[],Nat.zero_le _,by decide,rfl,rfl,hJ0⟩
 case round =>
  clear hJ0;obtain ⟨k,vs,hk,hv8,rfl,rfl,hsum,hab,hmx,hsz,hG,hR,hC,hRQ,hb⟩:=hrel;obtain ⟨j,hj⟩:∃ j,vs.length=j:=⟨_,rfl⟩;rw [hj] at hv8 hsum hab hmx ⊢
  by_cases hlt:k<n
  ·have hkl:k<l.length:=by rw [HN.out.1];exact hlt
   obtain ⟨lb,lo,rfl,hlb,hc1,hc2,hc3⟩:=hl k hkl;obtain ⟨m1,s1,e1,hx⟩:∃ m s e,l[k]=(m,s,e):=⟨_,_,_,rfl⟩;have hss:=hs l[k] (List.getElem_mem hkl);obtain ⟨hlow,hlow2⟩:=low_all (l:=l) (fun x hx=>(hs x hx).2) n (by rw [HN.out.1];exact Nat.le_refl _);have hlow1:=hlow k hkl hlt;rw [HN.out.2.1] at hlow1 hlow2;have hvx:nvl l[k]=nv m1 s1 e1:=by rw [hx];rfl
   rw [hx] at hss hc1 hc2 hc3 hlow1;simp only at hss hlow1;have hEn:E=maxI→num s1=0:=fun h=>by
    by_cases h0:num s1=0
    ·exact h0
    ·have:=hlow1 h0
     rw [h] at this;unfold maxI at this;omega
   obtain ⟨z,o,hcv,hnv,hos⟩:=cnt_ex (m:=m1) (s:=s1) (d:=e1) (E:=E) (B:=10000) (K:=25000) hss.1 (fun h=>⟨hlow1 h,by
    have:=hlow1 h
    rcases hlow2 with h2|h2
    ·rw [h2] at this;unfold maxI at this;omega
    ·omega⟩)
   have hEb:E=maxI∧num s1=0∨(-1000000≤E∧E≤1000000∧e1-E≤1000000):=by
    rcases hlow2 with h2|h2
    ·exact Or.inl ⟨h2,hEn h2⟩
    ·right;omega
   have HCV:=Lib.hid (And.intro hcv (And.intro hEb (And.intro (hnv.trans hvx.symm) (show E=maxI→nvl l[k]=0 from fun h=>by rw [hvx];exact nv_nought (hEn h)))));have hos' : o.size≤35000:=hos;clear hx hlow hlow1 hlow2 hEn hcv hnv hos hEb hvx;replace hc1:wr.cell? ⟨lb,lo+k*3,none⟩=some (.bool m1):=by rw [hb.cell hlb];exact hc1
   replace hc2:wr.cell? ⟨lb,lo+k*3+1,none⟩=some (.string s1):=by rw [hb.cell hlb];exact hc2
   replace hc3:wr.cell? ⟨lb,lo+k*3+2,none⟩=some (.int .i64 e1):=by rw [hb.cell hlb];exact hc3
   have HS:=Lib.hid (And.intro hsum (And.intro hab (And.intro hmx (And.intro hsz hj))));clear hsum hab hmx hsz
   by_cases hj8:j=8
   ·have hj8b:((j:Int) == 8)=true:=by rw [hj8];rfl
    go_wp2_with fail;have hA:=Nk.new wr m1 s1 e1;have hQA:Q+1<wr.heap.size:=hG.lt;replace hR:=hR.alloc (.cells #[.bool m1,.string s1,.int .i64 e1] 26);replace hC:=hC.alloc (.cells #[.bool m1,.string s1,.int .i64 e1] 26);replace hG:=hG.alloc (.cells #[.bool m1,.string s1,.int .i64 e1] 26);replace hb:=hb.alloc hb.size (.cells #[.bool m1,.string s1,.int .i64 e1] 26);clear hc1 hc2 hc3;generalize (wr.alloc (.cells #[.bool m1,.string s1,.int .i64 e1] 26))=V0 at *;generalize wr.heap.size=PA at *;subst hj8;obtain ⟨z9,o9,ez9,vz9,sz9⟩:=nmw (sum_size HS.out.2.1 (by omega));have hrs9:sumI [(z9,o9)] 1=sumI vs 8:=by
     show wv z9 o9+0=_;rw [vz9];omega
    have HW:=Lib.hid (And.intro ez9 (And.intro (hrs9.symm▸HS.out.1:Dyadic.ofIntWithPrec (sumI [(z9,o9)] 1) (-E)=sumD l k) (And.intro (hrs9.symm▸HS.out.2.1:(sumI [(z9,o9)] 1).natAbs≤k*256 ^ q) (And.intro (hrs9.symm▸HS.out.2.2.1:E=maxI→sumI [(z9,o9)] 1=0) (show o9.size≤40000 by omega)))));clear ez9 hrs9 vz9 sz9
    refine region_lin (n:=6) [0,1,2,3,4,5] (fun L ac Wn=>∃ l0 l1 l2 l3 l4 l5:Bool,L=#[l0,l1,l2,l3,l4,l5]∧∃ g30:Nat,ac={tmps:=#[.slice (some { block:=lb,off:=lo }) n c,undef,.pointer (some ⟨w.heap.size,0,none⟩),.pointer (some ⟨Q,0,none⟩),.bool true,.pointer (some ⟨Q+1,0,none⟩),sel l5 (.slice (some ⟨Q+1,0,none⟩) 1 8) (.slice (some ⟨Q+1,0,none⟩) 8 8),undef,.pointer (some ⟨PA,0,none⟩),.tuple #[.agg #[.int .i64 E],.bool true],.slice (some { block:=lb,off:=lo }) n c,.tuple #[.agg #[.int .i64 E],.bool true],.agg #[.int .i64 E],.bool true,.bool true,.bool false,undef,.slice (some ⟨Q+1,0,none⟩) 0 8,.slice (some { block:=lb,off:=lo }) n c,.int .i64 ↑n,.int .i64 ↑k,.bool true,.pointer (some { block:=lb,off:=lo+k*3 }),.agg #[.bool m1,.string s1,.int .i64 e1],.slice (some ⟨Q+1,0,none⟩) 8 8,.int .i64 8,.bool true,sel l0 (.slice (some ⟨Q+1,0,none⟩) 0 8) (u27),sel l1 (.slice (some ⟨Q+1,0,none⟩) 8 8) (u28),sel l2 (.agg #[.bool z9,.string o9]) (u29),sel l3 (.slice (some ⟨g30,0,none⟩) 1 1) (u30),sel l4 (.slice (some ⟨Q+1,0,none⟩) 1 8) (u31),u32,u33,u34,u35,u36,u37,u38,undef,undef,undef,undef],defers:=[] }∧Below (w.heap.size) w Wn∧(Nk Wn PA m1 s1 e1)∧(Nk Wn (w.heap.size) false ⟨#[]⟩ 0)∧(Rw Wn Q 96 [.int .i64 E])∧(Off l4→OwnI Wn (Q+1) vs)∧(On l4→OwnI Wn (Q+1) [(z9,o9)])∧(On l3→Off l4→IAt Wn (some ⟨g30,0,none⟩) [(z9,o9)])) (by kernel_rfl) (by kernel_rfl) (by kernel_rfl) (by kernel_rfl) ?_ ?_ ?_
    ·exact ⟨false,false,false,false,false,false,by kernel_rfl,0,by kernel_rfl,hb.drew,hA.drew,hR.drew,hC,(fun _=>hG.drew),(fun h=>not_ft h),(fun h _=>not_ft h)⟩
    ·refine lc [] [4,5] ?_ ?_
     ·rintro L ac Wn ⟨l0,l1,l2,l3,l4,l5,rfl,hI⟩ rfl - ⟨rfl,rfl,-⟩ Kc hK;simp only [sel_f] at hI;obtain ⟨g30,rfl,hb,hA,hR,hC,hG,hG',hW⟩:=hI;refine lin_yield (.slice (some ⟨Q+1,0,none⟩) 0 8) rfl (by go_simp;first|done|with_reducible rfl) ?_;exact hK.out _ _ ⟨true,l1,l2,l3,false,false,by kernel_rfl,g30,by kernel_rfl,hb,hA,hR,hC,(fun z0=>(hG z0)),(fun h=>not_ft h),(fun z0 z1=>(hW z0 z1))⟩
     refine lc [] [2,3,4,5] ?_ ?_
     ·rintro L ac Wn ⟨l0,l1,l2,l3,l4,l5,rfl,hI⟩ rfl - ⟨rfl,rfl,rfl,rfl,-⟩ Kc hK;simp only [sel_f] at hI;obtain ⟨g30,rfl,hb,hA,hR,hC,hG,hG',hW⟩:=hI;refine lin_yield (.slice (some ⟨Q+1,0,none⟩) 8 8) rfl (by go_simp;first|done|with_reducible rfl) ?_;exact hK.out _ _ ⟨l0,true,false,false,false,false,by kernel_rfl,g30,by kernel_rfl,hb,hA,hR,hC,(fun z0=>(hG z0)),(fun h=>not_ft h),(fun h _=>not_ft h)⟩
     refine lc [1] [3,4,5] ?_ ?_
     ·rintro L ac Wn ⟨l0,l1,l2,l3,l4,l5,rfl,hI⟩ rfl ⟨rfl,-⟩ ⟨rfl,rfl,rfl,-⟩ Kc hK;simp only [sel_t,sel_f] at hI;obtain ⟨g30,rfl,hb,hA,hR,hC,hG,hG',hW⟩:=hI;go_simp;go_fit (wadd_any _ (some ⟨Q+1,0,none⟩) vs 8 8 HS.out.2.2.2.2 (by omega) (fun x hx=>Nat.le_trans (HS.out.2.2.2.1 x hx) (by decide)) (hG rfl).rows z9 o9 HW.out.1);rintro e V ⟨rfl,hq⟩;exact hK.out _ _ ⟨l0,true,true,false,false,false,by kernel_rfl,g30,by kernel_rfl,(below_next hb hq),(hA.below hq),(hR.below hq),(hC.below hq (hC).lt),(fun z0=>(hG z0).below hq),(fun h=>not_ft h),(fun h _=>not_ft h)⟩
     refine lc [1,2] [4,5] ?_ ?_
     ·rintro L ac Wn ⟨l0,l1,l2,l3,l4,l5,rfl,hI⟩ rfl ⟨rfl,rfl,-⟩ ⟨rfl,rfl,-⟩ Kc hK;simp only [sel_t,sel_f] at hI;obtain ⟨g30,rfl,hb,hA,hR,hC,hG,hG',hW⟩:=hI;go_simp;exact hK.out _ _ ⟨l0,true,true,true,false,false,by kernel_rfl,_,by kernel_rfl,(hb.alloc hb.size _),(hA.alloc _),(hR.alloc _),(hC.alloc _),(fun z0=>(hG z0).alloc _),(fun h=>not_ft h),(fun _ _=>iat_new rfl rfl)⟩
     refine lc [0,1,2,3] [5] ?_ ?_
     ·rintro L ac Wn ⟨l0,l1,l2,l3,l4,l5,rfl,hI⟩ rfl ⟨rfl,rfl,rfl,rfl,-⟩ ⟨rfl,-⟩ Kc hK;simp only [sel_t,sel_f] at hI;obtain ⟨g30,rfl,hb,hA,hR,hC,hG,hG',hW⟩:=hI;refine step_append_int rfl (.tmp 27) (.tmp 30) rfl (Q+1) [] 0 rfl rfl (by decide) (hG rfl).nil ⟨g30,0,none⟩ (z9,o9) 1 rfl (one_int (hW rfl rfl)) ?_;rintro V hO hg;exact hK.out _ _ ⟨true,true,true,true,true,false,by kernel_rfl,g30,by kernel_rfl,(below_grown hb hb.size hg (by omega)),(Rw.grown (hA) hg (some_ne (by omega))),(Rw.grown (hR) hg (some_ne (by omega))),(Rw.grown (hC) hg (some_ne (by omega))),(fun h=>not_tf h),(fun _=>hO),(fun _ h=>not_tf h)⟩
     refine ln [0,1,2,3,4] [] ?_;rintro L ac Wn ⟨l0,l1,l2,l3,l4,l5,rfl,hI⟩ rfl ⟨rfl,rfl,rfl,rfl,rfl,-⟩ - Kc hK;simp only [sel_t,sel_f] at hI;obtain ⟨g30,rfl,hb,hA,hR,hC,hG,hG',hW⟩:=hI;refine lin_yield (.slice (some ⟨Q+1,0,none⟩) 1 8) rfl (by go_simp;first|done|with_reducible rfl) ?_;exact hK.out _ _ ⟨true,true,true,true,true,true,by kernel_rfl,g30,by kernel_rfl,hb,hA,hR,hC,(fun h=>not_tf h),(fun z0=>(hG' z0)),(fun _ h=>not_tf h)⟩
    ·intro L ac Wn hI hall;obtain ⟨l0,l1,l2,l3,l4,l5,rfl,hI⟩:=hI;obtain ⟨rfl,rfl,rfl,rfl,rfl,rfl,-⟩:l0=true∧l1=true∧l2=true∧l3=true∧l4=true∧l5=true∧True:=hall;simp only [sel_t] at hI;obtain ⟨g30,rfl,hb,hA,hR,hC,hG,hG',hW⟩:=hI;clear hG;replace hG':=hG' rfl;clear hW;replace hG:=hG';clear hG';obtain ⟨hA0,hA1,hA2⟩:=hA.cells;have hC0:=hC.cell 0;simp only [List.getElem?_cons_zero] at hC0;go_wp2_with fail;refine (count_any _ m1 s1 e1 E (by omega) (by omega) HCV.out.2.1 z o HCV.out.1).mono ?_;rintro e2 V2 ⟨rfl,hq⟩;replace hb:=below_next hb hq;replace hR:=hR.below hq;replace hC:=hC.below hq hC.lt;replace hG:=hG.below hq;clear hq hA hA0 hA1 hA2 hC0;go_wp2_with (first
      | (at_builtin;refine wpList_append_int rfl (.tmp 32) (.tmp 36) rfl (Q+1) [(z9,o9)] 1 rfl rfl (by decide) (hG.alloc _) ⟨V2.heap.size,0,none⟩ (z,o) 1 rfl (one_int (IAt.new V2 _ [(z,o)] _ rfl)) ?_))
     replace hR:=hR.alloc (.cells #[.bool z,.string o] 24);replace hC:=hC.alloc (.cells #[.bool z,.string o] 24);replace hG:=hG.alloc (.cells #[.bool z,.string o] 24);replace hb:=hb.alloc hb.size (.cells #[.bool z,.string o] 24);intro V4 hO hg;have HF:YAW w V4 q Q E l (k+1) ([(z9,o9)]++[(z,o)]):=by
      obtain ⟨f1,f2,f3,f4,f5⟩:=HS.out;obtain ⟨g1,g2,g3⟩:=yaw_more (q:=q) (vs:=[(z9,o9)]) (z:=z) (o:=o) hkl HW.out.2.1 HW.out.2.2.1 HW.out.2.2.2.1 HCV.out.2.2.1 (by omega) HCV.out.2.2.2;exact ⟨g1,g2,g3,fun x hx=>by
       rcases List.mem_append.1 hx with h|h
       ·rw [List.mem_singleton.1 h];exact HW.out.2.2.2.2
       ·rw [List.mem_singleton.1 h];show o.size≤40000;omega,hO,Rw.grown hR hg (some_ne (by omega)),Rw.grown hC hg (some_ne (by omega)),hRQ,below_grown hb hb.size hg (by omega)⟩
     clear hR hC hG hb hO hg;have HFF:=Lib.hid HF;clear HF;have hlen:([(z9,o9)]++[(z,o)]).length=1+1:=by rfl
     go_wp2;exact ⟨⟨k+1,[(z9,o9)]++[(z,o)],by omega,by rw [hlen];omega,by simp,by rw [hlen],HFF.out⟩,by simp [intY];omega⟩
   ·have hj8b:((j:Int) == 8)=false:=by rw [beq_eq_false_iff_ne];omega
    have hC1:=(hC.alloc (.cells #[.bool m1,.string s1,.int .i64 e1] 26)).cell 0;simp only [List.getElem?_cons_zero] at hC1;go_wp2_with fail;have hA:=Nk.new wr m1 s1 e1;have hQA:Q+1<wr.heap.size:=hG.lt;replace hR:=hR.alloc (.cells #[.bool m1,.string s1,.int .i64 e1] 26);replace hC:=hC.alloc (.cells #[.bool m1,.string s1,.int .i64 e1] 26);replace hG:=hG.alloc (.cells #[.bool m1,.string s1,.int .i64 e1] 26);replace hb:=hb.alloc hb.size (.cells #[.bool m1,.string s1,.int .i64 e1] 26);clear hc1 hc2 hc3 hC1;generalize (wr.alloc (.cells #[.bool m1,.string s1,.int .i64 e1] 26))=V0 at *;generalize wr.heap.size=PA at *;refine (count_any _ m1 s1 e1 E (by omega) (by omega) HCV.out.2.1 z o HCV.out.1).mono ?_;rintro e2 V2 ⟨rfl,hq⟩;replace hb:=below_next hb hq;replace hR:=hR.below hq;replace hC:=hC.below hq hC.lt;replace hG:=hG.below hq;clear hq hA;go_wp2_with (first
     | (at_builtin;refine wpList_append_int rfl (.tmp 32) (.tmp 36) rfl (Q+1) vs j rfl HS.out.2.2.2.2 (by omega) (hG.alloc _) ⟨V2.heap.size,0,none⟩ (z,o) 1 rfl (one_int (IAt.new V2 _ [(z,o)] _ rfl)) ?_))
    replace hR:=hR.alloc (.cells #[.bool z,.string o] 24);replace hC:=hC.alloc (.cells #[.bool z,.string o] 24);replace hG:=hG.alloc (.cells #[.bool z,.string o] 24);replace hb:=hb.alloc hb.size (.cells #[.bool z,.string o] 24);intro V4 hO hg;have HF:YAW w V4 q Q E l (k+1) (vs++[(z,o)]):=by
     obtain ⟨f1,f2,f3,f4,f5⟩:=HS.out;obtain ⟨g1,g2,g3⟩:=yaw_more (q:=q) (vs:=vs) (z:=z) (o:=o) hkl (by rw [f5];exact f1) (by rw [f5];exact f2) (by rw [f5];exact f3) HCV.out.2.2.1 (by omega) HCV.out.2.2.2;exact ⟨g1,g2,g3,fun x hx=>by
      rcases List.mem_append.1 hx with h|h
      ·exact f4 x h
      ·rw [List.mem_singleton.1 h];show o.size≤40000;omega,hO,Rw.grown hR hg (some_ne (by omega)),Rw.grown hC hg (some_ne (by omega)),hRQ,below_grown hb hb.size hg (by omega)⟩
    clear hR hC hG hb hO hg;have HFF:=Lib.hid HF;clear HF;have hlen:(vs++[(z,o)]).length=j+1:=by simp [HS.out.2.2.2.2]
    go_wp2;exact ⟨⟨k+1,vs++[(z,o)],by omega,by rw [hlen];omega,by simp,by rw [hlen],HFF.out⟩,by simp [intY];omega⟩
  ·have hkn:k=n:=by omega
   subst hkn;have hkl:sumI vs vs.length=sumI vs j:=by rw [hj]
   obtain ⟨z9,o9,ez9,vz9,sz9⟩:=nmw (sum_size hab (by omega));have hnz:nv z9 o9 E=sumD l k:=by unfold nv;rw [vz9,hsum]
   obtain ⟨_,hlow2⟩:=low_all (l:=l) (fun x hx=>(hs x hx).2) k (by rw [HN.out.1];exact Nat.le_refl _);rw [HN.out.2.1] at hlow2;have hnum:num o9=0∨(-100000000000000≤E∧E≤100000000000000):=by
    rcases hlow2 with h|h
    ·left
     have h1:=hmx h;have h2:=wv_abs z9 o9;omega
    ·right;omega
   have HW:=Lib.hid (And.intro ez9 (And.intro (wf_wf ez9) (And.intro hnum (And.intro (show df (nv z9 o9 E)=nu m' s' e' by rw [hnz];exact HN.out.2.2) (And.intro hsz hj)))));have ho9:o9.size≤40000:=by omega
   clear hsum hab hmx hsz hj hkl ez9 vz9 sz9 hnz hlow2 hnum;go_wp2_with fail;refine region_lin (n:=5) [0,1,2,3,4] (fun L ac Wn=>∃ l0 l1 l2 l3 l4:Bool,L=#[l0,l1,l2,l3,l4]∧ac={tmps:=#[.slice ad k c,undef,.pointer (some ⟨w.heap.size,0,none⟩),.pointer (some ⟨Q,0,none⟩),.bool true,.pointer (some ⟨Q+1,0,none⟩),.slice (some ⟨Q+1,0,none⟩) j 8,undef,u8,.tuple #[.agg #[.int .i64 E],.bool true],.slice ad k c,.tuple #[.agg #[.int .i64 E],.bool true],.agg #[.int .i64 E],.bool true,.bool true,.bool false,undef,.slice (some ⟨Q+1,0,none⟩) 0 8,.slice ad k c,.int .i64 ↑k,.int .i64 ↑k,.bool false,u22,u23,u24,u25,u26,u27,u28,u29,u30,u31,u32,u33,u34,u35,u36,u37,u38,sel l0 (.agg #[.int .i64 E]) (undef),sel l1 (.slice (some ⟨Q+1,0,none⟩) j 8) (undef),sel l2 (.agg #[.bool z9,.string o9]) (undef),sel l3 (.agg #[.bool m',.string s',.int .i64 e']) (undef)],defers:=[] }∧Below (w.heap.size) w Wn∧(Off l4→Nk Wn (w.heap.size) false ⟨#[]⟩ 0)∧(On l4→Nk Wn (w.heap.size) m' s' e')∧(Rw Wn Q 96 [.int .i64 E])∧(OwnI Wn (Q+1) vs)) (by kernel_rfl) (by kernel_rfl) (by kernel_rfl) (by kernel_rfl) ?_ ?_ ?_
   ·exact ⟨false,false,false,false,false,by kernel_rfl,by kernel_rfl,hb.drew,(fun _=>hR.drew),(fun h=>not_ft h),hC,hG.drew⟩
   ·refine lc [] [3,4] ?_ ?_
    ·rintro L ac Wn ⟨l0,l1,l2,l3,l4,rfl,hI⟩ rfl - ⟨rfl,rfl,-⟩ Kc hK;simp only [sel_f] at hI;obtain ⟨rfl,hb,hR,hR',hC,hG⟩:=hI;have q0:=(hC).cell 0;have f0:=(hC).frozen 0;simp only [List.getElem?_cons_zero] at q0;refine lin_yield (.agg #[.int .i64 E]) rfl (by go_simp;first|done|with_reducible rfl) ?_;exact hK.out _ _ ⟨true,l1,l2,false,false,by kernel_rfl,by kernel_rfl,hb,(fun z0=>(hR z0)),(fun h=>not_ft h),hC,hG⟩
    refine lc [] [2,3,4] ?_ ?_
    ·rintro L ac Wn ⟨l0,l1,l2,l3,l4,rfl,hI⟩ rfl - ⟨rfl,rfl,rfl,-⟩ Kc hK;simp only [sel_f] at hI;obtain ⟨rfl,hb,hR,hR',hC,hG⟩:=hI;refine lin_yield (.slice (some ⟨Q+1,0,none⟩) j 8) rfl (by go_simp;first|done|with_reducible rfl) ?_;exact hK.out _ _ ⟨l0,true,false,false,false,by kernel_rfl,by kernel_rfl,hb,(fun z0=>(hR z0)),(fun h=>not_ft h),hC,hG⟩
    refine lc [1] [3,4] ?_ ?_
    ·rintro L ac Wn ⟨l0,l1,l2,l3,l4,rfl,hI⟩ rfl ⟨rfl,-⟩ ⟨rfl,rfl,-⟩ Kc hK;simp only [sel_t,sel_f] at hI;obtain ⟨rfl,hb,hR,hR',hC,hG⟩:=hI;go_simp;go_fit (wadd_any _ (some ⟨Q+1,0,none⟩) vs j 8 HW.out.2.2.2.2.2 (by omega) (fun x hx=>Nat.le_trans (HW.out.2.2.2.2.1 x hx) (by decide)) hG.rows z9 o9 HW.out.1);rintro e V ⟨rfl,hq⟩;exact hK.out _ _ ⟨l0,true,true,false,false,by kernel_rfl,by kernel_rfl,(below_next hb hq),(fun z0=>(hR z0).below hq),(fun h=>not_ft h),(hC.below hq (hC).lt),(hG.below hq)⟩
    refine lc [0,1,2] [4] ?_ ?_
    ·rintro L ac Wn ⟨l0,l1,l2,l3,l4,rfl,hI⟩ rfl ⟨rfl,rfl,rfl,-⟩ ⟨rfl,-⟩ Kc hK;simp only [sel_t,sel_f] at hI;obtain ⟨rfl,hb,hR,hR',hC,hG⟩:=hI;go_simp;go_fit (num_both _ z9 o9 E HW.out.2.1 (by omega) HW.out.2.2.1 m' s' e' HW.out.2.2.2.1);rintro e V ⟨rfl,hq⟩;exact hK.out _ _ ⟨true,true,true,true,false,by kernel_rfl,by kernel_rfl,(below_next hb hq),(fun z0=>(hR z0).below hq),(fun h=>not_ft h),(hC.below hq (hC).lt),(hG.below hq)⟩
    refine ln [0,1,2,3] [] ?_;rintro L ac Wn ⟨l0,l1,l2,l3,l4,rfl,hI⟩ rfl ⟨rfl,rfl,rfl,rfl,-⟩ - Kc hK;simp only [sel_t] at hI;obtain ⟨rfl,hb,hR,hR',hC,hG⟩:=hI;obtain ⟨q0,q1,q2,q3,q4,q5⟩:=(hR rfl).facts;go_simp;exact hK.out _ _ ⟨true,true,true,true,true,by kernel_rfl,by kernel_rfl,(((hb.setCell (by show w.heap.size≤w.heap.size;omega) _).setCell (by show w.heap.size≤w.heap.size;omega) _).setCell (by show w.heap.size≤w.heap.size;omega) _),(fun h=>not_tf h),(fun _=>(hR rfl).set3 _ _ _),((((hC).far (by show Q≠w.heap.size;omega) _).far (by show Q≠w.heap.size;omega) _).far (by show Q≠w.heap.size;omega) _),((((hG).far (by show Q+1≠w.heap.size;omega) _).far (by show Q+1≠w.heap.size;omega) _).far (by show Q+1≠w.heap.size;omega) _)⟩
   ·intro L ac Wn hI hall;obtain ⟨l0,l1,l2,l3,l4,rfl,hI⟩:=hI;obtain ⟨rfl,rfl,rfl,rfl,rfl,-⟩:l0=true∧l1=true∧l2=true∧l3=true∧l4=true∧True:=hall;simp only [sel_t] at hI;obtain ⟨rfl,hb,hR,hR',hC,hG⟩:=hI;clear hR;replace hR':=hR' rfl;go_wp2;exact ret_num rfl rfl hR' ⟨rfl,hb⟩
end Go.Proofs.YtemedphcafgolaaGreatDoor
