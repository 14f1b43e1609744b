/- Rows that grow by one, and rows of texts (as layer 7's texts have them). -/
import Derived.Test.YtiddgplapodleaaGreatDoorLPrint
import Derived.Laws.RangeAny
import Derived.Below
import Derived.Lib.Strings
namespace Go.Proofs.YtiddgplapodleaaGreatDoor
open Go.RowKit Go.Lib
theorem Rw.next {w w' : World} {b:Nat} {t:TypeId} {L:List Value} (h:Rw w b t L) (hb:Below w.heap.size w w'):Rw w' b t L:=(hb.block b h.lt).trans h
theorem addr0 (b off i:Nat):(⟨b,off,none⟩:Addr).add i=⟨b,off+i,none⟩:=by unfold Addr.add;split <;> simp_all
def RI (w:World) (ad:Option Addr) (ns:List Int):Prop:=∀ i (h:i<ns.length),∃ b off,ad=some ⟨b,off,none⟩∧b<w.heap.size∧w.cell? ⟨b,off+i,none⟩=some (.int .i64 ns[i])
theorem RI.nil (w:World) (ad:Option Addr):RI w ad []:=fun i h=>by simp at h
theorem RI.next {w w' : World} {ad:Option Addr} {ns:List Int} (h:RI w ad ns) (hb:Below w.heap.size w w'):RI w' ad ns:=fun i hi=>by
 obtain ⟨b,off,e,hl,hc⟩:=h i hi;exact ⟨b,off,e,Nat.lt_of_lt_of_le hl hb.size,(hb.cell (p:=⟨b,off+i,none⟩) hl).trans hc⟩
theorem RI.alloc {w:World} {ad:Option Addr} {ns:List Int} (h:RI w ad ns) (o:Obj):RI (w.alloc o) ad ns:=h.next ((Below.refl _ _).alloc (Nat.le_refl _) o)
theorem RI.drew {w:World} {ad:Option Addr} {ns:List Int} (h:RI w ad ns):RI w.drew ad ns:=h
theorem RI.of_rw {w:World} {b off:Nat} {t:TypeId} {pre post:List Value} {ns:List Int} (h:Rw w b t (pre++ns.map (Value.int .i64)++post)) (ho:pre.length=off):RI w (some ⟨b,off,none⟩) ns:=fun i hi=>by
 refine ⟨b,off,rfl,h.lt,?_⟩;rw [h.cell,← ho,List.append_assoc,List.getElem?_append_right (by omega),Nat.add_sub_cancel_left,List.getElem?_append_left (by simpa using hi)];simp [hi]
def okM (l:List UInt8):Bool:=l.all fun b=>decide (b.toNat<128)
def expsM (l:List UInt8):List Int:=l.map fun b=>(b.toNat:Int)
def sumM (l:List UInt8):Nat:=(l.map UInt8.toNat).sum
def okE (ns:List Int):Bool:=ns.all fun n=>decide (0≤n∧n≤127)
def bytesE (ns:List Int):List UInt8:=ns.map fun n=>UInt8.ofNat n.toNat
def ofS (ns:List Int):ByteArray:=if okE ns then ⟨(bytesE ns).toArray⟩ else ⟨#[]⟩
def ofE (ns:List Int):Int:=if okE ns then 0 else 3
theorem okM_bad {l:List UInt8} {k:Nat} (hk:k<l.length) (h:128≤l[k].toNat):okM l=false:=by
 unfold okM;rw [List.all_eq_false];exact ⟨l[k],List.getElem_mem hk,by simp;omega⟩
theorem okM_good {l:List UInt8} (h:∀ j (hj:j<l.length),l[j].toNat<128):okM l=true:=by
 unfold okM;rw [List.all_eq_true];intro x hx;obtain ⟨j,hj,rfl⟩:=List.getElem_of_mem hx;exact decide_eq_true (h j hj)
theorem okM_get {l:List UInt8} (h:okM l=true) {k:Nat} (hk:k<l.length):l[k].toNat<128:=by
 unfold okM at h;rw [List.all_eq_true] at h;exact of_decide_eq_true (h _ (List.getElem_mem hk))
theorem okE_bad {l:List Int} {k:Nat} (hk:k<l.length) (h:¬ (0≤l[k]∧l[k]≤127)):okE l=false:=by
 unfold okE;rw [List.all_eq_false];exact ⟨l[k],List.getElem_mem hk,by simp;omega⟩
theorem okE_good {l:List Int} (h:∀ j (hj:j<l.length),0≤l[j]∧l[j]≤127):okE l=true:=by
 unfold okE;rw [List.all_eq_true];intro x hx;obtain ⟨j,hj,rfl⟩:=List.getElem_of_mem hx;exact decide_eq_true (h j hj)
theorem okE_get {l:List Int} (h:okE l=true) {k:Nat} (hk:k<l.length):0≤l[k]∧l[k]≤127:=by
 unfold okE at h;rw [List.all_eq_true] at h;exact of_decide_eq_true (h _ (List.getElem_mem hk))
theorem sumM_take {l:List UInt8} {k:Nat} (hk:k<l.length):sumM (l.take (k+1))=sumM (l.take k)+l[k].toNat:=by
 unfold sumM;rw [List.take_succ_eq_append_getElem hk,List.map_append,List.sum_append];simp
theorem sumM_le (l:List UInt8):sumM l≤255*l.length:=by
 unfold sumM
 induction l with
 | nil=>simp
 | cons x l ih =>
  have:=x.toNat_lt
  simp only [List.map_cons,List.sum_cons,List.length_cons];omega
theorem bytesE_take {l:List Int} {k:Nat} (hk:k<l.length):bytesE (l.take (k+1))=bytesE (l.take k)++[UInt8.ofNat l[k].toNat]:=by
 unfold bytesE;rw [List.take_succ_eq_append_getElem hk,List.map_append];rfl
def OV (B:Nat) (w:World) (v:Value) (vs:List Value):Prop:=
 (v=.slice none 0 0∧vs=[])∨∃ g cap T L,v=.slice (some ⟨g,0,none⟩) vs.length cap∧B≤g∧Rw w g T L∧vs.length≤cap∧cap=L.length∧cap≤maxLen∧L.take vs.length=vs
theorem OV.nil (B:Nat) (w:World):OV B w (.slice none 0 0) []:=.inl ⟨rfl,rfl⟩
theorem OV.of_rw {B:Nat} {w:World} {g cap:Nat} {T:TypeId} {L:List Value} (h:Rw w g T L) (hB:B≤g) (hc:L.length=cap) (hm:cap≤maxLen):OV B w (.slice (some ⟨g,0,none⟩) 0 cap) []:=
 .inr ⟨g,cap,T,L,rfl,hB,h,Nat.zero_le _,hc.symm,hm,by simp⟩
theorem OV.grown {B:Nat} {w w' : World} {v:Value} {vs:List Value} {row:Option Nat} (h:OV B w v vs) (hg:w.grownBy w' row) (hne:∀ g,v.ownBlock=some g→some g≠row):OV B w' v vs:=by
 rcases h with h|⟨g,cap,T,L,rfl,hB,hR,r⟩
 ·exact .inl h
 ·exact .inr ⟨g,cap,T,L,rfl,hB,hR.grown hg (hne g rfl),r⟩
theorem OV.next {B:Nat} {w w' : World} {v:Value} {vs:List Value} (h:OV B w v vs) (hb:Below w.heap.size w w'):OV B w' v vs:=by
 rcases h with h|⟨g,cap,T,L,rfl,hB,hR,r⟩
 ·exact .inl h
 ·exact .inr ⟨g,cap,T,L,rfl,hB,hR.next hb,r⟩
theorem OV.alloc {B:Nat} {w:World} {v:Value} {vs:List Value} (h:OV B w v vs) (o:Obj):OV B (w.alloc o) v vs:=h.next ((Below.refl _ _).alloc (Nat.le_refl _) o)
theorem OV.lt {B:Nat} {w:World} {v:Value} {vs:List Value} (h:OV B w v vs) {g:Nat} (e:v.ownBlock=some g):B≤g∧g<w.heap.size:=by
 rcases h with ⟨rfl,_⟩|⟨g',cap,T,L,rfl,hB,hR,_⟩
 ·cases e
 ·simp only [Value.ownBlock,Option.some.injEq] at e;subst e;exact ⟨hB,hR.lt⟩
theorem OV.cells {B:Nat} {w:World} {v:Value} {vs:List Value} (h:OV B w v vs):∃ ad c,v=.slice ad vs.length c∧∀ i (hi:i<vs.length),∃ b off,ad=some ⟨b,off,none⟩∧b<w.heap.size∧w.cell? ⟨b,off+i,none⟩=some vs[i]:=by
 rcases h with ⟨rfl,rfl⟩|⟨g,cap,T,L,rfl,hB,hR,h1,h2,h3,h4⟩
 ·exact ⟨none,0,rfl,fun i hi=>by simp at hi⟩
 ·refine ⟨_,_,rfl,fun i hi=>⟨g,0,rfl,hR.lt,?_⟩⟩;rw [Nat.zero_add,hR.cell]
  have:(L.take vs.length)[i]?=vs[i]?:=by rw [h4]
  rw [List.getElem?_take_of_lt hi] at this;rw [this,List.getElem?_eq_getElem hi]
theorem OV.ri {B:Nat} {w:World} {v:Value} {ns:List Int} (h:OV B w v (ns.map (Value.int .i64))):∃ ad c,v=.slice ad ns.length c∧RI w ad ns:=by
 obtain ⟨ad,c,hv,hc⟩:=h.cells;refine ⟨ad,c,by rw [hv,List.length_map],fun i hi=>?_⟩;obtain ⟨b,off,e,hl,hcc⟩:=hc i (by simpa using hi);exact ⟨b,off,e,hl,by rw [hcc,List.getElem_map]⟩
theorem run_append_one (B:Nat) (tr te ty:TypeId) (i:TypeInfo) (z:Value) (hu:Tryz.prog.underlying tr=some (.slice te)) (hi:Tryz.prog.info? te=some i) (hz:i.zero=some z) (hs:i.size=1) (hby:i.bytes≤16) (hzs:z.cells.size=1)
  (w:World) (v:Value) (vs:List Value) (h:OV B w v vs) (a:Addr) (x:Value) (c:Nat) (hx:w.cell? a=some x) (hx1:x.oneCell'=true) (hmax:vs.length≤1000000000000) (hB:B≤w.heap.size) :
  ∃ v' w',(Builtin.append_ #[tr,tr] ty #[v,.slice (some a) 1 c]).run Tryz.prog w=.ok v' w'∧OV B w' v' (vs++[x])∧w.grownBy w' v.ownBlock∧∀ g,v'.ownBlock=some g→v.ownBlock=some g∨w.heap.size≤g:=by
 have h1c:∀ u∈[x],u.oneCell'=true:=by intro u hu;simp at hu;subst hu;exact hx1
 have ha0:a.add 0=a:=by unfold Addr.add;split <;> simp_all
 have hxs:∀ j u,[x][j]?=some u→w.cell? (a.add j)=some u:=by
  intro j u hj
  match j,hj with
  | 0,hj=>simp at hj;subst hj;rw [ha0];exact hx
 rcases h with ⟨rfl,rfl⟩|⟨g,cap,T,L,rfl,hBg,hR,h1,h2,h3,h4⟩
 ·obtain ⟨v',w',hr,hown,hg,_⟩:=run_append_own (P:=Tryz.prog) w w.heap.size tr ty te i z 1 i.bytes hu hi hz hs rfl hzs (by omega) (.slice none 0 0) 0 [] ⟨rfl,.inl ⟨rfl,rfl⟩⟩ a 1 c [x] rfl hxs h1c (by unfold maxLen;omega) (by omega) (Nat.le_refl _)
  rcases hown.2 with ⟨_,hn⟩|⟨g,cap,cur,hv,hBg,hgc,hn,hcm,hcs,ht⟩
  ·omega
  ·refine ⟨v',w',hr,?_,hg,fun g' e=>.inr (by rw [hv] at e;simp only [Value.ownBlock,Option.some.injEq] at e;omega)⟩;refine .inr ⟨g,cap,te,cur.toList,by simpa using hv,Nat.le_trans hB hBg,hgc,by simpa using hn,by rw [Array.length_toList,hcs];omega,hcm,by simpa using ht⟩
 ·by_cases hroom:vs.length+1≤cap
  ·have hf:=run_firstCells_some (P:=Tryz.prog) w i.size 1 a 1 c [x] (by simp [hs]) hxs;have hst:=run_storeCells_at Tryz.prog g (vs.length*i.size) T [x] 0 L.toArray w hR (by simp [hs];omega) h1c;simp only [Nat.add_zero] at hst;refine ⟨.slice (some ⟨g,0,none⟩) (vs.length+1) cap,w.setRow g (L.take vs.length++[x]++L.drop (vs.length+1)).toArray,?_,.inr ⟨g,cap,T,L.take vs.length++[x]++L.drop (vs.length+1),by simp,hBg,?_,by simpa using hroom,?_,h3,?_⟩,?_⟩
   ·rw [hs,Nat.mul_one] at hst;simp only [hs] at hf;simp [Builtin.append_,run_underlying hu,sizeOf,typeInfo,hi,Builtin.lenOf,hroom,hs,hf,Addr.add_lit,hst]
   ·exact setRow_heap w g L.toArray _ T _ hR
   ·simp;omega
   ·rw [List.length_append,List.length_singleton,List.take_left' (by rw [List.length_append,List.length_take,List.length_singleton];omega),h4]
   ·exact ⟨⟨rfl,rfl,rfl,by simp,fun k _ hk=>setRow_other w g k _ (fun e=>hk (by rw [e];rfl))⟩,fun g' e=>.inl e⟩
  ·have hcap:cap=vs.length:=by omega
   have hold:∀ j u,vs[j]?=some u→w.cell? ((⟨g,0,none⟩:Addr).add j)=some u:=by
    intro j u hj;rw [addr0,Nat.zero_add,hR.cell,← hj,← h4,List.getElem?_take_of_lt]
    ·have:=(List.getElem?_eq_some_iff.1 hj).1
     simpa using this
   have hr:=run_append_grow (P:=Tryz.prog) w tr ty te i _ hu hi hz ⟨g,0,none⟩ vs.length cap vs (by rw [hs,Nat.mul_one]) hold a 1 c [x] (by simp [hs]) hxs (by omega) (by omega) (growslice_fits (by omega) (Nat.le_trans (Nat.mul_le_mul_left _ hby) (by omega)));have hZs:=size_zeroCells z.cells (grownCap w (vs.length+1) cap te-(vs.length+1));have hge:=grownCap_ge w (vs.length+1) cap te;have hle:=grownCap_le_maxLen w (vs.length+1) cap te (by unfold maxLen;omega);rw [hzs,Nat.mul_one] at hZs;generalize Builtin.zeroCells z.cells (grownCap w (vs.length+1) cap te-(vs.length+1))=Z at hr hZs;generalize grownCap w (vs.length+1) cap te=G at *;have hL:vs.toArray++[x].toArray++Z=(vs++[x]++Z.toList).toArray:=by
    apply Array.ext';simp
   rw [hL] at hr;refine ⟨_,_,hr,.inr ⟨_,_,te,vs++[x]++Z.toList,by simp,?_,heap_alloc_new w.drew _,?_,?_,hle,?_⟩,⟨⟨rfl,rfl,rfl,by simp,fun k hk _=>Below.heap_alloc w.drew _ k hk⟩,fun g' e=>.inr (by simp only [Value.ownBlock,Option.some.injEq] at e;omega)⟩⟩
   ·exact hB
   ·rw [List.length_append,List.length_singleton];exact hge
   ·have hz' : Z.toList.length=Z.size:=Array.length_toList;rw [List.length_append,List.length_append,List.length_singleton,hz'];omega
   ·rw [List.length_append,List.length_singleton,List.take_left' (by simp)]
theorem wpList_append_one (B:Nat) {tr te:TypeId} {i:TypeInfo} {z:Value} (hu:Tryz.prog.underlying tr=some (.slice te)) (hi:Tryz.prog.info? te=some i) (hz:i.zero=some z) (hsz:i.size=1) (hby:i.bytes≤16) (hzs:z.cells.size=1)
  {w:World} {ops:Array Oper} {rest:List Oper} {o:Oper} {a:Act} {Q:Exit→Act→World→Prop} (hgd:o.guard=none) (s y:Operand)
  (ho:o.op=.call { callee:=.builtin .append,args:=#[s,y],argTypes:=#[tr,tr] })
  (v:Value) (vs:List Value) (hs:a.eval s=v) (h:OV B w v vs) (b:Addr) (x:Value) (c:Nat) (hy:a.eval y=.slice (some b) 1 c)
  (hx:w.cell? b=some x) (hx1:x.oneCell'=true) (hmax:vs.length≤1000000000000) (hB:B≤w.heap.size)
  (hk:∀ v' w',OV B w' v' (vs++[x])→w.grownBy w' v.ownBlock→(∀ g,v'.ownBlock=some g→v.ownBlock=some g∨w.heap.size≤g)→wpList Tryz.prog ops Q rest (a.put o.dst v') w'):wpList Tryz.prog ops Q (o::rest) a w:=by
 refine wpList_plain hgd fun K hK=>?_;obtain ⟨v',w',hr,h2,h3,h4⟩:=run_append_one B tr te o.type i z hu hi hz hsz hby hzs w v vs h b x c hx hx1 hmax hB;unfold Oper.wp execOp;simp only [ho,resolve,invoke,builtin,Sem.run_bind,Sem.run_pure,Result.andThen_ok,List.map_toArray,List.map_cons,List.map_nil,hs,hy,hr];exact hK _ _ (hk v' w' h2 h3 h4)
theorem step_append_one (B:Nat) {tr te:TypeId} {i:TypeInfo} {z:Value} (hu:Tryz.prog.underlying tr=some (.slice te)) (hi:Tryz.prog.info? te=some i) (hz:i.zero=some z) (hsz:i.size=1) (hby:i.bytes≤16) (hzs:z.cells.size=1)
  {w:World} {ops:Array Oper} {o:Oper} {a:Act} {K:Act→World→Prop} {Q:Exit→Act→World→Prop} {E:Prop} (hgd:o.guard=none) (s y:Operand)
  (ho:o.op=.call { callee:=.builtin .append,args:=#[s,y],argTypes:=#[tr,tr] })
  (v:Value) (vs:List Value) (hs:a.eval s=v) (h:OV B w v vs) (b:Addr) (x:Value) (c:Nat) (hy:a.eval y=.slice (some b) 1 c)
  (hx:w.cell? b=some x) (hx1:x.oneCell'=true) (hmax:vs.length≤1000000000000) (hB:B≤w.heap.size)
  (hk:∀ v' w',OV B w' v' (vs++[x])→w.grownBy w' v.ownBlock→(∀ g,v'.ownBlock=some g→v.ownBlock=some g∨w.heap.size≤g)→K (a.put o.dst v') w') :
  if Region.wanted o (yielded ops a.tmps)=true then Oper.wp Tryz.prog o a w K Q else E:=by
 have hw:Region.wanted o (yielded ops a.tmps)=true:=by simp [Region.wanted,hgd]
 rw [if_pos hw];obtain ⟨v',w',hr,h2,h3,h4⟩:=run_append_one B tr te o.type i z hu hi hz hsz hby hzs w v vs h b x c hx hx1 hmax hB;unfold Oper.wp execOp;simp only [ho,resolve,invoke,builtin,Sem.run_bind,Sem.run_pure,Result.andThen_ok,List.map_toArray,List.map_cons,List.map_nil,hs,hy,hr];exact hk v' w' h2 h3 h4
theorem infoStr:(Tryz.prog.info? 9).map (fun i=>(i.zero,i.size,i.bytes))=some (some (.string ⟨#[]⟩),1,16):=by kernel_rfl
def RS (w:World) (ad:Option Addr) (L:List ByteArray):Prop:=∀ i (h:i<L.length),∃ b off,ad=some ⟨b,off,none⟩∧b<w.heap.size∧w.cell? ⟨b,off+i,none⟩=some (.string L[i])
theorem RS.nil (w:World) (ad:Option Addr):RS w ad []:=fun i h=>by simp at h
theorem RS.next {w w' : World} {ad:Option Addr} {L:List ByteArray} (h:RS w ad L) (hb:Below w.heap.size w w'):RS w' ad L:=fun i hi=>by
 obtain ⟨b,off,e,hl,hc⟩:=h i hi;exact ⟨b,off,e,Nat.lt_of_lt_of_le hl hb.size,(hb.cell (p:=⟨b,off+i,none⟩) hl).trans hc⟩
theorem OV.rs {B:Nat} {w:World} {v:Value} {L:List ByteArray} (h:OV B w v (L.map Value.string)):∃ ad c,v=.slice ad L.length c∧RS w ad L:=by
 obtain ⟨ad,c,hv,hc⟩:=h.cells;refine ⟨ad,c,by rw [hv,List.length_map],fun i hi=>?_⟩;obtain ⟨b,off,e,hl,hcc⟩:=hc i (by simpa using hi);exact ⟨b,off,e,hl,by rw [hcc,List.getElem_map]⟩
def RetS (L:List ByteArray) (w:World):Ending→World→Prop:=fun e w'=>∃ ad c,e=.returned (.slice ad L.length c)∧RS w' ad L∧Below w.heap.size w w'
theorem make_strs (n:Nat) (hmax:n≤200000000000):∀ w:World,
  (Instr.makeSlice 51 (.int .i64 0) (.int .i64 n)).run Tryz.prog w=.ok (.slice (some ⟨w.heap.size,0,none⟩) 0 n) (w.alloc (.cells (Array.replicate n (Value.string ⟨#[]⟩)) 9)):=by
 intro w;obtain ⟨i,hi,hz,hs,hb⟩:=info_parts infoStr;have h:=run_make (P:=Tryz.prog) w 51 9 i _ Tryz.underlying51 hi hz .i64 .i64 (0:Int) (n:Int) (by omega) (by omega) (by rw [hb];omega) (by omega);rw [h,hs];simp only [Int.toNat_natCast,Nat.mul_one];have e:madeCells (Value.cells (.string ⟨#[]⟩)) n=Array.replicate n (Value.string ⟨#[]⟩):=by
  apply Array.toList_inj.1
  rw [show Value.cells (.string ⟨#[]⟩)=#[.string ⟨#[]⟩] from rfl,toList_madeCells_one,Array.toList_replicate]
 rw [e];rfl
end Go.Proofs.YtiddgplapodleaaGreatDoor
