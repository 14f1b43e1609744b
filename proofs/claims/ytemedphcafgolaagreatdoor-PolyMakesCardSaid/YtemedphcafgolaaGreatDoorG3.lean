/- Layer 1, laid together: Divide, Room, Add, Zero, Mul, Div, Shl, Shr, Use, Lem. -/
import Derived.Test.YtemedphcafgolaaGreatDoorG2
import Derived.Laws.BitsLemmas
/- Quotient and rest of two rows,walked. -/
namespace Go.Proofs.YtemedphcafgolaaGreatDoor
set_option maxRecDepth 100000
set_option maxHeartbeats 800000
open Go.RowKit Go.Shelf
theorem Ds.take {w:World} {b off:Nat} {ds:List Nat} (h:Ds w b off ds) (n:Nat):Ds w b off (ds.take n):=by
 intro i hi;have hi' : i<ds.length:=by rw [List.length_take] at hi;omega
 rw [h i hi'];simp
theorem Rw.ds0 {w:World} {b:Nat} {t:TypeId} {ds:List Nat} (h:Rw w b t (ds.map dg)):Ds w b 0 ds:=Rw.ds (pre:=[]) (post:=[]) (off:=0) (by simpa using h) rfl
theorem up_at {w:World} {b off dc l:Nat} {ds:List Nat} {n:Nat} (hl:ds.length=l) (hd:Ds w b off ds) (hdd:Dig ds) (hn:n<64) (hmax:l≤1000000000000) :
  Calls Tryz.prog 180 #[.slice (some ⟨b,off,none⟩) l dc,.int .u64 n] w
   fun e w'=>e=.returned (.slice (some ⟨w.heap.size,0,none⟩) (l+1) (l+1))∧Rw w' w.heap.size 119 ((ups n 0 ds).map dg)∧Below w.heap.size w w':=by
 subst hl;exact up_any w b off dc ds n hd hdd hn hmax
def roomZ:Obj:=.cells #[.int .u64 0,.int .u64 0,.int .u64 0,.int .u64 0,.int .u64 0,.int .u64 0,.int .u64 0,.int .u64 0,.int .u64 0,.int .u64 0,.int .u64 0,.int .u64 0,.int .u64 0,.int .u64 0,.int .u64 0,.int .u64 0] 145
theorem room_own (w:World):Own64 (w.alloc roomZ) w.heap.size 16 []:=by
 have h:=Rw.new w 145 ((List.replicate 16 0).map dg);exact Own64.empty (L:=(List.replicate 16 0).map dg) h (by unfold maxLen;simp)
def Two (w w2:World) (g1 cap1:Nat) (xs:List Nat) (g2 cap2:Nat) (ys:List Nat):Prop:=
 Own64 w2 g1 cap1 xs∧Own64 w2 g2 cap2 ys∧g1≠g2∧w.heap.size≤g1∧w.heap.size≤g2∧Below w.heap.size w w2
theorem below_grown {B g:Nat} {w w1 w2:World} (h:Below B w w1) (hB:B≤w1.heap.size) (hg:w1.grownBy w2 (some g)) (hgB:B≤g):Below B w w2:=
 h.grown hg hB (fun k e=>by cases e;exact hgB)
theorem rooms_two (w:World):Two w ((w.alloc roomZ).alloc roomZ) w.heap.size 16 [] (w.heap.size+1) 16 []:=by
 refine ⟨(room_own w).alloc _,?_,by omega,Nat.le_refl _,by omega,((Below.refl _ _).alloc (Nat.le_refl _) _).alloc (by rw [World.size_alloc];omega) _⟩;have h:=room_own (w.alloc roomZ);rw [World.size_alloc] at h;exact h
theorem Two.first {w W w1:World} {g1 cap1 g2 cap2 g3 cap3:Nat} {xs ys zs:List Nat} (h:Two w W g1 cap1 xs g2 cap2 ys) (hO:Own64 w1 g3 cap3 zs) (hg:W.grownBy w1 (some g1)) (ha:g3=g1∨W.heap.size≤g3):Two w w1 g3 cap3 zs g2 cap2 ys:=by
 obtain ⟨h1,h2,h3,h4,h5,h6⟩:=h;have l1:=h1.lt;have l2:=h2.lt;have hsz:=h6.size;exact ⟨hO,h2.grown hg (by simp;omega),by omega,by omega,h5,below_grown h6 hsz hg h4⟩
theorem Two.second {w W w1:World} {g1 cap1 g2 cap2 g3 cap3:Nat} {xs ys zs:List Nat} (h:Two w W g1 cap1 xs g2 cap2 ys) (hO:Own64 w1 g3 cap3 zs) (hg:W.grownBy w1 (some g2)) (ha:g3=g2∨W.heap.size≤g3):Two w w1 g1 cap1 xs g3 cap3 zs:=by
 obtain ⟨h1,h2,h3,h4,h5,h6⟩:=h;have l1:=h1.lt;have l2:=h2.lt;have hsz:=h6.size;exact ⟨h1.grown hg (by simp;omega),hO,by omega,h4,by omega,below_grown h6 hsz hg h5⟩
def Top (ds:List Nat):Prop:=ds=[]∨∃ l d,ds=l++[d]∧d≠0
theorem Top.ge {ds:List Nat} (h:Top ds) (hn:ds≠[]):B64 ^ (ds.length-1)≤val ds:=by
 rcases h with h|⟨l,d,rfl,hd⟩
 ·exact absurd h hn
 ·rw [val_snoc];simp
  have:B64 ^ l.length*1≤B64 ^ l.length*d:=Nat.mul_le_mul_left _ (by omega)
  omega
theorem Top.length_le {xs ys:List Nat} (hx:Dig xs) (hy:Top ys) (h:val ys≤val xs):ys.length≤xs.length:=by
 by_cases hn:ys=[]
 ·subst hn;simp
 have h1:=hy.ge hn;have h2:=val_lt hx;have h3:B64 ^ (ys.length-1)<B64 ^ xs.length:=by omega
 have:=(Nat.pow_lt_pow_iff_right (by unfold B64;omega:1<B64)).1 h3
 omega
theorem minus_zero {e y x B o:Nat} (h:e+1*y=x+B*o) (he:e<B) (hy:y≤x):e=x-y:=by
 have:o=0:=by
  cases o with
  | zero=>rfl
  | succ o=>rw [Nat.mul_succ] at h;omega
 subst this;omega
theorem sub_any (w:World) (s t:ByteArray) (hs:s.size≤1000000000) (ht:t.size≤1000000000) :
  Calls Tryz.prog 169 #[.string s,.string t] w fun e w' =>
   e=.returned (.tuple #[.string (fb (num s-num t)),.bool (decide (num t≤num s))])∧Below w.heap.size w w':=by
 go_enter Tryz.func169,Tryz.ntmps169;go_wp2_with fail;refine (cmp_any _ s t).mono ?_;rintro e w' ⟨rfl,rfl⟩
 by_cases h:num s<num t
 ·have hc:decide (cmpN (num s) (num t)<0)=true:=by unfold cmpN;rw [if_pos h];decide
  have hd:num s-num t=0:=by omega
  have hl:decide (num t≤num s)=false:=by simp;omega
  have HD:=Lib.hid (And.intro hd hl);clear hd hl h;go_wp2;go_ret2;exact ⟨by rw [HD.out.1,HD.out.2];rfl,Below.refl _ _⟩
 ·have hc:decide (cmpN (num s) (num t)<0)=false:=by unfold cmpN;rw [if_neg h];split <;> simp
  have HH:=Lib.hid h;clear h;go_wp2_with fail;have hT:=rooms_two w;unfold roomZ at hT;refine (read_any _ w.heap.size 16 s hT.1 hs).mono ?_;rintro e w1 ⟨g1,cap1,xs,rfl,hO,hg,ha,hdx,hvx,htx,hlx⟩;have hT1:=hT.first hO hg ha
  clear hT hO hg ha;go_wp2_with fail;refine (read_any _ (w.heap.size+1) 16 t hT1.2.1 ht).mono ?_;rintro e w2 ⟨g2,cap2,ys,rfl,hO,hg,ha,hdy,hvy,hty,hly⟩;have hT2:=hT1.second hO hg ha;clear hT1 hO hg ha;obtain ⟨t1,t2,t3,t4,t5,t6⟩:=hT2;have hm:num t≤num s:=by have:=HH.out;omega
  obtain ⟨T,post,hR,hcp,hcm⟩:=t1.parts;have HC:=Lib.hid (And.intro hcp hcm);clear hcp hcm;go_wp2_with fail;refine (minusTimes_at (n:=1) rfl rfl hR rfl t2.ds t3.symm hdx hdy (by unfold B64;omega) (Top.length_le hdx hty (by omega)) (by omega)).mono ?_;rintro e w3 ⟨es,o,rfl,hR3,hg3,hel,hde,_,hval⟩;have hve:val es=num s-num t:=by rw [← hvx,← hvy];exact minus_zero hval (by rw [← hel];exact val_lt hde) (by omega)
  have hds:Ds w3 g1 0 es:=Rw.ds hR3 rfl;have hb3:=below_grown t6 t6.size hg3 t4;go_wp2_with fail;refine (text_any _ g1 0 cap1 _ es hds hel hde (by omega) (by rw [HC.out.1];omega) HC.out.2).mono ?_;rintro e w4 ⟨rfl,hb4⟩;have hl:decide (num t≤num s)=true:=by simp;omega
  go_wp2;go_ret2;exact ⟨by rw [hl];rfl,hb3.trans (hb4.mono hb3.size)⟩
theorem Own64.none {w:World} {g cap:Nat} {ds:List Nat} (h:Own64 w g cap ds):Own64 w g cap []:=by
 obtain ⟨T,L,h,_,h2,h3,_⟩:=h;exact ⟨T,L,h,Nat.zero_le _,h2,h3,by simp⟩
def sumTo (l:List ByteArray) (k:Nat):Nat:=((l.take k).map num).sum
theorem sumTo_succ {l:List ByteArray} {k:Nat} (h:k<l.length):sumTo l (k+1)=sumTo l k+num l[k]:=by
 unfold sumTo;rw [List.take_succ_eq_append_getElem h,List.map_append,List.sum_append];show _+(num l[k]+0)=_;rw [Nat.add_zero]
theorem Two.drewN {w W:World} {g1 cap1 g2 cap2:Nat} {xs ys:List Nat} (h:Two w W g1 cap1 xs g2 cap2 ys) (k:Nat):Two w (W.drewN k) g1 cap1 xs g2 cap2 ys:=
 ⟨h.1,h.2.1,h.2.2.1,h.2.2.2.1,h.2.2.2.2.1,below_drewN h.2.2.2.2.2 k⟩
def intA:Value→Nat | .int _ n=>n.toNat|_=>0
def AD (w wr:World) (l:List ByteArray) (k g1 cap1:Nat) (xs:List Nat) (g2 cap2:Nat) (ys:List Nat):Prop:=
 Two w wr g1 cap1 xs g2 cap2 ys∧Dig xs∧val xs=sumTo l k∧xs.length≤1000000+k
theorem add_any (w:World) (ad:Option Addr) (l:List ByteArray) (n c:Nat) (hn:l.length=n) (hmax:n≤1000000) (hs:∀ s∈l,s.size≤1000000)
  (hcell:∀ i (h:i<l.length),∃ lb lo,ad=some ⟨lb,lo,none⟩∧lb<w.heap.size∧w.cell? ⟨lb,lo+i,none⟩=some (.string l[i])) :
  Calls Tryz.prog 181 #[.slice ad n c] w fun e w'=>e=.returned (.string (fb (sumTo l n)))∧Below w.heap.size w w':=by
 have HN:=Lib.hid hn;clear hn;have HC:=Lib.hid hcell;clear hcell;go_enter Tryz.func181,Tryz.ntmps181;go_wp2
 go_quiet (fail)
 go_wp2;have hT:=rooms_two w;have hAD:AD w _ l 0 w.heap.size 16 [] (w.heap.size+1) 16 []:=⟨hT.drewN nq,Dig.nil,rfl,by simp⟩;unfold roomZ at hAD;clear hT
 go_loopw [5,6,13] (fun s x i wr=>∃ (k g1 cap1:Nat) (xs:List Nat) (g2 cap2:Nat) (ys:List Nat),k≤n∧s=.slice (some ⟨g1,0,none⟩) xs.length cap1∧x=.slice (some ⟨g2,0,none⟩) ys.length cap2∧i=.int .i64 k∧AD w wr l k g1 cap1 xs g2 cap2 ys)
  (fun _ _ i _=>n-intA i)
 case atStart=>exact ⟨0,_,16,[],_,16,[],Nat.zero_le _,rfl,rfl,rfl,hAD⟩
 case round =>
  clear hAD;obtain ⟨k,g1,cap1,xs,g2,cap2,ys,hk,rfl,rfl,rfl,hAD⟩:=hrel;obtain ⟨hT,hdx,hvx,hlx⟩:=hAD;have HV:=Lib.hid (And.intro hdx hvx);clear hdx hvx
  by_cases hlt:k<n
  ·have hkl:k<l.length:=by rw [HN.out];exact hlt
   obtain ⟨lb,lo,rfl,hlb,hcl⟩:=HC.out k hkl;have hcw:wr.cell? ⟨lb,lo+k,none⟩=some (.string l[k]):=by rw [hT.2.2.2.2.2.cell hlb];exact hcl
   obtain ⟨s,hs'⟩:∃ s,s=l[k]:=⟨_,rfl⟩;have hss:s.size≤1000000:=by rw [hs'];exact hs _ (List.getElem_mem hkl)
   have hsu:=sumTo_succ hkl;rw [← hs'] at hcw hsu;clear hs' hcl;have HS:=Lib.hid hsu;clear hsu;have hc2:cap2≤maxLen:=hT.2.1.max;go_wp2_with fail;refine (read_any _ g2 cap2 s hT.2.1.none (by omega)).mono ?_;rintro e w1 ⟨g3,cap3,zs,rfl,hO,hg,ha,hdz,hvz,_,hlz⟩;have hT1:=hT.second hO hg ha;clear hT hO hg ha;go_wp2_with fail;refine (plus_any _ g1 cap1 xs.length g3 zs.length cap3 xs zs hT1.1 rfl hT1.2.1.ds rfl (Ne.symm hT1.2.2.1) hT1.2.1.lt HV.out.1 hdz (by omega) (by omega)).mono ?_;rintro e w2 ⟨g4,cap4,es,rfl,hO,hg,ha,hde,hve,hle⟩;have hT2:=hT1.first hO hg ha
   clear hT1 hO hg ha;have hAD2:AD w w2 l (k+1) g4 cap4 es g3 cap3 zs:=⟨hT2,hde,by rw [hve,hvz,HV.out.2,HS.out],by omega⟩;clear hT2 hde hve HV;go_wp2;go_roundw
   case rel=>exact ⟨k+1,g4,cap4,es,g3,cap3,zs,by omega,rfl,rfl,by simp,hAD2⟩
   case measure=>simp [intA];omega
  ·have hkn:k=n:=by omega
   go_wp2_with fail;refine (text_any _ g1 0 cap1 _ xs hT.1.ds rfl HV.out.1 (by omega) hT.1.le hT.1.max).mono ?_;rintro e w4 ⟨rfl,hb4⟩;go_wp2;go_ret;exact ⟨by rw [HV.out.2,hkn];rfl,hT.2.2.2.2.2.trans (hb4.mono hT.2.2.2.2.2.size)⟩
theorem zeroCells_one (k:Nat):Builtin.zeroCells (Value.cells (.int .u64 0)) k=((List.replicate k 0).map dg).toArray:=by
 have h:Value.cells (.int .u64 0)=#[.int .u64 0]:=rfl;unfold Builtin.zeroCells;rw [h]
 apply Array.ext'
 simp [Nat.mod_one,dg]
 apply List.ext_getElem <;> simp
theorem run_append_zeros (w:World) (ty:TypeId) (g cap:Nat) (h:Own64 w g cap []) (k:Nat) (hmax:k≤10000000000000) :
  ∃ g' cap' w',(Builtin.append_ #[147,3] ty #[.slice (some ⟨g,0,none⟩) 0 cap,.int .i64 k]).run Tryz.prog w=.ok (.slice (some ⟨g',0,none⟩) k cap') w' ∧
   Own64 w' g' cap' (List.replicate k 0)∧w.grownBy w' (some g)∧(g'=g∨w.heap.size≤g'):=by
 obtain ⟨i,hi,hz,hs,hb⟩:=info_parts info64;obtain ⟨T,L,hR,h1,h2,h3,h4⟩:=h;have hw:IntKind.i64.wrap (k:Int)=(k:Int):=by rw [IntKind.wrap_i64];omega
 have hk0:¬ ((k:Int)<0):=by omega
 have hbig:¬ (281474976710656<(k:Int)*8):=by omega
 by_cases hroom:k≤cap
 ·have h1c:∀ u∈(List.replicate k 0).map dg,u.oneCell'=true:=by intro u hu;simp at hu;rw [hu.2];rfl
  have hst:=run_storeCells_at Tryz.prog g 0 T ((List.replicate k 0).map dg) 0 L.toArray w hR (by simp;omega) h1c;simp only [Nat.add_zero,Nat.zero_add,List.take_zero,List.map_replicate,List.length_replicate] at hst;simp only [List.map_replicate] at h1c ⊢;refine ⟨g,cap,w.setRow g ([]++(List.replicate k 0).map dg++L.drop k).toArray,?_,⟨T,[]++(List.replicate k 0).map dg++L.drop k,?_,by simpa using hroom,?_,h3,?_⟩,?_,.inl rfl⟩
  ·by_cases hkz:k=0
   ·subst hkz;simp at hst;have hw0:IntKind.i64.wrap 0=0:=by rw [IntKind.wrap_i64];omega
    simp [Builtin.append_,run_underlying Tryz.underlying147,run_underlying Tryz.underlying3,sizeOf,typeInfo,asInt,asIntOf,hi,hb,hw0,Addr.add_lit,hst]
   ·simp [Builtin.append_,run_underlying Tryz.underlying147,run_underlying Tryz.underlying3,sizeOf,typeInfo,zeroValue,asInt,asIntOf,hi,hz,hs,hb,hw,hk0,hbig,hroom,hkz,zeroCells_one,Addr.add_lit,hst]
  ·exact setRow_heap w g L.toArray _ T _ hR
  ·simp;omega
  ·rw [List.nil_append,List.take_left' (by simp)]
  ·exact ⟨rfl,rfl,rfl,by simp,fun k _ hk=>setRow_other w g k _ (fun e=>hk (by rw [e]))⟩
 ·have hf:=run_firstCells_some (P:=Tryz.prog) w.drew 1 0 ⟨g,0,none⟩ 0 cap [] rfl (by simp);have hnc:¬ (281474976710656<Builtin.nextslicecap k cap*8):=by
   have:=growslice_fits (need:=k) (old:=cap) (bytes:=8) (by omega) (by omega)
   omega
  have hge:=grownCap_ge w k cap 119;have hle:=grownCap_le_maxLen w k cap 119 (by unfold maxLen;omega);have hR':=Rw.new w.drew 119 ((List.replicate k 0).map dg++(List.replicate (grownCap w k cap 119-k) 0).map dg);refine ⟨w.heap.size,grownCap w k cap 119,w.drew.alloc (.cells ((List.replicate k 0).map dg++(List.replicate (grownCap w k cap 119-k) 0).map dg).toArray 119),?_,⟨_,_,hR',?_,?_,hle,?_⟩,⟨rfl,rfl,rfl,by simp,fun k hk _=>Below.heap_alloc w.drew _ k hk⟩,.inr (Nat.le_refl _)⟩
  ·have h63:¬ (9223372036854775807<(k:Int)):=by omega
   have hkz:¬ k=0:=by omega
   simp [Builtin.append_,run_underlying Tryz.underlying147,run_underlying Tryz.underlying3,sizeOf,typeInfo,zeroValue,asInt,asIntOf,hi,hz,hs,hb,hw,hk0,hbig,hroom,h63,hkz,zeroCells_one,hnc,Question.forced,hf,newRow,grownCap]
  ·simpa using hge
  ·simp;omega
  ·rw [List.take_left' (by simp)]
theorem wpList_append_zeros {w:World} {ops:Array Oper} {rest:List Oper} {o:Oper} {a:Act} {Q:Exit→Act→World→Prop} (hgd:o.guard=none) (s y:Operand)
  (ho:o.op=.call { callee:=.builtin .append,args:=#[s,y],argTypes:=#[147,3] })
  (g cap:Nat) (hs:a.eval s=.slice (some ⟨g,0,none⟩) 0 cap) (h:Own64 w g cap []) (k:Nat) (c:Int) (hc:c=(k:Int)) (hy:a.eval y=.int .i64 c) (hmax:k≤10000000000000)
  (hk:∀ g' cap' w',Own64 w' g' cap' (List.replicate k 0)→w.grownBy w' (some g)→(g'=g∨w.heap.size≤g')→wpList Tryz.prog ops Q rest (a.put o.dst (.slice (some ⟨g',0,none⟩) k cap')) w'):wpList Tryz.prog ops Q (o::rest) a w:=by
 subst hc;refine wpList_plain hgd fun K hK=>?_;obtain ⟨g',cap',w',hr,h2,h3,h4⟩:=run_append_zeros w o.type g cap h k hmax;unfold Oper.wp execOp;simp only [ho,resolve,invoke,builtin,Sem.run_bind,Sem.run_pure,Result.andThen_ok,List.map_toArray,List.map_cons,List.map_nil,hs,hy,hr];exact hK _ _ (hk g' cap' w' h2 h3 h4)
theorem run_append_row (w:World) (ty:TypeId) (g cap:Nat) (ds:List Nat) (n:Nat) (hn:ds.length=n) (h:Own64 w g cap ds) (a:Addr) (xs:List Nat) (m c:Nat) (hm:xs.length=m) (hx:∀ j u,(xs.map dg)[j]?=some u→w.cell? (a.add j)=some u) (hmax:n≤10000000000) (hmax2:m≤10000000000) :
  ∃ g' cap' w',(Builtin.append_ #[147,147] ty #[.slice (some ⟨g,0,none⟩) n cap,.slice (some a) m c]).run Tryz.prog w=.ok (.slice (some ⟨g',0,none⟩) (n+m) cap') w' ∧
   Own64 w' g' cap' (ds++xs)∧w.grownBy w' (some g)∧(g'=g∨w.heap.size≤g'):=by
 subst hn hm;obtain ⟨i,hi,hz,hs,hb⟩:=info_parts info64;obtain ⟨T,L,hR,h1,h2,h3,h4⟩:=h;have h1c:∀ u∈xs.map dg,u.oneCell'=true:=by
  intro u hu;obtain ⟨d,_,rfl⟩:=List.mem_map.1 hu;rfl
 by_cases hroom:ds.length+xs.length≤cap
 ·have hf:=run_firstCells_some (P:=Tryz.prog) w 1 xs.length a xs.length c (xs.map dg) (by simp) hx;have hst:=run_storeCells_at Tryz.prog g (ds.length*1) T (xs.map dg) 0 L.toArray w hR (by simp;omega) h1c;simp only [Nat.add_zero,Nat.mul_one,List.length_map] at hst;refine ⟨g,cap,w.setRow g (L.take ds.length++xs.map dg++L.drop (ds.length+xs.length)).toArray,?_,⟨T,L.take ds.length++xs.map dg++L.drop (ds.length+xs.length),?_,by simpa using hroom,?_,h3,?_⟩,?_,.inl rfl⟩
  ·simp [Builtin.append_,run_underlying Tryz.underlying147,sizeOf,typeInfo,hi,Builtin.lenOf,hroom,hs,hf,Addr.add_lit,hst]
  ·exact setRow_heap w g L.toArray _ T _ hR
  ·simp;omega
  ·rw [List.length_append,List.take_left' (by rw [List.length_append,List.length_take,List.length_map];omega),h4];simp
  ·exact ⟨rfl,rfl,rfl,by simp,fun k _ hk=>setRow_other w g k _ (fun e=>hk (by rw [e]))⟩
 ·have hold:∀ j u,(ds.map dg)[j]?=some u→w.cell? ((⟨g,0,none⟩:Addr).add j)=some u:=by
   intro j u hj;rw [addr_add0,hR.cell,← hj,← h4,List.getElem?_take_of_lt]
   have:=(List.getElem?_eq_some_iff.1 hj).1
   simpa using this
  have hr:=run_append_grow (P:=Tryz.prog) w 147 ty 119 i _ Tryz.underlying147 hi hz ⟨g,0,none⟩ ds.length cap (ds.map dg) (by rw [List.length_map,hs,Nat.mul_one]) hold a xs.length c (xs.map dg) (by simp [hs]) hx (by omega) (by omega) (growslice_fits (by omega) (by rw [hb];omega));have hge:=grownCap_ge w (ds.length+xs.length) cap 119;have hle:=grownCap_le_maxLen w (ds.length+xs.length) cap 119 (by unfold maxLen;omega);rw [zeroCells_one] at hr;generalize grownCap w (ds.length+xs.length) cap 119=G at *;have hL:(ds.map dg).toArray++(xs.map dg).toArray++((List.replicate (G-(ds.length+xs.length)) 0).map dg).toArray=(ds.map dg++xs.map dg++(List.replicate (G-(ds.length+xs.length)) 0).map dg).toArray:=by
   apply Array.ext';simp
  rw [hL] at hr;refine ⟨_,_,_,hr,⟨119,ds.map dg++xs.map dg++(List.replicate (G-(ds.length+xs.length)) 0).map dg,heap_alloc_new w.drew _,?_,?_,hle,?_⟩,⟨rfl,rfl,rfl,by simp,fun k hk _=>Below.heap_alloc w.drew _ k hk⟩,.inr (Nat.le_refl _)⟩
  ·rw [List.length_append];exact hge
  ·simp;omega
  ·rw [List.length_append,List.take_left' (by simp)];simp
theorem wpList_append_row {w:World} {ops:Array Oper} {rest:List Oper} {o:Oper} {a:Act} {Q:Exit→Act→World→Prop} (hgd:o.guard=none) (s y:Operand)
  (ho:o.op=.call { callee:=.builtin .append,args:=#[s,y],argTypes:=#[147,147] })
  (g cap:Nat) (ds:List Nat) (n:Nat) (hs:a.eval s=.slice (some ⟨g,0,none⟩) n cap) (hn:ds.length=n) (h:Own64 w g cap ds) (b:Nat) (xs:List Nat) (m c:Nat) (hy:a.eval y=.slice (some ⟨b,0,none⟩) m c) (hm:xs.length=m) (hx:Ds w b 0 xs)
  (hmax:n≤10000000000) (hmax2:m≤10000000000)
  (hk:∀ g' cap' w',Own64 w' g' cap' (ds++xs)→w.grownBy w' (some g)→(g'=g∨w.heap.size≤g')→wpList Tryz.prog ops Q rest (a.put o.dst (.slice (some ⟨g',0,none⟩) (n+m) cap')) w'):wpList Tryz.prog ops Q (o::rest) a w:=by
 refine wpList_plain hgd fun K hK=>?_;have hx' : ∀ j u,(xs.map dg)[j]?=some u→w.cell? ((⟨b,0,none⟩:Addr).add j)=some u:=by
  intro j u hj;obtain ⟨hj1,hj2⟩:=List.getElem?_eq_some_iff.1 hj;rw [addr_add0,← hj2]
  have:=hx j (by simpa using hj1)
  rw [Nat.zero_add] at this;simpa using this
 obtain ⟨g',cap',w',hr,h2,h3,h4⟩:=run_append_row w o.type g cap ds n hn h ⟨b,0,none⟩ xs m c hm hx' hmax hmax2;unfold Oper.wp execOp;simp only [ho,resolve,invoke,builtin,Sem.run_bind,Sem.run_pure,Result.andThen_ok,List.map_toArray,List.map_cons,List.map_nil,hs,hy,hr];exact hK _ _ (hk g' cap' w' h2 h3 h4)
def bothZ:Obj:=.cells #[.int .u64 0,.int .u64 0,.int .u64 0,.int .u64 0,.int .u64 0,.int .u64 0,.int .u64 0,.int .u64 0,.int .u64 0,.int .u64 0,.int .u64 0,.int .u64 0,.int .u64 0,.int .u64 0,.int .u64 0,.int .u64 0,.int .u64 0,.int .u64 0,.int .u64 0,.int .u64 0,.int .u64 0,.int .u64 0,.int .u64 0,.int .u64 0,.int .u64 0,.int .u64 0,.int .u64 0,.int .u64 0,.int .u64 0,.int .u64 0,.int .u64 0,.int .u64 0] 191
theorem both_own (w:World):Own64 (w.alloc bothZ) w.heap.size 32 []:=by
 have h:=Rw.new w 191 ((List.replicate 32 0).map dg);exact Own64.empty (L:=(List.replicate 32 0).map dg) h (by unfold maxLen;simp)
def intM:Value→Nat | .int _ n=>n.toNat|_=>0
def Thr (w W:World) (g1 c1:Nat) (xs:List Nat) (g2 c2:Nat) (ys:List Nat) (g3 c3:Nat) (zs:List Nat):Prop:=
 Two w W g1 c1 xs g2 c2 ys∧Own64 W g3 c3 zs∧g3≠g1∧g3≠g2∧w.heap.size≤g3
theorem rooms_three (w:World):Thr w (((w.alloc roomZ).alloc roomZ).alloc bothZ) w.heap.size 16 [] (w.heap.size+1) 16 [] (w.heap.size+1+1) 32 []:=by
 obtain ⟨h1,h2,h3,h4,h5,h6⟩:=rooms_two w;have h:=both_own ((w.alloc roomZ).alloc roomZ);rw [World.size_alloc,World.size_alloc] at h;exact ⟨⟨h1.alloc _,h2.alloc _,h3,h4,h5,h6.alloc h6.size _⟩,h,by omega,by omega,by omega⟩
section
variable {w W w1 : World} {g1 c1 g2 c2 g3 c3 g4 c4 : Nat} {xs ys zs us : List Nat}
theorem Thr.drew (h:Thr w W g1 c1 xs g2 c2 ys g3 c3 zs):Thr w W.drew g1 c1 xs g2 c2 ys g3 c3 zs:=
 ⟨⟨h.1.1,h.1.2.1,h.1.2.2.1,h.1.2.2.2.1,h.1.2.2.2.2.1,h.1.2.2.2.2.2.drew⟩,h.2⟩
theorem Thr.first (h:Thr w W g1 c1 xs g2 c2 ys g3 c3 zs) (hO:Own64 w1 g4 c4 us) (hg:W.grownBy w1 (some g1)) (ha:g4=g1∨W.heap.size≤g4):Thr w w1 g4 c4 us g2 c2 ys g3 c3 zs:=by
 obtain ⟨k1,k2,k3,k4,k5⟩:=h;have l:=k2.lt;exact ⟨k1.first hO hg ha,k2.grown hg (by simp;omega),by omega,k4,k5⟩
theorem Thr.second (h:Thr w W g1 c1 xs g2 c2 ys g3 c3 zs) (hO:Own64 w1 g4 c4 us) (hg:W.grownBy w1 (some g2)) (ha:g4=g2∨W.heap.size≤g4):Thr w w1 g1 c1 xs g4 c4 us g3 c3 zs:=by
 obtain ⟨k1,k2,k3,k4,k5⟩:=h;have l:=k2.lt;exact ⟨k1.second hO hg ha,k2.grown hg (by simp;omega),k3,by omega,k5⟩
theorem Thr.third (h:Thr w W g1 c1 xs g2 c2 ys g3 c3 zs) (hO:Own64 w1 g4 c4 us) (hg:W.grownBy w1 (some g3)) (ha:g4=g3∨W.heap.size≤g4):Thr w w1 g1 c1 xs g2 c2 ys g4 c4 us:=by
 obtain ⟨⟨h1,h2,h3,h4,h5,h6⟩,k2,k3,k4,k5⟩:=h;have l1:=h1.lt;have l2:=h2.lt;have hsz:=h6.size;exact ⟨⟨h1.grown hg (by simp;omega),h2.grown hg (by simp;omega),h3,h4,h5,below_grown h6 hsz hg k5⟩,hO,by omega,by omega,by omega⟩
end
def MU (w wr:World) (g1:Nat) (xs:List Nat) (g2:Nat) (ys:List Nat) (g3:Nat) (T:TypeId) (post:List Value) (es:List Nat) (k:Nat):Prop:=
 Ds wr g1 0 xs∧Ds wr g2 0 ys∧Rw wr g3 T ([]++es.map dg++post)∧Dig es∧es.length=xs.length+ys.length∧val es=val (xs.take k)*val ys∧Below w.heap.size w wr
theorem MU.step {w wr w1:World} {g1 g2 g3 k o:Nat} {xs ys es us:List Nat} {T:TypeId} {post:List Value} (h:MU w wr g1 xs g2 ys g3 T post es k) (hdx:Dig xs) (hdy:Dig ys) (hk:k<xs.length) (h13:g3≠g1) (h23:g3≠g2) (hw:w.heap.size≤g3)
  (hR:Rw w1 g3 T ((es.take k).map dg++us.map dg++post)) (hg:wr.grownBy w1 (some g3)) (hul:us.length=(es.drop k).length) (hdu:Dig us) (hv:val us+B64 ^ (es.drop k).length*o=val (es.drop k)+xs[k]*val ys):MU w w1 g1 xs g2 ys g3 T post (es.take k++us) (k+1):=by
 obtain ⟨h1,h2,h3,h4,h5,h6,h7⟩:=h;have hkl:k≤es.length:=by omega
 have hlen:(es.take k++us).length=xs.length+ys.length:=by rw [List.length_append,hul,List.length_take,List.length_drop];omega
 have hd:Dig (es.take k++us):=(h4.take k).append hdu;refine ⟨h1.grown hg (by simp;omega),h2.grown hg (by simp;omega),by rw [List.nil_append,List.map_append];exact hR,hd,hlen,?_,below_grown h7 h7.size hg hw⟩;have e1:=val_append (es.take k) us;have e2:=val_split es k hkl;have e3:=take_succ_val xs hk;have elen:(es.take k).length=k:=by rw [List.length_take];omega
 rw [elen] at e1;have hB:=val_lt hd;rw [hlen] at hB;have hx:=val_lt (hdx.take (k+1));have hy:=val_lt hdy;have hxl:(xs.take (k+1)).length=k+1:=by rw [List.length_take];omega
 rw [hxl] at hx;have hdl:(es.drop k).length=xs.length+ys.length-k:=by rw [List.length_drop,h5]
 rw [hdl] at hv;have hpow:B64 ^ k*B64 ^ (xs.length+ys.length-k)=B64 ^ (xs.length+ys.length):=by rw [← Nat.pow_add];congr 1;omega
 have hEq:val (es.take k++us)+B64 ^ (xs.length+ys.length)*o=val (xs.take (k+1))*val ys:=by
  have:=congrArg (fun x=>val (es.take k)+B64 ^ k*x) hv
  simp only [Nat.mul_add,← Nat.mul_assoc] at this;rw [hpow] at this;rw [e1,e3,Nat.add_mul,← h6,e2];omega
 have hlt:val (xs.take (k+1))*val ys<B64 ^ (xs.length+ys.length):=by
  have a1:val (xs.take (k+1))*val ys≤B64 ^ (k+1)*val ys:=Nat.mul_le_mul_right _ (Nat.le_of_lt hx);have a2:B64 ^ (k+1)*val ys<B64 ^ (k+1)*B64 ^ ys.length:=Nat.mul_lt_mul_of_pos_left hy (Nat.pow_pos B64_pos);have a3:B64 ^ (k+1)*B64 ^ ys.length≤B64 ^ (xs.length+ys.length):=by
   rw [← Nat.pow_add];exact Nat.pow_le_pow_right B64_pos (by omega)
  omega
 have ho:o=0:=by
  cases o with
  | zero=>rfl
  | succ o=>rw [Nat.mul_succ] at hEq;omega
 rw [ho,Nat.mul_zero,Nat.add_zero] at hEq;exact hEq
theorem mul_any (w:World) (s t:ByteArray) (hs:s.size≤100000000) (ht:t.size≤100000000) :
  Calls Tryz.prog 162 #[.string s,.string t] w fun e w'=>e=.returned (.string (fb (num s*num t)))∧Below w.heap.size w w':=by
 go_enter Tryz.func162,Tryz.ntmps162;go_wp2;have hT:=(rooms_three w).drew;unfold roomZ bothZ at hT;refine wp_region_any (by kernel_rfl) ?_
 change wpAny _ _ _ _ _ _ _ (World.drew _)
 generalize World.drew _=W at *;refine wpAny_take (i:=0) (v:=?v0) rfl (by kernel_rfl) (by kernel_rfl) (by kernel_rfl) (fun _ _ _ h=>h) (Or.inl ⟨by rfl,?y0⟩) ?_
 case y0=>intro w;go_simp;first|done|with_reducible rfl
 refine wpAny_take (i:=1) (v:=?v1) rfl (by kernel_rfl) (by kernel_rfl) (by kernel_rfl) (fun _ _ _ h=>h) (Or.inl ⟨by rfl,?y1⟩) ?_
 case y1=>intro w;go_simp;first|done|with_reducible rfl
 refine wpAny_take (i:=3) (v:=?v3) rfl (by kernel_rfl) (by kernel_rfl) (by kernel_rfl) (fun _ _ _ h=>h) (Or.inl ⟨by rfl,?y3⟩) ?_
 case y3=>intro w;go_simp;first|done|with_reducible rfl
 refine wpAny_take (i:=4) (v:=?v4) rfl (by kernel_rfl) (by kernel_rfl) (by kernel_rfl) (fun _ _ _ h=>h) (Or.inl ⟨by rfl,?y4⟩) ?_
 case y4=>intro w;go_simp;first|done|with_reducible rfl
 refine wpAny_ready (rs:=[2]) (by kernel_rfl) (by simp) ?_;refine AllReady.cons rfl (fun K hK=>?_) AllReady.nil;go_simp;refine (read_any _ w.heap.size 16 s hT.1.1 (by omega)).mono ?_;rintro e w1 ⟨g1,cap1,xs,rfl,hO,hg,ha,hdx,hvx,htx,hlx⟩;have hT1:=hT.first hO hg ha
 clear hT hO hg ha;refine hK _ _ ?_;clear hK K;refine wpAny_ready (rs:=[5]) (by kernel_rfl) (by simp) ?_;refine AllReady.cons rfl (fun K hK=>?_) AllReady.nil;go_simp;refine (read_any _ (w.heap.size+1) 16 t hT1.1.2.1 (by omega)).mono ?_;rintro e w2 ⟨g2,cap2,ys,rfl,hO,hg,ha,hdy,hvy,hty,hly⟩;have hT2:=hT1.second hO hg ha;clear hT1 hO hg ha;refine hK _ _ ?_;clear hK K;refine wpAny_take (i:=6) (v:=?v6) rfl (by kernel_rfl) (by kernel_rfl) (by kernel_rfl) (fun _ _ _ h=>h) (Or.inl ⟨by rfl,?y6⟩) ?_
 case y6=>intro w;go_simp;first|done|with_reducible rfl
 refine wpAny_take (i:=7) (v:=?v7) rfl (by kernel_rfl) (by kernel_rfl) (by kernel_rfl) (fun _ _ _ h=>h) (Or.inl ⟨by rfl,?y7⟩) ?_
 case y7=>intro w;go_simp;first|done|with_reducible rfl
 refine wpAny_done (by kernel_rfl) ?_ _;go_simp;go_wp2_with (first
  | (at_builtin;refine wpList_append_zeros rfl (.tmp 19) (.tmp 24) rfl (w.heap.size+1+1) 32 rfl hT2.2.1 (xs.length+ys.length) _ (by omega) rfl (by omega) ?_))
 intro g3 cap3 w3 hO3 hg3 ha3;have hT3:=hT2.third hO3 hg3 ha3;clear hT2 hO3 hg3 ha3;obtain ⟨⟨t1,t2,t3,t4,t5,t6⟩,t7,t8,t9,t10⟩:=hT3;obtain ⟨T,post,hR,hcp,hcm⟩:=t7.parts;rw [List.length_replicate] at hcp;have hMU:MU w w3 g1 xs g2 ys g3 T post (List.replicate (xs.length+ys.length) 0) 0:=by
  refine ⟨t1.ds,t2.ds,hR,Dig.replicate _,by simp,?_,t6⟩;rw [val_replicate];simp [val]
 have HC:=Lib.hid (And.intro hcp hcm);have hcap:xs.length+ys.length≤cap3:=by omega
 have HX:=Lib.hid (And.intro hvx hvy);clear t1 t2 t6 t7 hR hcp hcm hvx hvy htx hty;go_wp2
 go_loopw [28] (fun i wr=>∃ (k:Nat) (es:List Nat),k≤xs.length∧i=.int .i64 k∧MU w wr g1 xs g2 ys g3 T post es k)
  (fun i _=>xs.length-intM i)
 case atStart=>exact ⟨0,_,Nat.zero_le _,rfl,hMU⟩
 case round =>
  clear hMU;obtain ⟨k,es,hk,rfl,hMU⟩:=hrel
  by_cases hlt:k<xs.length
  ·have hcx:=hMU.1 k hlt;rw [Nat.zero_add] at hcx;unfold dg at hcx;obtain ⟨x,hx⟩:∃ x,x=xs[k]:=⟨_,rfl⟩;rw [← hx] at hcx;have hxB:x<B64:=by rw [hx];exact hdx.get hlt
   have hel:es.length=xs.length+ys.length:=hMU.2.2.2.2.1;have hR3:Rw wr g3 T ((es.take k).map dg++(es.drop k).map dg++post):=by
    rw [← List.map_append,List.take_append_drop];exact hMU.2.2.1
   have HX2:=Lib.hid (And.intro hx hel);clear hx;go_wp2_with fail;refine (plusTimes_at (n:=x) (by rw [List.length_drop,hel]) rfl hR3 (by simp;omega) hMU.2.1 (Ne.symm t9) (hMU.2.2.2.1.drop k) hdy hxB (by simp;omega) (by simp;omega)).mono ?_;rintro e w4 ⟨us,o,rfl,hR4,hg4,hul,hdu,_,hval⟩;have hMU4:MU w w4 g1 xs g2 ys g3 T post (es.take k++us) (k+1):=by
    refine hMU.step hdx hdy hlt t8 t9 t10 hR4 hg4 (by rw [hul,List.length_drop,hel]) hdu (o:=o) ?_;rw [List.length_drop,hel,← HX2.out.1];exact hval
   clear hMU hR4 hg4 hul hdu hval hR3 hel;go_wp2;go_roundw
   case rel=>exact ⟨k+1,_,by omega,by simp,hMU4⟩
   case measure=>simp [intM];omega
  ·have hkn:k=xs.length:=by omega
   obtain ⟨_,_,m3,m4,m5,m6,m7⟩:=hMU;have hds:Ds wr g3 0 es:=Rw.ds m3 rfl;go_wp2_with fail;refine (text_any _ g3 0 cap3 _ es hds m5 m4 (by omega) hcap HC.out.2).mono ?_;rintro e w4 ⟨rfl,hb4⟩;have hve:val es=num s*num t:=by rw [m6,hkn,List.take_length,HX.out.1,HX.out.2]
   clear m6;go_wp2;go_ret;exact ⟨rfl,m7.trans (hb4.mono m7.size)⟩
theorem Two.drew {w W:World} {g1 cap1 g2 cap2:Nat} {xs ys:List Nat} (h:Two w W g1 cap1 xs g2 cap2 ys):Two w W.drew g1 cap1 xs g2 cap2 ys:=
 ⟨h.1,h.2.1,h.2.2.1,h.2.2.2.1,h.2.2.2.2.1,h.2.2.2.2.2.drew⟩
theorem Top.zero {ds:List Nat} (h:Top ds):val ds=0↔ds=[]:=by
 constructor
 ·intro h0;refine Classical.byContradiction fun hn=>?_
  have:=h.ge hn
  have:=Nat.pow_pos (n:=ds.length-1) B64_pos
  omega
 ·rintro rfl;rfl
theorem Top.last {ds:List Nat} (h:Top ds) (hn:ds≠[]):0<ds.getD (ds.length-1) 0:=by
 rcases h with h|⟨l,d,rfl,hd⟩
 ·exact absurd h hn
 ·simp;omega
def divV (a b:Nat):Value:=if b=0 then .tuple #[.string (fb 0),.string (fb 0),.bool false] else .tuple #[.string (fb (a / b)),.string (fb (a % b)),.bool true]
def shlN (a:Nat) (n:Int):Nat:=if n<0 then a else a*2 ^ n.toNat
theorem val_shl (m:Nat) (xs:List Nat):val (List.replicate (m / 64) 0++ups (m % 64) 0 xs)=val xs*2 ^ m:=by
 rw [val_append,val_replicate,List.length_replicate,val_ups (Nat.mod_lt _ (by omega)),Nat.zero_add,Nat.add_zero];have e:B64 ^ (m / 64)=2 ^ (64*(m / 64)):=by rw [Nat.pow_mul];rfl
 rw [e,Nat.mul_comm,Nat.mul_assoc,← Nat.pow_add]
 congr 2
 omega
theorem shl_any (w:World) (s:ByteArray) (n:Int) (hs:s.size≤100000000) (hn:n≤1000000000) :
  Calls Tryz.prog 164 #[.string s,.int .i64 n] w fun e w'=>e=.returned (.string (fb (shlN (num s) n)))∧Below w.heap.size w w':=by
 have h1:=fb_num_size s;go_enter Tryz.func164,Tryz.ntmps164;go_wp2_with fail;refine (bare_any _ s).mono ?_;rintro e w' ⟨rfl,rfl⟩
 by_cases h0:num s=0
 ·have hE:=empty_of h0;have HV:Hid (shlN (num s) n=num s):=by unfold shlN;rw [h0];split;exact rfl;rw [Nat.zero_mul];exact rfl
  clear h0;go_wp2_with fail;refine (clone_any _ _ (by omega)).mono ?_;rintro e w' ⟨rfl,hb⟩;go_wp2;go_ret;exact ⟨by rw [HV.out];rfl,hb⟩
 ·have hE:=empty_not h0
  by_cases hn0:n<0
  ·have HV:Hid (shlN (num s) n=num s):=by unfold shlN;rw [if_pos hn0];exact rfl
   have hd:decide (n<0)=true:=by simpa using hn0
   clear h0 hn0;go_wp2_with fail;refine (clone_any _ _ (by omega)).mono ?_;rintro e w' ⟨rfl,hb⟩;go_wp2;go_ret;exact ⟨by rw [HV.out];rfl,hb⟩
  ·obtain ⟨m,rfl⟩:∃ m:Nat,n=m:=⟨n.toNat,by omega⟩;have HV:Hid (shlN (num s) (m:Int)=num s*2 ^ m):=by unfold shlN;rw [if_neg hn0];exact rfl
   clear hn0 h0;have hq:((m:Int) / 64)=((m / 64:Nat):Int):=by omega
   have HQ:=Lib.hid hq;clear hq;have hT:=rooms_two w;unfold roomZ at hT;go_wp2_with (first
    | (at_builtin;refine wpList_append_zeros rfl (.tmp 24) (.tmp 26) rfl (w.heap.size+1) 16 rfl hT.2.1 (m / 64) _ HQ.out rfl (by omega) ?_))
   intro g2 cap2 w1 hO hg ha;have hT1:=hT.second hO hg (by rcases ha with h|h;exact .inl h;right;rw [World.size_alloc,World.size_alloc];exact h);clear hT hO hg ha;go_wp2_with fail;refine (read_any _ w.heap.size 16 _ hT1.1 (by omega)).mono ?_;rintro e w2 ⟨g1,cap1,xs,rfl,hO,hg,ha,hdx,hvx,_,hlx⟩;have hT2:=hT1.first hO hg ha
   clear hT1 hO hg ha;rw [num_fb] at hvx;have hm:(m:Int) % 64=((m % 64:Nat):Int):=by omega
   have hw:IntKind.u64.wrap ((m:Int) % 64)=((m % 64:Nat):Int):=by rw [IntKind.wrap_u64];omega
   have hw2:IntKind.u64.wrap ((m % 64:Nat):Int)=((m % 64:Nat):Int):=by rw [← hm];exact hw
   have HM:=Lib.hid hm;clear hm;obtain ⟨t1,t2,t3,t4,t5,t6⟩:=hT2;go_wp2_with fail;refine (up_at (n:=m % 64) rfl t1.ds hdx (Nat.mod_lt _ (by omega)) (by omega)).mono ?_;rintro e w3 ⟨rfl,hR,hb⟩;have t2':=t2.below hb t2.lt;have hb3:=t6.trans (hb.mono t6.size);have hul:(ups (m % 64) 0 xs).length=xs.length+1:=length_ups _ _ _;have hud:=dig_ups (n:=m % 64) (Nat.mod_lt _ (by omega)) hdx (c:=0) (Nat.two_pow_pos _);have hvs:=val_shl m xs;have HU:=Lib.hid (And.intro hul hvs);clear hul hvs;generalize ups (m % 64) 0 xs=us at *;go_wp2_with (first
    | (at_builtin;refine wpList_append_row rfl (.tmp 28) (.tmp 35) rfl g2 cap2 (List.replicate (m / 64) 0) (m / 64) rfl (by simp) t2' w2.heap.size us (xs.length+1) _ rfl HU.out.1 hR.ds0 (by omega) (by omega) ?_))
   intro g4 cap4 w4 hO4 hg4 ha4;have hb4:=below_grown hb3 hb3.size hg4 t5;go_wp2_with fail;refine (text_any _ g4 0 cap4 _ _ hO4.ds (by simp [HU.out.1]) ((Dig.replicate _).append hud) (by omega) (by have:=hO4.le;simp [HU.out.1] at this;omega) hO4.max).mono ?_;rintro e w5 ⟨rfl,hb5⟩;go_wp2;go_ret;exact ⟨by rw [HV.out,← hvx,← HU.out.2];rfl,hb4.trans (hb5.mono hb4.size)⟩
def shrN (a:Nat) (n:Int):Nat:=if n<0 then a else a / 2 ^ n.toNat
theorem pow256 (k:Nat):256 ^ k=2 ^ (8*k):=by rw [Nat.pow_mul]
theorem shr_zero {a m k:Nat} (ha:a<256 ^ k) (h:k≤m / 8):a / 2 ^ m=0:=by
 refine Nat.div_eq_of_lt (Nat.lt_of_lt_of_le ha ?_);rw [pow256];exact Nat.pow_le_pow_right (by omega) (by omega)
theorem shr_parts (a m:Nat):a / 256 ^ (m / 8) / 2 ^ (m % 8)=a / 2 ^ m:=by
 rw [pow256,Nat.div_div_eq_div_mul,← Nat.pow_add]
 congr 2
 omega
theorem num_head (t:ByteArray) (k:Nat) (h:k≤t.size):num (t.extract 0 (t.size-k))=num t / 256 ^ k:=by
 have hl:t.data.toList.length=t.size:=rfl;have h1:(t.extract 0 (t.size-k)).data.toList=t.data.toList.take (t.size-k):=by
  rw [ByteArray.data_extract,Array.toList_extract,List.extract_eq_take_drop];simp
 unfold num;rw [h1];have h2:=numL_append (t.data.toList.take (t.size-k)) (t.data.toList.drop (t.size-k));rw [List.take_append_drop] at h2;have h3:=numL_lt (t.data.toList.drop (t.size-k));have h4:(t.data.toList.drop (t.size-k)).length=k:=by rw [List.length_drop,hl];omega
 rw [h4] at h2 h3;rw [h2,Nat.mul_comm,Nat.mul_add_div (Nat.pow_pos (by omega)),Nat.div_eq_of_lt h3,Nat.add_zero]
theorem shr_any (w:World) (s:ByteArray) (n:Int) (hs:s.size≤100000000) (hn:n≤9223372036854775807) :
  Calls Tryz.prog 102 #[.string s,.int .i64 n] w fun e w'=>e=.returned (.string (fb (shrN (num s) n)))∧Below w.heap.size w w':=by
 have h1:=fb_num_size s;go_enter Tryz.func102,Tryz.ntmps102;go_wp2_with fail;refine (bare_any _ s).mono ?_;rintro e w' ⟨rfl,rfl⟩
 by_cases hn0:n<0
 ·have HV:Hid (shrN (num s) n=num s):=by unfold shrN;rw [if_pos hn0];exact rfl
  have hd:decide (n<0)=true:=by simpa using hn0
  clear hn0;go_wp2_with fail;refine (clone_any _ _ (by omega)).mono ?_;rintro e w' ⟨rfl,hb⟩;go_wp2;go_ret;exact ⟨by rw [HV.out];rfl,hb⟩
 ·obtain ⟨m,rfl⟩:∃ m:Nat,n=m:=⟨n.toNat,by omega⟩;have HV:Hid (shrN (num s) (m:Int)=num s / 2 ^ m):=by unfold shrN;rw [if_neg hn0];exact rfl
  clear hn0
  by_cases hbig:(fb (num s)).size≤m / 8
  ·have hd:decide (((fb (num s)).size:Int)≤(m:Int) / 8)=true:=by simp;omega
   have hz:num s / 2 ^ m=0:=by
    have:=num_lt (fb (num s))
    rw [num_fb] at this;exact shr_zero this hbig
   have HZ:=Lib.hid hz;clear hz hbig;go_wp2;go_ret;exact ⟨by rw [HV.out,HZ.out];rfl,Below.refl _ _⟩
  ·have hd:decide (((fb (num s)).size:Int)≤(m:Int) / 8)=false:=by simp;omega
   obtain ⟨q,hq⟩:∃ q,q=m / 8:=⟨_,rfl⟩;have hqm:(m:Int) / 8=(q:Int):=by omega
   have hqs:q<(fb (num s)).size:=by omega
   have hnh:=num_head (fb (num s)) q (by omega);rw [num_fb] at hnh;have hsub:(((fb (num s)).size:Int)-(q:Int)).toNat=(fb (num s)).size-q:=by omega
   have HQ:=Lib.hid (And.intro hq hnh);clear hq hnh;have wq:IntKind.i64.wrap (q:Int)=(q:Int):=by rw [IntKind.wrap_i64];omega
   have wsq:IntKind.i64.wrap (((fb (num s)).size:Int)-(q:Int))=((fb (num s)).size:Int)-(q:Int):=by rw [IntKind.wrap_i64];omega
   have b0:(0:Int)≤((fb (num s)).size:Int)-(q:Int):=by omega
   have hqle:q≤(fb (num s)).size:=by omega
   have b1:((fb (num s)).size:Int)-(q:Int)≤((fb (num s)).size:Int):=by omega
   have hT:Own64 (w.alloc roomZ).drew w.heap.size 16 []:=(room_own w).drew;have hB:Below w.heap.size w (w.alloc roomZ).drew:=((Below.refl _ _).alloc (Nat.le_refl _) _).drew;have hB2:w.heap.size≤(w.alloc roomZ).drew.heap.size:=hB.size;unfold roomZ at hT hB hB2;clear hbig;go_wp2;refine wp_region_any (by kernel_rfl) ?_
   change wpAny _ _ _ _ _ _ _ (World.drew _)
   generalize World.drew _=W at *;refine wpAny_take (i:=0) (v:=?v0) rfl (by kernel_rfl) (by kernel_rfl) (by kernel_rfl) (fun _ _ _ h=>h) (Or.inl ⟨by rfl,?y0⟩) ?_
   case y0=>intro w;go_simp;first|done|with_reducible rfl
   refine wpAny_take (i:=1) (v:=?v1) rfl (by kernel_rfl) (by kernel_rfl) (by kernel_rfl) (fun _ _ _ h=>h) (Or.inl ⟨by rfl,?y1⟩) ?_
   case y1=>intro w;go_simp;first|done|with_reducible rfl
   refine wpAny_take (i:=2) (v:=?v2) rfl (by kernel_rfl) (by kernel_rfl) (by kernel_rfl) (fun _ _ _ h=>h) (Or.inl ⟨by rfl,?y2⟩) ?_
   case y2=>intro w;go_simp;first|done|with_reducible rfl
   refine wpAny_take (i:=3) (v:=?v3) rfl (by kernel_rfl) (by kernel_rfl) (by kernel_rfl) (fun _ _ _ h=>h) (Or.inl ⟨by rfl,?y3⟩) ?_
   case y3=>intro w;go_simp;first|done|with_reducible rfl
   refine wpAny_take (i:=4) (v:=?v4) rfl (by kernel_rfl) (by kernel_rfl) (by kernel_rfl) (fun _ _ _ h=>h) (Or.inl ⟨by rfl,?y4⟩) ?_
   case y4=>intro w;go_simp;first|done|with_reducible rfl
   refine wpAny_take (i:=5) (v:=?v5) rfl (by kernel_rfl) (by kernel_rfl) (by kernel_rfl) (fun _ _ _ h=>h) (Or.inl ⟨by rfl,?y5⟩) ?_
   case y5=>intro w;go_simp;first|done|with_reducible rfl
   refine wpAny_take (i:=6) (v:=?v6) rfl (by kernel_rfl) (by kernel_rfl) (by kernel_rfl) (fun _ _ _ h=>h) (Or.inl ⟨by rfl,?y6⟩) ?_
   case y6=>intro w;go_simp;first|done|with_reducible rfl
   refine wpAny_take (i:=7) (v:=?v7) rfl (by kernel_rfl) (by kernel_rfl) (by kernel_rfl) (fun _ _ _ h=>h) (Or.inl ⟨by rfl,?y7⟩) ?_
   case y7=>intro w;go_simp;first|done|with_reducible rfl
   refine wpAny_ready (rs:=[8]) (by kernel_rfl) (by simp) ?_;refine AllReady.cons rfl (fun K hK=>?_) AllReady.nil;go_simp;have hts:((fb (num s)).extract 0 ((fb (num s)).size-q)).size=(fb (num s)).size-q:=by rw [ByteArray.size_extract];omega
   have HTS:=Lib.hid hts;clear hts;refine (read_any _ w.heap.size 16 _ hT (by rw [HTS.out];omega)).mono ?_;rintro e w1 ⟨g1,cap1,xs,rfl,hO,hg,ha,hdx,hvx,_,hlx⟩;refine hK _ _ ?_;clear hK K;refine wpAny_take (i:=9) (v:=?v9) rfl (by kernel_rfl) (by kernel_rfl) (by kernel_rfl) (fun _ _ _ h=>h) (Or.inl ⟨by rfl,?y9⟩) ?_
   case y9=>intro w;go_simp;first|done|with_reducible rfl
   refine wpAny_done (by kernel_rfl) ?_ _;go_simp;have hb1:=below_grown hB hB2 hg (Nat.le_refl _);have hg1:w.heap.size≤g1:=by omega
   rw [HQ.out.2,HQ.out.1] at hvx;rw [HTS.out] at hlx;clear hT hB hB2 hg ha;have hm:(m:Int) % 8=((m % 8:Nat):Int):=by omega
   have hw:IntKind.u64.wrap ((m:Int) % 8)=((m % 8:Nat):Int):=by rw [IntKind.wrap_u64];omega
   have hw2:IntKind.u64.wrap ((m % 8:Nat):Int)=((m % 8:Nat):Int):=by rw [← hm];exact hw
   have HM:=Lib.hid hm;clear hm;obtain ⟨T,post,hR,hcp,hcm⟩:=hO.parts;have HC:=Lib.hid (And.intro hcp hcm);clear hcp hcm;go_wp2_with fail;refine (down_any _ g1 0 cap1 T [] post xs (m % 8) hR rfl hdx (by omega) (by omega)).mono ?_;rintro e w2 ⟨rfl,hR2,hg2⟩;have hb2:=below_grown hb1 hb1.size hg2 hg1;have hds:Ds w2 g1 0 (downs (m % 8) xs):=Rw.ds hR2 rfl;have hdd:=dig_downs (n:=m % 8) (by omega) hdx;have hvd:=val_downs (n:=m % 8) (by omega) xs;have hld:=length_downs (m % 8) xs;rw [hvx,shr_parts] at hvd;go_wp2_with fail;refine (text_any _ g1 0 cap1 _ _ hds hld hdd (by omega) (by rw [HC.out.1];omega) HC.out.2).mono ?_;rintro e w3 ⟨rfl,hb3⟩;go_wp2;go_ret;exact ⟨by rw [HV.out];rfl,hb2.trans (hb3.mono hb2.size)⟩
def Ret (v:Value) (w:World):Ending→World→Prop:=fun e w'=>e=.returned v∧Below w.heap.size w w'
theorem below_next {w W W' : World} (hb:Below w.heap.size w W) (hc:Below W.heap.size W W'):Below w.heap.size w W':=hb.trans (hc.mono hb.size)
section
variable (w : World) (a b r : ByteArray)
theorem use_of (n:Nat) (hn:n<B64) (hr:fb n=r):Calls Tryz.prog 104 #[.int .u64 n] w (Ret (.string r) w):=
 (of_any w n hn).mono fun _ _ ⟨h,hb⟩=>⟨by rw [h,← hr];rfl,hb⟩
theorem use_trim (ha:a.size≤100000000) (hr:fb (num a)=r):Calls Tryz.prog 124 #[.string a] w (Ret (.string r) w):=
 (trim_any w a (by omega)).mono fun _ _ ⟨h,hb⟩=>⟨by rw [h,hr],hb⟩
theorem use_cmp (c:Int) (hr:cmpN (num a) (num b)=c):Calls Tryz.prog 116 #[.string a,.string b] w (Ret (.int .i64 c) w):=
 (cmp_any w a b).mono fun _ _ ⟨h,hb⟩=>⟨by rw [h,hr],hb▸Below.refl _ _⟩
theorem use_len (c:Int) (ha:a.size≤100000000) (hr:(bl (num a):Int)=c):Calls Tryz.prog 92 #[.string a] w (Ret (.int .i64 c) w):=
 (len_any w a (by omega)).mono fun _ _ ⟨h,hb⟩=>⟨by rw [h,hr],hb▸Below.refl _ _⟩
theorem use_zeros (c:Int) (ha:a.size≤100000000) (hr:(tz (num a):Int)=c):Calls Tryz.prog 101 #[.string a] w (Ret (.int .i64 c) w):=
 (zeros_any w a (by omega)).mono fun _ _ ⟨h,hb⟩=>⟨by rw [h,hr],hb▸Below.refl _ _⟩
theorem use_sub (ok:Bool) (ha:a.size≤100000000) (hb:b.size≤100000000) (hr:fb (num a-num b)=r) (ho:decide (num b≤num a)=ok):Calls Tryz.prog 169 #[.string a,.string b] w (Ret (.tuple #[.string r,.bool ok]) w):=
 (sub_any w a b (by omega) (by omega)).mono fun _ _ ⟨h,hb⟩=>⟨by rw [h,hr,ho],hb⟩
theorem use_mul (ha:a.size≤100000000) (hb:b.size≤100000000) (hr:fb (num a*num b)=r):Calls Tryz.prog 162 #[.string a,.string b] w (Ret (.string r) w):=
 (mul_any w a b ha hb).mono fun _ _ ⟨h,hb⟩=>⟨by rw [h,hr],hb⟩
theorem use_shl (n:Int) (ha:a.size≤100000000) (hn:n≤1000000000) (hr:fb (shlN (num a) n)=r):Calls Tryz.prog 164 #[.string a,.int .i64 n] w (Ret (.string r) w):=
 (shl_any w a n ha hn).mono fun _ _ ⟨h,hb⟩=>⟨by rw [h,hr],hb⟩
theorem use_shr (n:Int) (ha:a.size≤100000000) (hn:n≤9223372036854775807) (hr:fb (shrN (num a) n)=r):Calls Tryz.prog 102 #[.string a,.int .i64 n] w (Ret (.string r) w):=
 (shr_any w a n ha hn).mono fun _ _ ⟨h,hb⟩=>⟨by rw [h,hr],hb⟩
theorem use_add (ha:a.size≤1000000) (hb:b.size≤1000000) (hr:fb (num a+num b)=r) :
  Calls Tryz.prog 181 #[.slice (some ⟨w.heap.size,0,none⟩) 2 2] (w.alloc (.cells #[.string a,.string b] 9)) (Ret (.string r) w):=by
 have hR:=Rw.new w 9 [.string a,.string b];refine (add_any _ (some ⟨w.heap.size,0,none⟩) [a,b] 2 2 rfl (by omega) (fun s h=>by simp at h;rcases h with h|h <;> (rw [h];assumption)) (fun i h=>?_)).mono fun _ _ ⟨h,hb⟩=>⟨?_,?_⟩
 ·refine ⟨w.heap.size,0,rfl,by rw [World.size_alloc];omega,?_⟩;rw [Nat.zero_add];refine (hR.cell i).trans ?_
  match i,h with
  | 0,_=>rfl
  | 1,_=>rfl
 ·rw [h,← hr];simp [sumTo]
 ·exact ((Below.refl _ _).alloc (Nat.le_refl _) _).trans (hb.mono (by rw [World.size_alloc];omega))
end
theorem lt_add {x y m:Nat} (hx:x<256 ^ m) (hy:y<256 ^ m):x+y<256 ^ (m+1):=by
 rw [Nat.pow_succ];generalize 256 ^ m=P at *;omega
theorem lt_mul {x y m n:Nat} (hx:x<256 ^ m) (hy:y<256 ^ n):x*y<256 ^ (m+n):=by
 rw [Nat.pow_add];exact Nat.mul_lt_mul'' hx hy
theorem lt_size {s:ByteArray} {k:Nat} (h:s.size≤k):num s<256 ^ k:=Nat.lt_of_lt_of_le (num_lt s) (Nat.pow_le_pow_right (by omega) h)
theorem nm {n k:Nat} (h:n<256 ^ k):∃ S:ByteArray,fb n=S∧num S=n∧S.size≤k:=⟨fb n,rfl,num_fb n,fb_size_le h⟩
theorem bl_shl {a:Nat} (ha:0<a) (k:Nat):bl (a*2 ^ k)=bl a+k:=by
 obtain ⟨a1,a2,a3⟩:=bl_bounds ha;have lo:2 ^ (bl a-1+k)≤a*2 ^ k:=by rw [Nat.pow_add];exact Nat.mul_le_mul_right _ a2
 have hi:a*2 ^ k<2 ^ (bl a-1+k+1):=by
  rw [show bl a-1+k+1=bl a+k by omega,Nat.pow_add];exact Nat.mul_lt_mul_of_pos_right a3 (Nat.two_pow_pos _)
 rw [bl_of lo hi];omega
theorem bl_gt {a b:Nat} (h:bl b<bl a):b<a:=by
 have ha:0<a:=by
  rcases Nat.eq_zero_or_pos a with h0|h0
  ·rw [h0,bl_zero] at h;omega
  ·exact h0
 obtain ⟨a1,a2,_⟩:=bl_bounds ha
 rcases Nat.eq_zero_or_pos b with h0|h0
 ·omega
 ·obtain ⟨_,_,b3⟩:=bl_bounds h0
  have:2 ^ bl b≤2 ^ (bl a-1):=Nat.pow_le_pow_right (by omega) (by omega)
  omega
theorem bl_le {a m:Nat} (h:a<2 ^ m):bl a≤m:=by
 rcases Nat.eq_zero_or_pos a with h0|h0
 ·rw [h0,bl_zero];omega
 ·obtain ⟨a1,a2,_⟩:=bl_bounds h0
  have:=(Nat.pow_lt_pow_iff_right (by omega:1<2)).1 (Nat.lt_of_le_of_lt a2 h)
  omega
theorem tz_lt {a:Nat} (h:0<a):tz a<bl a:=by
 obtain ⟨_,_,a3⟩:=bl_bounds h;obtain ⟨z,m,e⟩:=tz_ex h;have h1:tz a=z:=by rw [e,tz_of]
 have h2:2 ^ z≤a:=by rw [e];exact Nat.le_mul_of_pos_right _ (by omega)
 rw [h1];exact (Nat.pow_lt_pow_iff_right (by omega:1<2)).1 (Nat.lt_of_le_of_lt h2 a3)
theorem shl_nat (a k:Nat):shlN a (k:Int)=a*2 ^ k:=by unfold shlN;rw [if_neg (by omega)];rfl
theorem shr_nat (a k:Nat):shrN a (k:Int)=a / 2 ^ k:=by unfold shrN;rw [if_neg (by omega)];rfl
theorem bl_size {s:ByteArray} {k:Nat} (h:s.size≤k):bl (num s)≤8*k:=bl_le (by rw [Nat.pow_mul];exact lt_size h)
end Go.Proofs.YtemedphcafgolaaGreatDoor
