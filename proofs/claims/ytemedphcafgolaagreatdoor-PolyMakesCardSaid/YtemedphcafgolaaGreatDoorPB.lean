/- Layer 1, laid together: PMShelf2, PM1, PM2, PM3, PM4, PM5, PM8. -/
import Derived.Test.YtemedphcafgolaaGreatDoorPA
/- The builder's WriteByte: the shelf's contract at this program. -/
namespace Go.Proofs
set_option maxRecDepth 100000
set_option maxHeartbeats 3200000
open Go.Shelf
def Tryz.lays167_ren:Go.Shelf.Ren:=⟨fun|167=>99|240=>128|276=>152|n=>n,fun|80=>115|75=>113|70=>108|9=>9|0=>0|72=>110|37=>70|164=>168|3=>3|5=>5|4=>4|20=>20|n=>n,fun|n=>n⟩
theorem Tryz.lays167:Go.Proofs.Lays.n167 Tryz.prog Tryz.lays167_ren:={
 Tryz.lays165 with
 f167:=Tryz.func99.trans (congrArg some (by kernel_rfl))
 f240:=Tryz.func128.trans (congrArg some (by kernel_rfl))
 f276:=Tryz.func152.trans (congrArg some (by kernel_rfl))
 t5:=Tryz.underlying5
 a5:=Tryz.isAgg5
 z5:=Tryz.sizeOf5
 v5:=Tryz.zeroValue5
 t75:=Tryz.underlying113
 a75:=Tryz.isAgg113
 z75:=Tryz.sizeOf113
 v75:=Tryz.zeroValue113 }
theorem Tryz.Builder_Extra_167:Builder.Extra Tryz.prog Tryz.lays167_ren:={
 sizeBuilder:=by kernel_rfl
 liesBuilder:=by kernel_rfl
 t5:=Tryz.underlying5
 a5:=Tryz.isAgg5
 z5:=Tryz.sizeOf5
 v5:=Tryz.zeroValue5
 infoByte:=by kernel_rfl
 cellsByte:=by kernel_rfl
 sizeByte:=by kernel_rfl
 neB5:=by decide }
open Go.RowKit in
theorem Tryz.Builder_WriteByte (B b:Nat) (bs:List Value) (c:Int) (w:World) (h:Lib.IsBuilder 110 5 B b bs w) (hlen:bs.length+1≤140737488355328) (hBw:B≤w.heap.size) :
  Calls Tryz.prog 99 #[.pointer (some ⟨b,0,none⟩),.int .u8 c] w fun e w'=>e=.returned .nilIface∧(Lib.BuilderAt 110 5 B b (.pointer (some ⟨b,0,none⟩)) (bs++[.int .u8 c]) w'∧Below B w w'):=Any.Builder_WriteByte Tryz.lays167 Tryz.Builder_Extra_167 B b bs c w h hlen hBw
end Go.Proofs
/- As layer 7 has it (M1),for poly's seat. -/
namespace Go.Proofs.YtemedphcafgolaaGreatDoor
set_option maxRecDepth 100000
set_option maxHeartbeats 3200000
open Go.RowKit Go.Lib
def MW (w wr:World) (s:ByteArray) (k:Nat):Prop:=
 k≤s.size∧(∀ j (hj:j<s.data.toList.length),j<k→(s.data.toList[j]).toNat<128)∧wr.heap[w.heap.size]?=some (.stringIter s k)∧Below w.heap.size w wr
theorem MW.start (w:World) (s:ByteArray):MW w (w.iter s 0) s 0:=
 ⟨Nat.zero_le _,fun j _ h=>by omega,World.iter_heap w s 0,(Below.refl w.heap.size w).alloc (Nat.le_refl _) _⟩
theorem MW.step {w wr:World} {s:ByteArray} {k:Nat} (h:MW w wr s k) (hk:k<s.size) (ha:(s[k]'hk).toNat<128):MW w (wr.iterAt w.heap.size s (k+1)) s (k+1):=by
 obtain ⟨_,h2,h3,h4⟩:=h;refine ⟨hk,fun j hj hjk=>?_,Lib.iterAt_heap _ _ _ _ _ h3,below_iterAt h4 (Nat.le_refl _) _ _⟩
 rcases Nat.lt_or_eq_of_le (Nat.le_of_lt_succ hjk) with h|h
 ·exact h2 j hj h
 ·subst h;exact ha
theorem MW.all {w wr:World} {s:ByteArray} (h:MW w wr s s.size):okM s.data.toList=true:=okM_good fun j hj=>h.2.1 j hj hj
theorem get_list (s:ByteArray) (k:Nat) (hk:k<s.size):(s.data.toList[k]'hk)=s[k]'hk:=rfl
theorem pm_bad_of (s:ByteArray) (k:Nat) (hk:k<s.size) (h:¬ (s[k]'hk).toNat<128):okM s.data.toList=false:=okM_bad (k:=k) hk (by rw [get_list];omega)
theorem may_any (w:World) (s:ByteArray) (_hs:s.size≤1000000000) (v:Int) (o:Bool) (ho:(okM s.data.toList && decide ((s.size:Int)=v))=o) :
  Calls Tryz.prog 37 #[.string s,.int .i64 v] w (Ret (.bool o) w):=by
 have HO:=Lib.hid ho;clear ho;have hS0:=MW.start w s;go_enter Tryz.func37,Tryz.ntmps37;go_wp2
 go_loopw [] (fun wr=>∃ k:Nat,MW w wr s k) (fun wr=>s.size-wr.iterPos w.heap.size)
 case atStart=>exact ⟨0,hS0⟩
 case round =>
  clear hS0;obtain ⟨k,hM⟩:=hrel;have hit:=hM.2.2.1
  by_cases hks:k<s.size
  ·by_cases ha:(s[k]'hks).toNat<128
   ·have hnx:∀ ty,(Instr.next (.pointer (some ⟨w.heap.size,0,none⟩)) true ty).run Tryz.prog wr=_:=fun ty=>Lib.run_next_ascii_at wr w.heap.size s k ty hit hks ha;have hR:=hM.step hks ha;have hpos:=iterPos_of hR.2.2.1;have hpos0:=iterPos_of hit;obtain ⟨y,hy⟩:∃ y:Nat,(s[k]'hks).toNat=y:=⟨_,rfl⟩;rw [hy] at hnx ha;have HR:=Lib.hid (And.intro hR (And.intro hpos hpos0));clear hR hpos hpos0 hM hy;go_wp2;go_roundw
    case rel=>exact ⟨k+1,HR.out.1⟩
    case measure=>rw [HR.out.2.1,HR.out.2.2];omega
   ·have hnx:∀ ty,(Instr.next (.pointer (some ⟨w.heap.size,0,none⟩)) true ty).run Tryz.prog wr=_:=fun ty=>Lib.run_next_any_at wr w.heap.size s k ty hit hks;have hdh:=(decode_high s k hks (by omega)).1;have hB:=pm_bad_of s k hks ha;have hb:=hM.2.2.2;have e1:o=false:=by rw [← HO.out,hB];rfl
    subst e1;clear hM;generalize (Utf8.decode s k).1=r at hnx hdh;generalize (Utf8.decode s k).2=wd at hnx;go_wp2;go_ret;exact ⟨rfl,below_iterAt hb (Nat.le_refl _) _ _⟩
  ·have hnx:∀ ty,(Instr.next (.pointer (some ⟨w.heap.size,0,none⟩)) true ty).run Tryz.prog wr=_:=fun ty=>Lib.run_next_end_at wr w.heap.size s k ty hit hks;obtain rfl:k=s.size:=by have:=hM.1;omega
   have hall:=hM.all;have hb:=hM.2.2.2;have HE:=Lib.hid hall;clear hall hM;go_wp2;go_ret;exact ⟨by rw [← HO.out,HE.out,Bool.true_and];exact congrArg (fun z=>Ending.returned (Value.bool z)) (by rw [Bool.eq_iff_iff];simp),hb⟩
theorem okM_false_of {l:List UInt8} (h:okM l=false):∃ m,okM l=m∧m=false:=⟨_,rfl,h⟩
theorem isExp_any (w:World) (n:Int) (o:Bool) (ho:decide (0≤n∧n≤127)=o):Calls Tryz.prog 98 #[.int .i64 n] w (fun e w'=>e=.returned (.bool o)∧w=w'):=by
 have HO:=Lib.hid ho;clear ho;go_enter Tryz.func98,Tryz.ntmps98
 by_cases h0:0≤n
 ·go_wp2;go_ret;exact ⟨by rw [← HO.out];simp [h0],rfl⟩
 ·have e1:o=false:=by rw [← HO.out];simp [h0]
  subst e1;go_wp2;go_ret;exact ⟨rfl,rfl⟩
theorem byteCells_snoc (l:List UInt8) (b:UInt8):Lib.byteCells (l++[b])=Lib.byteCells l++[.int .u8 (b.toNat:Int)]:=by simp [Lib.byteCells]
theorem ofNat_small {z:Int} (h:0≤z∧z≤127):((UInt8.ofNat z.toNat).toNat:Int)=z:=by
 rw [UInt8.toNat_ofNat',Nat.mod_eq_of_lt (by omega)];omega
def OFI (w wr:World) (ns:List Int) (k:Nat):Prop:=
 k≤ns.length∧(∀ j (hj:j<ns.length),j<k→0≤ns[j]∧ns[j]≤127)∧Lib.BuilderAt 110 5 w.heap.size w.heap.size (.pointer (some ⟨w.heap.size,0,none⟩)) (Lib.byteCells (bytesE (ns.take k))) wr∧Below w.heap.size w wr
theorem pm_of_any (w:World) (ad:Option Addr) (ns:List Int) (n c:Nat) (hl:ns.length=n) (hn:n≤100000000) (hr:RI w ad ns) (o:ByteArray) (e:Int) (ho:ofS ns=o) (he:ofE ns=e) :
  Calls Tryz.prog 70 #[.slice ad n c] w (Ret (.tuple #[.string o,.int .i64 e]) w):=by
 have hb:=Below.refl w.heap.size w;have HO:=Lib.hid (And.intro ho (And.intro he hl));clear ho he;go_enter Tryz.func70,Tryz.ntmps70;go_wp2_with fail;have hbk:=Rw.new w 110 [.pointer none,.slice none 0 0];refine (Tryz.Builder_Grow_fresh w.heap.size w.heap.size n _ (Nat.le_refl _) hbk (by simp) (by omega)).mono ?_;rintro e' W ⟨rfl,hB,hq⟩;have hb1:Below w.heap.size w W:=(hb.alloc (Nat.le_refl _) _).trans hq;have hI:OFI w W ns 0:=⟨Nat.zero_le _,fun j _ h=>by omega,hB,hb1⟩;have hr0:=hr;clear hbk hq hB hb1 hr hb;go_wp2
 go_loopw [12] (fun iv wr=>∃ k:Nat,iv=.int .i64 k∧OFI w wr ns k) (fun iv _=>n-(RowKit.intOf iv).toNat)
 case atStart=>exact ⟨0,rfl,hI⟩
 case round =>
  clear hI;obtain ⟨k,rfl,hk,hj,hB,hb⟩:=hrel;have hrw:=hr0.next hb
  by_cases hkn:k<n
  ·obtain ⟨b,off,rfl,hlt,hc⟩:=hrw k (by omega);obtain ⟨z,hz⟩:∃ z,ns[k]'(by omega)=z:=⟨_,rfl⟩;rw [hz] at hc;obtain ⟨y,hy⟩:∃ y,decide (0≤z∧z≤127)=y:=⟨_,rfl⟩;go_wp2_with fail;refine (isExp_any _ z y hy).mono ?_;rintro e' W2 ⟨rfl,rfl⟩
   cases y with
   | false =>
    have hbad:=okE_bad (l:=ns) (k:=k) (by omega) (by rw [hz];exact of_decide_eq_false hy);have e1:o=⟨#[]⟩:=by rw [← HO.out.1];unfold ofS;rw [hbad];rfl
    have e2:e=3:=by rw [← HO.out.2.1];unfold ofE;rw [hbad];rfl
    subst e1 e2;clear hy hbad hj;go_wp2;go_ret2;exact ⟨rfl,hb⟩
   | true =>
    have hzz:=of_decide_eq_true hy;have hw8:IntKind.u8.wrap z=z:=by rw [IntKind.wrap_u8];omega
    have hbs:(Lib.byteCells (bytesE (ns.take k))).length≤100000000:=by simp [Lib.byteCells,bytesE];omega
    have hsn:Lib.byteCells (bytesE (ns.take (k+1)))=Lib.byteCells (bytesE (ns.take k))++[.int .u8 z]:=by
     rw [bytesE_take (by omega),byteCells_snoc,hz,ofNat_small hzz]
    have hj2:∀ j (hj:j<ns.length),j<k+1→0≤ns[j]∧ns[j]≤127:=fun j h1 h2=>by
     rcases Nat.lt_or_eq_of_le (Nat.le_of_lt_succ h2) with h|h
     ·exact hj j h1 h
     ·subst h;rw [hz];exact hzz
    have HJ:=Lib.hid (And.intro hj2 hsn);clear hy hj hj2 hsn;go_wp2_with fail;refine (Tryz.Builder_WriteByte w.heap.size w.heap.size _ z _ (.inr hB) (by omega) hb.size).mono ?_;rintro e' W3 ⟨rfl,hB3,hq⟩;rw [← HJ.out.2] at hB3;have hI:OFI w W3 ns (k+1):=⟨by omega,HJ.out.1,hB3,hb.trans hq⟩;clear hB3 hq hB hb HJ;go_wp2;go_roundw
    case rel=>exact ⟨k+1,rfl,hI⟩
    case measure=>simp [RowKit.intOf];omega
  ·obtain rfl:k=ns.length:=by omega
   have hall:=okE_good (fun j hj'=>hj j hj' hj');rw [List.take_of_length_le (Nat.le_refl _)] at hB;have e1:(⟨(bytesE ns).toArray⟩:ByteArray)=o:=by rw [← HO.out.1];unfold ofS;rw [hall];rfl
   have e2:e=0:=by rw [← HO.out.2.1];unfold ofE;rw [hall];rfl
   subst e2;have HE:=Lib.hid e1;clear hj hall e1;go_wp2_with fail;refine (Tryz.Builder_String_any_k w.heap.size w.heap.size _ _ (Lib.IsBuilderF.of (.inr hB)) hb.size).mono ?_;rintro e' W3 ⟨rfl,_,hq,_⟩;rw [HE.out];have hb2:=hb.trans hq;clear hq hB hb;go_wp2;go_ret2;exact ⟨rfl,hb2⟩
def RetI (ns:List Int) (w:World):Ending→World→Prop:=fun e w'=>∃ ad c,e=.returned (.slice ad ns.length c)∧RI w' ad ns∧Below w.heap.size w w'
theorem pm_infoN:(Tryz.prog.info? 3).map (fun i=>(i.zero,i.size,i.bytes))=some (some (.int .i64 0),1,8):=by kernel_rfl
theorem pm_make_ints (n:Nat) (hmax:n≤2000000000000):∀ w:World,
  (Instr.makeSlice 39 (.int .i64 n) (.int .i64 n)).run Tryz.prog w=.ok (.slice (some ⟨w.heap.size,0,none⟩) n n) (w.alloc (.cells (List.replicate n (Value.int .i64 0)).toArray 3)):=by
 intro w;obtain ⟨i,hi,hz,hs,hb⟩:=info_parts pm_infoN;have h:=run_make (P:=Tryz.prog) w 39 3 i _ Tryz.underlying39 hi hz .i64 .i64 (n:Int) (n:Int) (by omega) (by omega) (by rw [hb];omega) (by omega);rw [h,hs];simp only [Int.toNat_natCast,Nat.mul_one];have e:madeCells (Value.cells (.int .i64 0)) n=(List.replicate n (Value.int .i64 0)).toArray:=by
  apply Array.toList_inj.1
  rw [show Value.cells (.int .i64 0)=#[.int .i64 0] from rfl,toList_madeCells_one]
 rw [e]
theorem fill_set {A:List Value} {k n:Nat} {v z:Value} (hA:A.length=k) (h:k<n):(A++List.replicate (n-k) z).set k v=(A++[v])++List.replicate (n-(k+1)) z:=by
 rw [List.set_append_right _ _ (by omega),hA,Nat.sub_self,show n-k=(n-(k+1))+1 by omega,List.replicate_succ,List.set_cons_zero];simp
theorem expsM_take {l:List UInt8} {k:Nat} (hk:k<l.length):expsM (l.take (k+1))=expsM (l.take k)++[(l[k].toNat:Int)]:=by
 unfold expsM;rw [List.take_succ_eq_append_getElem hk,List.map_append];rfl
theorem expsM_length (l:List UInt8):(expsM l).length=l.length:=by simp [expsM]
def EXI (w wr:World) (s:ByteArray) (k:Nat):Prop:=
 k≤s.size∧wr.heap[w.heap.size+1]?=some (.stringIter s k)∧Rw wr w.heap.size 3 ((expsM (s.data.toList.take k)).map (Value.int .i64)++List.replicate (s.size-k) (.int .i64 0))∧Below w.heap.size w wr
theorem EXI.start (w:World) (s:ByteArray):EXI w ((w.alloc (.cells (List.replicate s.size (Value.int .i64 0)).toArray 3)).iter s 0) s 0:=by
 refine ⟨Nat.zero_le _,?_,?_,((Below.refl _ _).alloc (Nat.le_refl _) _).alloc (by simp) _⟩
 ·have:=World.iter_heap (w.alloc (.cells (List.replicate s.size (Value.int .i64 0)).toArray 3)) s 0
  rwa [World.size_alloc] at this
 ·have h:Rw ((w.alloc (.cells (List.replicate s.size (Value.int .i64 0)).toArray 3)).iter s 0) w.heap.size 3 (List.replicate s.size (Value.int .i64 0)):=(Rw.new w 3 (List.replicate s.size (Value.int .i64 0))).alloc (.stringIter s 0);simpa [expsM] using h
theorem exps_any (w:World) (s:ByteArray) (hs:s.size≤1000000000) (ns:List Int) (ho:(if okM s.data.toList then expsM s.data.toList else [])=ns) :
  Calls Tryz.prog 69 #[.string s] w (RetI ns w):=by
 have hb:=Below.refl w.heap.size w;go_enter Tryz.func69,Tryz.ntmps69;go_wp2_with fail;obtain ⟨m,hm⟩:∃ m,okM s.data.toList=m:=⟨_,rfl⟩;refine (may_any _ s hs s.size m (by rw [hm];simp)).mono ?_;rintro e W ⟨rfl,hq⟩;replace hb:=below_next hb hq;clear hq;rw [hm] at ho
 cases m with
 | false =>
  have h0:ns=[]:=by rw [← ho];rfl
  subst h0;go_wp2;go_ret;exact ⟨none,0,rfl,RI.nil _ _,hb⟩
 | true =>
  have h1:expsM s.data.toList=ns:=by rw [← ho];rfl
  have HO:=Lib.hid (And.intro h1 hm);clear ho h1 hm;have hmk:=pm_make_ints s.size (by omega) W;have hI:=EXI.start W s;go_wp2
  go_loopw [] (fun wr=>∃ k:Nat,EXI W wr s k) (fun wr=>s.size-wr.iterPos (W.heap.size+1))
  case atStart=>exact ⟨0,hI⟩
  case round =>
   clear hI hmk;obtain ⟨k,hk,hit,hR,hbw⟩:=hrel
   by_cases hks:k<s.size
   ·have ha:(s[k]'hks).toNat<128:=by
     have:=okM_get HO.out.2 (k:=k) hks
     rwa [get_list] at this
    have hnx:∀ ty,(Instr.next (.pointer (some ⟨W.heap.size+1,0,none⟩)) true ty).run Tryz.prog wr=_:=fun ty=>Lib.run_next_ascii_at wr (W.heap.size+1) s k ty hit hks ha;have hsz:=hR.lt;have hitn:(wr.iterAt (W.heap.size+1) s (k+1)).heap[W.heap.size+1]?=some (.stringIter s (k+1)):=Lib.iterAt_heap _ _ _ _ _ hit;have hRn:Rw (wr.iterAt (W.heap.size+1) s (k+1)) W.heap.size 3 _:=hR.below (below_iterAt (Below.refl (W.heap.size+1) wr) (Nat.le_refl _) _ _) (by omega);have hbn:=below_iterAt hbw (k:=W.heap.size+1) (by omega) s (k+1);have hcl:=hRn.cell k;have hfz:=hRn.frozen k;have hAl:((expsM (s.data.toList.take k)).map (Value.int .i64)).length=k:=by
     rw [List.length_map,expsM_length,List.length_take,show s.data.toList.length=s.size from rfl];omega
    rw [List.getElem?_append_right (by omega),hAl,Nat.sub_self,show s.size-k=(s.size-(k+1))+1 by omega,List.replicate_succ,List.getElem?_cons_zero] at hcl;obtain ⟨y,hy⟩:∃ y:Nat,(s[k]'hks).toNat=y:=⟨_,rfl⟩;have hnew:=hRn.set_ k (.int .i64 (y:Int));rw [fill_set hAl hks] at hnew;have hex:=expsM_take (l:=s.data.toList) (k:=k) hks;rw [get_list s k hks,hy] at hex;have hIn:EXI W ((wr.iterAt (W.heap.size+1) s (k+1)).setCell ⟨W.heap.size,k,none⟩ (.int .i64 (y:Int))) s (k+1):=by
     refine ⟨hks,(Below.heap_setCell _ _ _ _ (by simp)).trans hitn,?_,hbn.setCell (p:=⟨W.heap.size,k,none⟩) (Nat.le_refl _) _⟩;rw [hex,List.map_append];exact hnew
    have hpos:=iterPos_of hIn.2.1;have hpos0:=iterPos_of hit;rw [hy] at hnx ha;have HR:=Lib.hid (And.intro hIn (And.intro hpos hpos0));clear hR hRn hbw hbn hitn hpos hpos0 hy hnew hex hIn hAl hit;go_wp2;go_roundw
    case rel=>exact ⟨k+1,HR.out.1⟩
    case measure=>rw [HR.out.2.1,HR.out.2.2];omega
   ·have hnx:∀ ty,(Instr.next (.pointer (some ⟨W.heap.size+1,0,none⟩)) true ty).run Tryz.prog wr=_:=fun ty=>Lib.run_next_end_at wr (W.heap.size+1) s k ty hit hks;obtain rfl:k=s.size:=by omega
    have hb2:=below_next hb hbw;rw [List.take_of_length_le (show s.data.toList.length≤s.size from Nat.le_refl _),HO.out.1] at hR;have hl:ns.length=s.size:=by rw [← HO.out.1,expsM_length];rfl
    have hRI:=RI.of_rw (pre:=[]) (off:=0) hR rfl;have HE:=Lib.hid (And.intro hRI hl);clear hR hRI hl;go_wp2;go_ret;exact ⟨_,_,by rw [HE.out.2];rfl,HE.out.1,hb2⟩
theorem OV.ne_iter {B:Nat} {w:World} {v:Value} {vs:List Value} (h:OV B w v vs) {k:Nat} {s:ByteArray} {pos:Nat} (hk:w.heap[k]?=some (.stringIter s pos)):some k≠v.ownBlock:=by
 rcases h with ⟨rfl,_⟩|⟨g,cap,T,L,rfl,_,hR,_⟩
 ·intro e;cases e
 ·intro e;simp only [Value.ownBlock,Option.some.injEq] at e;subst e;unfold Rw at hR;rw [hk] at hR
  cases hR
theorem grown_iterAt (w:World) (k:Nat) (s:ByteArray) (pos:Nat):w.grownBy (w.iterAt k s pos) (some k):=
 ⟨rfl,rfl,rfl,by rw [iterAt_size];exact Nat.le_refl _,fun i _ hne=>iterAt_other w k i s pos (fun e=>hne (by rw [e]))⟩
theorem OV.iterAt {B:Nat} {w:World} {v:Value} {vs:List Value} (h:OV B w v vs) {k:Nat} {s:ByteArray} {pos:Nat} (hk:w.heap[k]?=some (.stringIter s pos)) (pos' : Nat):OV B (w.iterAt k s pos') v vs:=
 h.grown (grown_iterAt w k s pos') (fun g e e2=>by
  have h2:=h.ne_iter hk;rw [e] at h2
  injection e2 with e3
  exact h2 (by rw [e3]))
def zipF (f:Nat→Nat→Int) (a b:List UInt8):List Int:=List.zipWith (fun x y=>f x.toNat y.toNat) a b
def togS (f:Nat→Nat→Int) (a b:ByteArray):ByteArray:=if okM a.data.toList && okM b.data.toList && decide (a.size=b.size) then ofS (zipF f a.data.toList b.data.toList) else ⟨#[]⟩
def togE (f:Nat→Nat→Int) (a b:ByteArray):Int:=if okM a.data.toList && okM b.data.toList && decide (a.size=b.size) then ofE (zipF f a.data.toList b.data.toList) else 1
theorem zipF_take {f:Nat→Nat→Int} {a b:List UInt8} {k:Nat} (ha:k<a.length) (hb:k<b.length):zipF f (a.take (k+1)) (b.take (k+1))=zipF f (a.take k) (b.take k)++[f a[k].toNat b[k].toNat]:=by
 unfold zipF;rw [List.take_succ_eq_append_getElem ha,List.take_succ_eq_append_getElem hb,List.zipWith_append (by simp;omega)];rfl
theorem zipF_length (f:Nat→Nat→Int) (a b:List UInt8) (h:a.length=b.length):(zipF f a b).length=a.length:=by simp [zipF,h]
def TGI (f:Nat→Nat→Int) (w wr:World) (a b:ByteArray) (v:Value) (k:Nat):Prop:=
 k≤a.size∧wr.heap[w.heap.size+1]?=some (.stringIter a k)∧OV w.heap.size wr v ((zipF f (a.data.toList.take k) (b.data.toList.take k)).map (Value.int .i64))∧Below w.heap.size w wr
theorem room_start (f:Nat→Nat→Int) (w:World) (a b:ByteArray) (L:List Value) (hL:L.length=12) (T:TypeId):TGI f w ((w.alloc (.cells L.toArray T)).iter a 0) a b (.slice (some ⟨w.heap.size,0,none⟩) 0 12) 0:=by
 refine ⟨Nat.zero_le _,?_,?_,((Below.refl _ _).alloc (Nat.le_refl _) _).alloc (by simp) _⟩
 ·have:=World.iter_heap (w.alloc (.cells L.toArray T)) a 0
  rwa [World.size_alloc] at this
 ·have h:Rw ((w.alloc (.cells L.toArray T)).iter a 0) w.heap.size T L:=(Rw.new w T L).alloc (.stringIter a 0);exact OV.of_rw h (Nat.le_refl _) hL (by unfold maxLen;omega)
theorem together_any (w:World) (a b:ByteArray) (ha:a.size≤100000000) (hb' : b.size≤100000000) (g:FuncId) (f:Nat→Nat→Int) (hgo:∀ (aa:Array Value) (W:World),Sem.run Tryz.prog (callFunc g aa) W=.ok (.enter g aa) W)
  (hf:∀ (W:World) (x y:Nat),x<128→y<128→Calls Tryz.prog g #[.int .i64 x,.int .i64 y] W (fun e w'=>e=.returned (.int .i64 (f x y))∧W=w')) (o:ByteArray) (e:Int) (ho:togS f a b=o) (he:togE f a b=e) :
  Calls Tryz.prog 108 #[.string a,.string b,.func (.func g) #[] #[]] w (Ret (.tuple #[.string o,.int .i64 e]) w):=by
 have hb:=Below.refl w.heap.size w;obtain ⟨i,hi,hz,hs,hby⟩:=info_parts pm_infoN;obtain ⟨ca,hca⟩:∃ m,okM a.data.toList=m:=⟨_,rfl⟩;obtain ⟨cb,hcb⟩:∃ m,okM b.data.toList=m:=⟨_,rfl⟩;have hbad:(okM a.data.toList && okM b.data.toList && decide (a.size=b.size))=false→o=⟨#[]⟩∧e=1:=fun h=>⟨by rw [← ho];unfold togS;rw [h];rfl,by rw [← he];unfold togE;rw [h];rfl⟩;go_enter Tryz.func108,Tryz.ntmps108;go_wp2_with fail;obtain ⟨m,hm⟩:∃ m,(okM a.data.toList && decide ((a.size:Int)=b.size))=m:=⟨_,rfl⟩;refine (may_any _ a (by omega) b.size m hm).mono ?_;rintro e' W1 ⟨rfl,hq⟩;replace hb:=below_next hb hq;clear hq
 cases m with
 | false =>
  obtain ⟨rfl,rfl⟩:=hbad (by
   rw [Bool.and_eq_false_iff] at hm
   rcases hm with h|h
   ·rw [h];rfl
   ·have:¬ a.size=b.size:=fun e=>of_decide_eq_false h (by omega)
    simp [this])
  clear hbad hm ho he;go_wp2;go_ret2;exact ⟨rfl,hb⟩
 | true =>
  rw [Bool.and_eq_true,decide_eq_true_eq] at hm;have hsz:a.size=b.size:=by omega
  have HS:=Lib.hid hsz;have hm1:=hm.1;clear hsz hm;go_wp2_with fail;refine (may_any _ b (by omega) a.size cb (by rw [hcb,HS.out];simp)).mono ?_;rintro e' W ⟨rfl,hq⟩;replace hb:=below_next hb hq;clear hq
  cases cb with
  | false =>
   obtain ⟨rfl,rfl⟩:=hbad (by rw [hcb];simp);clear hbad hm1 ho he;go_wp2;go_ret2;exact ⟨rfl,hb⟩
  | true =>
   have hall:(okM a.data.toList && okM b.data.toList && decide (a.size=b.size))=true:=by rw [hm1,hcb,HS.out];simp
   have h1:ofS (zipF f a.data.toList b.data.toList)=o:=by rw [← ho];unfold togS;rw [hall];rfl
   have h2:ofE (zipF f a.data.toList b.data.toList)=e:=by rw [← he];unfold togE;rw [hall];rfl
   have HO:=Lib.hid (And.intro h1 (And.intro h2 (And.intro hm1 hcb)));have hI:=room_start f W a b [.int .i64 0,.int .i64 0,.int .i64 0,.int .i64 0,.int .i64 0,.int .i64 0,.int .i64 0,.int .i64 0,.int .i64 0,.int .i64 0,.int .i64 0,.int .i64 0] rfl 153;clear ho he hbad hm1 hcb hca hall h1 h2;go_wp2
   go_loopw [9] (fun v wr=>∃ k:Nat,TGI f W wr a b v k) (fun _ wr=>a.size-wr.iterPos (W.heap.size+1))
   case atStart=>exact ⟨0,hI⟩
   case round =>
    clear hI;obtain ⟨k,hk,hit,hV,hbw⟩:=hrel
    by_cases hks:k<a.size
    ·have hkb:k<b.size:=by have:=HS.out;omega
     have hA:(a[k]'hks).toNat<128:=by
      have:=okM_get HO.out.2.2.1 (k:=k) hks
      rwa [get_list] at this
     have hB:(b[k]'hkb).toNat<128:=by
      have:=okM_get HO.out.2.2.2 (k:=k) hkb
      rwa [get_list] at this
     have hnx:∀ ty,(Instr.next (.pointer (some ⟨W.heap.size+1,0,none⟩)) true ty).run Tryz.prog wr=_:=fun ty=>Lib.run_next_ascii_at wr (W.heap.size+1) a k ty hit hks hA;have hitn:(wr.iterAt (W.heap.size+1) a (k+1)).heap[W.heap.size+1]?=some (.stringIter a (k+1)):=Lib.iterAt_heap _ _ _ _ _ hit;have hVn:=hV.iterAt hit (k+1);have hbn:=below_iterAt hbw (k:=W.heap.size+1) (by omega) a (k+1);have hzt:=zipF_take (f:=f) (a:=a.data.toList) (b:=b.data.toList) (k:=k) hks hkb;rw [get_list a k hks,get_list b k hkb] at hzt;have hpos0:=iterPos_of hit;obtain ⟨x,hx⟩:∃ x:Nat,(a[k]'hks).toNat=x:=⟨_,rfl⟩;obtain ⟨y,hy⟩:∃ y:Nat,(b[k]'hkb).toNat=y:=⟨_,rfl⟩;rw [hx,hy] at hzt;rw [hx] at hA hnx;rw [hy] at hB;have hll:(zipF f (a.data.toList.take k) (b.data.toList.take k)).length≤100000000:=by
      rw [zipF_length _ _ _ (by rw [List.length_take,List.length_take,show a.data.toList.length=a.size from rfl,show b.data.toList.length=b.size from rfl,HS.out]),List.length_take]
      have:a.data.toList.length=a.size:=rfl
      omega
     have HR:=Lib.hid (And.intro hzt (And.intro hpos0 hx));clear hV hbw hit hzt hpos0 hx;go_wp2_with fail;refine (hf _ x y hA hB).mono ?_;rintro e' W3 ⟨rfl,rfl⟩;generalize wr.iterAt (W.heap.size+1) a (k+1)=W3 at *;obtain ⟨d,hd⟩:∃ d,f x y=d:=⟨_,rfl⟩;rw [hd] at HR;rw [hd];have hVa:=hVn.alloc (.cells #[.int .i64 d] 3);have hcl:=(Rw.new W3 3 [.int .i64 d]).cell 0;have hls:W.heap.size≤(W3.alloc (.cells #[.int .i64 d] 3)).heap.size:=by have:=hbn.size;simp;omega
     have hns:=hVn.ne_iter hitn;have hil:W.heap.size+1<W3.heap.size:=(Array.getElem?_eq_some_iff.1 hitn).1;go_wp2_with (first
      | (at_builtin;refine wpList_append_one W.heap.size Tryz.underlying39 hi hz hs (by omega) rfl rfl (.tmp 31) (.tmp 40) rfl u9 _ rfl hVa ⟨W3.heap.size,0,none⟩ (.int .i64 d) 1 rfl hcl rfl (by rw [List.length_map];omega) hls ?_))
     intro v' W4 hV4 hg4 _;have hitA:(W3.alloc (.cells #[.int .i64 d] 3)).heap[W.heap.size+1]?=some (.stringIter a (k+1)):=(Below.heap_alloc W3 _ _ hil).trans hitn;have hit4:W4.heap[W.heap.size+1]?=some (.stringIter a (k+1)):=(hg4.block _ (by simp;omega) hns).trans hitA;have hb4:Below W.heap.size W W4:=(hbn.alloc (by have:=hbn.size;omega) _).grown hg4 hls (fun g hg=>(hVa.lt hg).1);have hI:TGI f W W4 a b v' (k+1):=⟨hks,hit4,by rw [HR.out.1,List.map_append];exact hV4,hb4⟩;have hpos:=iterPos_of hit4;have HI:=Lib.hid (And.intro hI hpos);clear hI hpos hit4 hitA hitn hV4 hg4 hb4 hVa hVn hcl hls hns hil hbn;go_wp2;go_roundw
     case rel=>exact ⟨k+1,HI.out.1⟩
     case measure=>rw [HI.out.2,HR.out.2.1];omega
    ·have hnx:∀ ty,(Instr.next (.pointer (some ⟨W.heap.size+1,0,none⟩)) true ty).run Tryz.prog wr=_:=fun ty=>Lib.run_next_end_at wr (W.heap.size+1) a k ty hit hks;obtain rfl:k=a.size:=by omega
     have hb2:=below_next hb hbw;rw [List.take_of_length_le (show a.data.toList.length≤a.size from Nat.le_refl _),List.take_of_length_le (show b.data.toList.length≤a.size by rw [HS.out];exact Nat.le_refl _)] at hV;obtain ⟨ad,c,rfl,hri⟩:=hV.ri;obtain ⟨ns,hns⟩:∃ ns,zipF f a.data.toList b.data.toList=ns:=⟨_,rfl⟩;have hl:ns.length≤100000000:=by
      rw [← hns,zipF_length _ _ _ HS.out];exact ha
     rw [hns] at hri HO;rw [hns];clear hns hV;go_wp2_with fail;refine (pm_of_any _ ad ns ns.length c rfl (by omega) hri o e HO.out.1 HO.out.2.1).mono ?_;rintro e' W3 ⟨rfl,hq⟩;replace hb2:=below_next hb2 hq;clear hri hq hbw;go_wp2;go_ret2;exact ⟨rfl,hb2⟩
def addF (x y:Nat):Int:=(x:Int)+y
def subF (x y:Nat):Int:=(x:Int)-y
theorem mul1_any (W:World) (x y:Nat) (hx:x<128) (hy:y<128):Calls Tryz.prog 109 #[.int .i64 x,.int .i64 y] W (fun e w'=>e=.returned (.int .i64 (addF x y))∧W=w'):=by
 go_enter Tryz.func109,Tryz.ntmps109;go_wp2;go_ret;exact ⟨rfl,rfl⟩
theorem pm_mul_any (w:World) (a b:ByteArray) (ha:a.size≤100000000) (hb' : b.size≤100000000) (o:ByteArray) (e:Int) (ho:togS addF a b=o) (he:togE addF a b=e) :
  Calls Tryz.prog 78 #[.string a,.string b] w (Ret (.tuple #[.string o,.int .i64 e]) w):=by
 go_enter Tryz.func78,Tryz.ntmps78;go_wp2_with fail;refine (together_any _ a b ha hb' 109 addF (fun _ _=>by kernel_rfl) mul1_any o e ho he).mono ?_;rintro e' W ⟨rfl,hb⟩;go_wp2;go_ret2;exact ⟨rfl,hb⟩
theorem rmay_any (w:World) (s:ByteArray) (hs:s.size≤1000000000) (v:Int) (o:Bool) (ho:(okM s.data.toList && decide ((s.size:Int)=v))=o) :
  Calls Tryz.prog 41 #[.string s,.int .i64 v] w (fun e w'=>e=.returned (.bool o)∧w=w'):=by
 have HO:=Lib.hid ho;clear ho;go_enter Tryz.func41,Tryz.ntmps41;go_wp2
 go_loopw [5] (fun iv wr=>∃ k:Nat,iv=.int .i64 k∧k≤s.size∧(∀ j (hj:j<s.data.toList.length),j<k→(s.data.toList[j]).toNat<128)∧wr=w) (fun iv _=>s.size-(RowKit.intOf iv).toNat)
 case atStart=>exact ⟨0,rfl,Nat.zero_le _,fun j _ h=>by omega,rfl⟩
 case round =>
  obtain ⟨k,rfl,hk,hj,rfl⟩:=hrel
  by_cases hks:k<s.size
  ·obtain ⟨y,hy⟩:∃ y:Nat,(s[k]'hks).toNat=y:=⟨_,rfl⟩
   by_cases ha:y<128
   ·have hj2:∀ j (hj:j<s.data.toList.length),j<k+1→(s.data.toList[j]).toNat<128:=fun j h1 h2=>by
     rcases Nat.lt_or_eq_of_le (Nat.le_of_lt_succ h2) with h|h
     ·exact hj j h1 h
     ·subst h;rw [get_list s j hks,hy];exact ha
    have HJ:=Lib.hid hj2;clear hj hj2;go_wp2;go_roundw
    case rel=>exact ⟨k+1,rfl,by omega,HJ.out,trivial⟩
    case measure=>simp [RowKit.intOf];omega
   ·have hB:=pm_bad_of s k hks (by omega);have e1:o=false:=by rw [← HO.out,hB];rfl
    subst e1;clear hj hB;go_wp2;go_ret;exact ⟨rfl,rfl⟩
  ·obtain rfl:k=s.size:=by omega
   have hall:okM s.data.toList=true:=okM_good fun j hj'=>hj j hj' hj';have HE:=Lib.hid hall;clear hall hj;go_wp2;go_ret;exact ⟨by rw [← HO.out,HE.out,Bool.true_and];exact congrArg (fun z=>Ending.returned (Value.bool z)) (by rw [Bool.eq_iff_iff];simp),rfl⟩
theorem pm_one_byte (W:World) (d:Nat) (h:d<256) :
  (convert 70 9 (.slice (some ⟨W.heap.size,0,none⟩) 1 1)).run Tryz.prog (W.alloc (.cells #[.int .u8 (d:Int)] 5))=.ok (.string ⟨#[UInt8.ofNat d]⟩) (W.alloc (.cells #[.int .u8 (d:Int)] 5)):=by
 have hd:(UInt8.ofNat d).toNat=d:=by rw [UInt8.toNat_ofNat'];exact Nat.mod_eq_of_lt h
 refine run_bytes_at (l:=[UInt8.ofNat d]) rfl (fun i hi=>?_);obtain rfl:i=0:=by simpa using hi
 have hR:=Rw.new W 5 [.int .u8 d];rw [hR.cell];show some (Value.int .u8 d)=some (by8 (UInt8.ofNat d));unfold by8;rw [hd]
theorem snoc_bytes (t:ByteArray) (x:UInt8):(t++⟨#[x]⟩:ByteArray).data.toList=t.data.toList++[x]:=by
 rw [ByteArray.data_append];simp
theorem pm_rof_any (w:World) (ad:Option Addr) (ns:List Int) (n c:Nat) (hl:ns.length=n) (hn:n≤100000000) (hr:RI w ad ns) (o:ByteArray) (e:Int) (ho:ofS ns=o) (he:ofE ns=e) :
  Calls Tryz.prog 111 #[.slice ad n c] w (Ret (.tuple #[.string o,.int .i64 e]) w):=by
 have HO:=Lib.hid (And.intro ho (And.intro he hl));clear ho he;have hb0:=Below.refl w.heap.size w;go_enter Tryz.func111,Tryz.ntmps111;go_wp2
 go_loopw [4,5] (fun mv iv wr=>∃ (k:Nat) (t:ByteArray),iv=.int .i64 k∧mv=.string t∧k≤ns.length∧(∀ j (hj:j<ns.length),j<k→0≤ns[j]∧ns[j]≤127)∧t.data.toList=bytesE (ns.take k)∧Below w.heap.size w wr) (fun _ iv _=>n-(RowKit.intOf iv).toNat)
 case atStart=>exact ⟨0,⟨#[]⟩,rfl,rfl,Nat.zero_le _,fun j _ h=>by omega,rfl,hb0⟩
 case round =>
  clear hb0;obtain ⟨k,t,rfl,rfl,hk,hj,ht,hb⟩:=hrel;have hrw:=hr.next hb;have hts:t.size=k:=by
   have:=congrArg List.length ht
   simp only [bytesE,List.length_map,List.length_take] at this;have h2:t.data.toList.length=t.size:=rfl;omega
  by_cases hkn:k<n
  ·obtain ⟨b,off,rfl,hlt,hc⟩:=hrw k (by omega);obtain ⟨z,hz⟩:∃ z,ns[k]'(by omega)=z:=⟨_,rfl⟩;rw [hz] at hc
   by_cases hzz:0≤z∧z≤127
   ·obtain ⟨q,hq⟩:∃ q:Nat,z=(q:Int):=⟨z.toNat,by omega⟩;subst hq;have hw8:IntKind.u8.wrap (q:Int)=(q:Int):=by rw [IntKind.wrap_u8];omega
    have hcv:=pm_one_byte wr q (by omega);have hul:¬ (9223372036854775807<t.size+1):=by omega
    have hsn:=bytesE_take (l:=ns) (k:=k) (by omega);rw [hz,Int.toNat_natCast,← ht] at hsn;obtain ⟨x,hx⟩:∃ x,UInt8.ofNat q=x:=⟨_,rfl⟩;rw [hx] at hcv hsn;have hj2:∀ j (hj:j<ns.length),j<k+1→0≤ns[j]∧ns[j]≤127:=fun j h1 h2=>by
     rcases Nat.lt_or_eq_of_le (Nat.le_of_lt_succ h2) with h|h
     ·exact hj j h1 h
     ·subst h;rw [hz];exact hzz
    have hba:=hb.alloc hb.size (.cells #[.int .u8 (q:Int)] 5);have HJ:=Lib.hid (And.intro hj2 (And.intro ((snoc_bytes t x).trans hsn.symm) hba));clear hj hj2 hsn hba hx ht;go_wp2;go_roundw
    case rel=>exact ⟨k+1,_,rfl,rfl,by omega,HJ.out.1,HJ.out.2.1,HJ.out.2.2⟩
    case measure=>simp [RowKit.intOf];omega
   ·have hbad:=okE_bad (l:=ns) (k:=k) (by omega) (by rw [hz];exact hzz);have e1:o=⟨#[]⟩:=by rw [← HO.out.1];unfold ofS;rw [hbad];rfl
    have e2:e=3:=by rw [← HO.out.2.1];unfold ofE;rw [hbad];rfl
    subst e1 e2;clear hbad hj ht
    by_cases h0:z<0
    ·go_wp2;go_ret2;exact ⟨rfl,hb⟩
    ·have h1:127<z:=by omega
     go_wp2;go_ret2;exact ⟨rfl,hb⟩
  ·obtain rfl:k=ns.length:=by omega
   have hall:=okE_good (fun j hj'=>hj j hj' hj');rw [List.take_of_length_le (Nat.le_refl _)] at ht;have e1:t=o:=by rw [← HO.out.1];unfold ofS;rw [hall];exact ByteArray.ext (Array.ext' ht)
   have e2:e=0:=by rw [← HO.out.2.1];unfold ofE;rw [hall];rfl
   subst e1 e2;clear hj hall ht;go_wp2;go_ret2;exact ⟨rfl,hb⟩
theorem rnum_same (w:World) (ad bd:Option Addr) (ns:List Int) (n c d:Nat) (hl:ns.length=n) (hn:n≤1000000000) (hr:RI w ad ns) (hr' : RI w bd ns) :
  Calls Tryz.prog 15 #[.slice ad n c,.slice bd n d] w (Ret (.bool true) w):=by
 have hb0:=Below.refl w.heap.size w;go_enter Tryz.func15,Tryz.ntmps15;go_wp2
 go_loopw [5] (fun iv wr=>∃ k:Nat,iv=.int .i64 k∧k≤ns.length∧Below w.heap.size w wr) (fun iv _=>n-(RowKit.intOf iv).toNat)
 case atStart=>exact ⟨0,rfl,Nat.zero_le _,hb0⟩
 case round =>
  clear hb0;obtain ⟨k,rfl,hk,hb⟩:=hrel
  by_cases hkn:k<n
  ·obtain ⟨b,off,rfl,hlt,hc⟩:=hr.next hb k (by omega);obtain ⟨b',off',rfl,hlt',hc'⟩:=hr'.next hb k (by omega);obtain ⟨z,hz⟩:∃ z,ns[k]'(by omega)=z:=⟨_,rfl⟩;rw [hz] at hc hc';have hb2:=hb.drew;clear hz;go_wp2
   go_region
   all_goals
    go_wp2;go_roundw
    case rel=>exact ⟨k+1,rfl,by omega,hb2⟩
    case measure=>simp [RowKit.intOf];omega
  ·obtain rfl:k=ns.length:=by omega
   go_wp2;go_ret;exact ⟨rfl,hb⟩
end Go.Proofs.YtemedphcafgolaaGreatDoor
