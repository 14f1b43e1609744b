/- Layer 1, laid together: LIs, LWrong, LSame, LFar, LSize, LPow. -/
import Derived.Test.YtiddgplapodleaaGreatDoorHX
/- The laws' own is,for a number's own text;walked. -/
namespace Go.Proofs.YtiddgplapodleaaGreatDoor
set_option maxRecDepth 100000
set_option maxHeartbeats 1600000
open Go.RowKit Go.Shelf Go.Lib
theorem lis_own (w:World) (x:Dyadic) (s:ByteArray) (hsz:s.size≤200) (hs:s.data.toList=numT (dm x) (de x)) (he:-32768≤de x∧de x≤32768) (m:Bool) (t:ByteArray) (e:Int) (hd:df x=nu m t e) :
  Calls Tryz.prog 14 #[.string s,.agg #[.bool m,.string t,.int .i64 e]] w (Ret (.bool true) w):=by
 have HC:=Lib.hid (And.intro hs (And.intro he hd));clear hs he hd;go_enter Tryz.func14,Tryz.ntmps14;go_wp2_with fail;have hA:=Nk.new w m t e;have hb:=(Below.refl w.heap.size w).alloc (Nat.le_refl _) (.cells #[.bool m,.string t,.int .i64 e] 28);generalize w.alloc (.cells #[.bool m,.string t,.int .i64 e] 28)=W0 at *;refine (lparse_any _ s hsz).mono ?_;rintro e' W ⟨k,r,z,o,y,p,c,rfl,hP,hL,hq⟩;obtain ⟨hdx,rfl,rfl⟩:=own_parsed HC.out.1 HC.out.2.1 hP hL;obtain ⟨rfl,rfl,rfl⟩:=nu_inj (hdx.symm.trans HC.out.2.2);replace hb:=below_next hb hq;replace hA:=hA.below hq;clear hq hP hL hdx;have hX:=Nk.new W z o y;replace hA:=hA.alloc (.cells #[.bool z,.string o,.int .i64 y] 28);replace hb:=hb.alloc hb.size (.cells #[.bool z,.string o,.int .i64 y] 28);obtain ⟨hA0,hA1,hA2⟩:=hA.cells;obtain ⟨hX0,hX1,hX2⟩:=hX.cells;go_wp2;go_ret;exact ⟨rfl,hb⟩
theorem lwrong_any (w:World) (s:ByteArray) (hsz:s.size≤200) (p' c' : Int) (hc:c'≠0) (hdet:∀ k r z o x p c,PartOk s k r→LitAt s.data.toList k r z o x p c→p=p'∧c=c') :
  Calls Tryz.prog 24 #[.string s,.int .i64 p',.int .i64 c'] w (Ret (.bool true) w):=by
 have HC:=Lib.hid hdet;clear hdet;go_enter Tryz.func24,Tryz.ntmps24;go_wp2_with fail;refine (lparse_any _ s hsz).mono ?_;rintro e' W ⟨k,r,z,o,y,p,c,rfl,hP,hL,hb⟩;obtain ⟨rfl,rfl⟩:=HC.out _ _ _ _ _ _ _ hP hL;obtain ⟨rfl,rfl,rfl⟩:z=false∧o=⟨#[]⟩∧y=0:=by
  rcases lit_kinds hL with h|h
  ·exact absurd h.1 hc
  ·exact h.2
 clear hP hL;have hX:=Nk.new W false ⟨#[]⟩ 0;replace hb:=hb.alloc hb.size (.cells #[.bool false,.string ⟨#[]⟩,.int .i64 0] 28);obtain ⟨hX0,hX1,hX2⟩:=hX.cells;go_wp2;go_ret;exact ⟨rfl,hb⟩
theorem lsame_any (w:World) (a b:Option Addr) (n c d:Nat) (l:List NV) (ha:NAt w a l) (hb0:NAt w b l) (hn:l.length=n) (hnc:n≤1000) :
  Calls Tryz.prog 12 #[.slice a n c,.slice b n d] w (Ret (.bool true) w):=by
 go_enter Tryz.func12,Tryz.ntmps12;go_wp2
 go_loopw [5] (fun iv wr=>∃ k:Nat,iv=.int .i64 k∧k≤n∧Below w.heap.size w wr) (fun iv _=>n-(RowKit.intOf iv).toNat)
 case atStart=>exact ⟨0,rfl,Nat.zero_le _,Below.refl _ _⟩
 case round =>
  obtain ⟨k,rfl,hk,hb⟩:=hrel
  by_cases hkn:k<n
  ·have hkl:k<l.length:=by omega
   obtain ⟨b1,off1,rfl,hl1,hc1,hc2,hc3⟩:=ha k hkl;obtain ⟨b2,off2,rfl,hl2,hd1,hd2,hd3⟩:=hb0 k hkl;rw [← hb.cell hl1] at hc1 hc2 hc3;rw [← hb.cell hl2] at hd1 hd2 hd3;obtain ⟨m1,s1,e1,hx⟩:∃ m s e,l[k]=(m,s,e):=⟨_,_,_,rfl⟩;rw [hx] at hc1 hc2 hc3 hd1 hd2 hd3;simp only at hc1 hc2 hc3 hd1 hd2 hd3;have i1:(0:Int)≤(k:Int):=by omega
   have i2:(k:Int)<(n:Int):=by omega
   go_wp2_with fail;have hin:(wr.drew.cell? ⟨b1,off1+k*3,none⟩=some (.bool m1)∧wr.drew.cell? ⟨b1,off1+k*3+1,none⟩=some (.string s1)∧wr.drew.cell? ⟨b1,off1+k*3+2,none⟩=some (.int .i64 e1)) ∧
    (wr.drew.cell? ⟨b2,off2+k*3,none⟩=some (.bool m1)∧wr.drew.cell? ⟨b2,off2+k*3+1,none⟩=some (.string s1)∧wr.drew.cell? ⟨b2,off2+k*3+2,none⟩=some (.int .i64 e1))∧Below w.heap.size w wr.drew:=⟨⟨hc1,hc2,hc3⟩,⟨hd1,hd2,hd3⟩,hb.drew⟩
   clear hc1 hc2 hc3 hd1 hd2 hd3 hb
   go_region_held3 (fun w'=>(w'.cell? ⟨b1,off1+k*3,none⟩=some (.bool m1)∧w'.cell? ⟨b1,off1+k*3+1,none⟩=some (.string s1)∧w'.cell? ⟨b1,off1+k*3+2,none⟩=some (.int .i64 e1)) ∧
    (w'.cell? ⟨b2,off2+k*3,none⟩=some (.bool m1)∧w'.cell? ⟨b2,off2+k*3+1,none⟩=some (.string s1)∧w'.cell? ⟨b2,off2+k*3+2,none⟩=some (.int .i64 e1))∧Below w.heap.size w w')
    (first|assumption) (first|fail)
   all_goals
    have hb:=hin.2.2;go_wp2;go_roundw
    case rel=>exact ⟨k+1,rfl,hkn,hb⟩
    case measure=>simp [RowKit.intOf];omega
  ·obtain rfl:k=n:=by omega
   go_wp2;go_ret;exact ⟨rfl,hb⟩
theorem lfar_any (w:World) (m:Bool) (s:ByteArray) (e:Int) (f:Bool) (hf:decide (24<s.size∨e < -32000∨32000<e)=f) :
  Calls Tryz.prog 7 #[.agg #[.bool m,.string s,.int .i64 e]] w (Ret (.bool f) w):=by
 go_enter Tryz.func7,Tryz.ntmps7;go_wp2_with fail
 all_goals
  go_ret;refine ⟨?_,(Below.refl w.heap.size w).alloc (Nat.le_refl _) _⟩;refine congrArg (fun b=>Ending.returned (Value.bool b)) ?_;rw [← hf,Bool.eq_iff_iff];simp only [Bool.or_eq_true,decide_eq_true_eq,true_iff];omega
theorem lnum_any (w:World) (n k:Int) (h1:-1000000≤n∧n≤1000000) (h2:-1000000≤k∧k≤1000000) (m:Bool) (s:ByteArray) (e:Int) (hd1:df (.ofIntWithPrec n 0)=nu m s e) (hse:s.size≤8∧0≤e∧e≤64) (m' : Bool) (s' : ByteArray) (e' : Int) (hd2:df (nv m s (e+k))=nu m' s' e') :
  Calls Tryz.prog 23 #[.int .i64 n,.int .i64 k] w (Ret (.agg #[.bool m',.string s',.int .i64 e']) w):=by
 have HC:=Lib.hid (And.intro hd1 hd2);clear hd1 hd2;go_enter Tryz.func23,Tryz.ntmps23;go_wp2_with fail;have hR:=Nk.new w false ⟨#[]⟩ 0;have hb:=(Below.refl w.heap.size w).alloc (Nat.le_refl _) (.cells #[.bool false,.string ⟨#[]⟩,.int .i64 0] 28);generalize w.alloc (.cells #[.bool false,.string ⟨#[]⟩,.int .i64 0] 28)=W0 at *;refine (ryof_any _ n (by omega) (by omega) m s e HC.out.1).mono ?_;rintro e'' W ⟨rfl,hq⟩;replace hb:=below_next hb hq;replace hR:=hR.below hq;clear hq;go_wp2_with fail;refine (ryshift_any _ m s e k (by omega) (by omega) (by omega) m' s' e' HC.out.2).mono ?_;rintro e'' W2 ⟨rfl,hq⟩;replace hb:=below_next hb hq;replace hR:=hR.below hq;clear hq;obtain ⟨hR0,hR1,hR2,hR3,hR4,hR5⟩:=hR.facts;go_wp2;exact ret_num rfl rfl (hR.set3 _ _ _) ⟨rfl,below_set3 hb (Nat.le_refl _) _ _ _ _ _ _⟩
theorem byte_of {n:Nat} (h:n<256):(UInt8.ofNat n).toNat=n:=by
 rw [UInt8.toNat_ofNat'];exact Nat.mod_eq_of_lt h
theorem form_one {n:Nat} (h1:1≤n) (h2:n≤255):formL n=[UInt8.ofNat n]:=by
 refine formL_of ?_ ?_
 ·intro b hb e;obtain rfl:UInt8.ofNat n=b:=by simpa using hb
  have:=congrArg UInt8.toNat e
  rw [byte_of (by omega)] at this
  change n=0 at this
  omega
 ·show 0*256+(UInt8.ofNat n).toNat=n;rw [byte_of (by omega)];omega
theorem form_two {n:Nat} (h1:255<n) (h2:n≤65535):formL n=[UInt8.ofNat (n / 256),UInt8.ofNat (n % 256)]:=by
 refine formL_of ?_ ?_
 ·intro b hb e;obtain rfl:UInt8.ofNat (n / 256)=b:=by simpa using hb
  have:=congrArg UInt8.toNat e
  rw [byte_of (by omega)] at this
  change n / 256=0 at this
  omega
 ·show (0*256+(UInt8.ofNat (n / 256)).toNat)*256+(UInt8.ofNat (n % 256)).toNat=n;rw [byte_of (by omega),byte_of (by omega)];omega
theorem lsize_any (w:World) (n:Nat) (h1:1≤n) (h2:n≤65535) (t:ByteArray) (ht:fb n=t) :
  Calls Tryz.prog 20 #[.int .i64 n] w (Ret (.string t) w):=by
 by_cases hn:255<n
 ·have d1:decide ((255:Int)<(n:Int))=true:=decide_eq_true (by omega);have hl:=form_two hn h2;have hb:=(Below.refl w.heap.size w).alloc (Nat.le_refl _) (.cells #[.int .u8 ((n:Int) / 256),.int .u8 ((n:Int) % 256)] 5);have hcv:=run_bytes_at (w:=w.alloc (.cells #[.int .u8 ((n:Int) / 256),.int .u8 ((n:Int) % 256)] 5)) (g:=w.heap.size) (off:=0) (len:=2) (cap:=2) (l:=formL n) (by rw [hl];rfl) (fun i hi=>by
   rw [Nat.zero_add];have hR:=(Rw.new w 5 [Value.int .u8 ((n:Int) / 256),.int .u8 ((n:Int) % 256)]).cell i;refine hR.trans ?_;have h2' : i<2:=by rw [hl] at hi;exact hi
   rcases (show i=0∨i=1 by omega) with rfl|rfl
   ·simp only [hl,List.getElem_cons_zero,List.getElem?_cons_zero];unfold by8;rw [byte_of (by omega)];rfl
   ·simp only [hl,List.getElem_cons_succ,List.getElem_cons_zero,List.getElem?_cons_succ,List.getElem?_cons_zero];unfold by8;rw [byte_of (by omega)];rfl)
  have hst:str (formL n)=.string t:=by rw [← ht];rfl
  rw [hst] at hcv;clear ht hst hl;go_enter Tryz.func20,Tryz.ntmps20;go_wp2;go_ret;exact ⟨rfl,hb⟩
 ·have d1:decide ((255:Int)<(n:Int))=false:=decide_eq_false (by omega);have hl:=form_one h1 (by omega);have hb:=(Below.refl w.heap.size w).alloc (Nat.le_refl _) (.cells #[.int .u8 (n:Int)] 5);have hcv:=run_bytes_at (w:=w.alloc (.cells #[.int .u8 (n:Int)] 5)) (g:=w.heap.size) (off:=0) (len:=1) (cap:=1) (l:=formL n) (by rw [hl];rfl) (fun i hi=>by
   rw [Nat.zero_add];have hR:=(Rw.new w 5 [Value.int .u8 (n:Int)]).cell i;refine hR.trans ?_;have h2' : i<1:=by rw [hl] at hi;exact hi
   obtain rfl:i=0:=by omega
   simp only [hl,List.getElem_cons_zero,List.getElem?_cons_zero];unfold by8;rw [byte_of (by omega)])
  have hst:str (formL n)=.string t:=by rw [← ht];rfl
  rw [hst] at hcv;clear ht hst hl;go_enter Tryz.func20,Tryz.ntmps20;go_wp2;go_ret;exact ⟨rfl,hb⟩
theorem infoU8:(Tryz.prog.info? 5).map (fun i=>(i.zero,i.size,i.bytes))=some (some (.int .u8 0),1,1):=by kernel_rfl
theorem make_bytesL (n:Nat) (hmax:n≤2000000000000):∀ w:World,
  (Instr.makeSlice 65 (.int .i64 n) (.int .i64 n)).run Tryz.prog w=.ok (.slice (some ⟨w.heap.size,0,none⟩) n n) (w.alloc (.cells (Array.replicate n (Value.int .u8 0)) 5)):=by
 intro w;obtain ⟨i,hi,hz,hs,hb⟩:=info_parts infoU8;have h:=run_make (P:=Tryz.prog) w 65 5 i _ Tryz.underlying65 hi hz .i64 .i64 (n:Int) (n:Int) (by omega) (by omega) (by rw [hb];omega) (by omega);rw [h,hs];simp only [Int.toNat_natCast,Nat.mul_one];have e:madeCells (Value.cells (.int .u8 0)) n=Array.replicate n (Value.int .u8 0):=by
  apply Array.toList_inj.1
  rw [show Value.cells (.int .u8 0)=#[.int .u8 0] from rfl,toList_madeCells_one,Array.toList_replicate]
 rw [e]
theorem numL_nought (k:Nat):numL (List.replicate k 0)=0:=by
 induction k with
 | zero=>rfl
 | succ k ih =>
  rw [List.replicate_succ',numL_snoc,ih];rfl
theorem pow_parts (n:Nat):2 ^ n=2 ^ (n % 8)*256 ^ (n / 8):=by
 have h:n=n % 8+8*(n / 8):=by omega
 have h2:2 ^ (n % 8+8*(n / 8))=2 ^ (n % 8)*256 ^ (n / 8):=by rw [Nat.pow_add,Nat.pow_mul]
 rw [← h] at h2;exact h2
theorem pow_small (n:Nat):1≤2 ^ (n % 8)∧2 ^ (n % 8)≤128:=by
 have h:n % 8<8:=Nat.mod_lt _ (by decide);have h2:2 ^ (n % 8)≤2 ^ 7:=Nat.pow_le_pow_right (by decide) (by omega);exact ⟨Nat.two_pow_pos _,Nat.le_trans h2 (by decide)⟩
theorem form_pow (n:Nat):formL (2 ^ n)=UInt8.ofNat (2 ^ (n % 8))::List.replicate (n / 8) 0:=by
 obtain ⟨p1,p2⟩:=pow_small n;refine formL_of ?_ ?_
 ·intro b hb e;obtain rfl:UInt8.ofNat (2 ^ (n % 8))=b:=by simpa using hb
  have:=congrArg UInt8.toNat e
  rw [byte_of (by omega)] at this
  change 2 ^ (n % 8)=0 at this
  omega
 ·show List.foldl _ (0*256+(UInt8.ofNat (2 ^ (n % 8))).toNat) _=_;rw [foldl_num,numL_nought,List.length_replicate,byte_of (by omega),pow_parts n,Nat.zero_mul,Nat.zero_add,Nat.add_zero]
theorem lpower_law (w:World) (n:Nat) (h1:n≤1000) (t:ByteArray) (ht:fb (2 ^ n)=t) :
  Calls Tryz.prog 21 #[.int .i64 n] w (Ret (.string t) w):=by
 have hmk:=make_bytesL (n / 8+1) (by omega) w;have e1:((n / 8+1:Nat):Int)=(n:Int) / 8+1:=by omega
 rw [e1,← List.toArray_replicate] at hmk;have hR:=Rw.new w 5 (List.replicate (n / 8+1) (Value.int .u8 0));have hc0:=hR.cell 0;have hf0:=hR.frozen 0;have i0:0<n / 8+1:=by omega
 rw [List.getElem?_replicate,if_pos i0] at hc0;obtain ⟨p1,p2⟩:=pow_small n;have hl:=form_pow n;have hv:(2:Int) ^ (n % 8) % 256=((2 ^ (n % 8):Nat):Int):=by
  have e:(2:Int) ^ (n % 8)=((2 ^ (n % 8):Nat):Int):=by rw [Int.natCast_pow];rfl
  rw [e];omega
 have hb:=(Below.refl w.heap.size w).alloc (Nat.le_refl _) (Obj.cells ((Array.replicate (n / 8+1) (Value.int .u8 0)).setIfInBounds 0 (Value.int .u8 (2 ^ (n % 8) % 256))) 5);have hcv:=run_bytes_at (w:=w.alloc (Obj.cells ((Array.replicate (n / 8+1) (Value.int .u8 0)).setIfInBounds 0 (Value.int .u8 (2 ^ (n % 8) % 256))) 5)) (g:=w.heap.size) (off:=0) (len:=n / 8+1) (cap:=n / 8+1) (l:=formL (2 ^ n)) (by rw [hl,List.length_cons,List.length_replicate]) (fun i hi=>by
  rw [Nat.zero_add];have hR2:=(Rw.new w 5 ((Array.replicate (n / 8+1) (Value.int .u8 0)).setIfInBounds 0 (Value.int .u8 (2 ^ (n % 8) % 256))).toList).cell i;rw [Array.toArray_toList] at hR2;refine hR2.trans ?_;have h2' : i<n / 8+1:=by rw [hl,List.length_cons,List.length_replicate] at hi;exact hi
  cases i with
  | zero =>
   simp only [hl,List.getElem_cons_zero];unfold by8;rw [byte_of (by omega),← hv];simp
  | succ i =>
   simp only [hl,List.getElem_cons_succ,List.getElem_replicate];have h3:i+1<((Array.replicate (n / 8+1) (Value.int .u8 0)).setIfInBounds 0 (Value.int .u8 (2 ^ (n % 8) % 256))).toList.length:=by simpa using h2'
   rw [List.getElem?_eq_getElem h3];simp [by8])
 have hst:str (formL (2 ^ n))=.string t:=by rw [← ht];rfl
 rw [hst] at hcv;clear ht hst hl hv p1 p2;go_enter Tryz.func21,Tryz.ntmps21;go_wp2;go_ret;exact ⟨rfl,hb⟩
end Go.Proofs.YtiddgplapodleaaGreatDoor
