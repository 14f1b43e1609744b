/- Layer 1, laid together: LRow, LRRow. -/
import Derived.Test.YtiddgplapodleaaGreatDoorLApp
import Derived.Test.YtiddgplapodleaaGreatDoorLShelf
/- Package lit: Row,walked. -/
namespace Go.Proofs.YtiddgplapodleaaGreatDoor
set_option maxRecDepth 100000
set_option maxHeartbeats 1600000
open Go.RowKit Go.Shelf Go.Lib
def ownB (x:NV):ByteArray:=⟨(numT (dm (nvl x)) (de (nvl x))).toArray⟩
def rowB (l:List NV):ByteArray:=⟨(Lib.join (l.map fun x=>(ownB x).data.toList) [32]).toArray⟩
theorem own_of {x:NV} {z:Bool} {o:ByteArray} {e:Int} (h:df (nvl x)=nu z o e):⟨(numT (wv z o) e).toArray⟩=ownB x:=by
 obtain ⟨h1,h2,_⟩:=df_parts h;unfold ownB;rw [h1,h2]
theorem own_len {x:NV} (hs:x.2.1.size≤100∧-100000≤x.2.2∧x.2.2≤100000):(ownB x).data.toList.length≤400:=by
 obtain ⟨z,o,e,hd⟩:=df_some (nvl x);have hx:=df_exp (show df (nv x.1 x.2.1 x.2.2)=nu z o e from hd) hs.1;rw [← own_of hd];have h1:(itoa (wv z o)).length≤3*o.size+2:=itoa_size z o rfl;obtain ⟨ze,oe,ke,ve,se⟩:=nmw (show e.natAbs<256 ^ 4 by omega);have h2:(itoa (wv ze oe)).length≤3*oe.size+2:=itoa_size ze oe rfl;rw [ve] at h2;show (numT (wv z o) e).length≤400;unfold numT
 split
 ·simp;omega
 ·simp;omega
theorem joinTail_len (sep:List UInt8) (M:Nat):∀ r:List (List UInt8),(∀ x∈r,x.length≤M)→(Lib.joinTail sep r).length≤r.length*(sep.length+M)
 | [],_=>by simp [Lib.joinTail]
 | x::r,h=>by
  have h1:=joinTail_len sep M r fun y hy=>h y (List.mem_cons_of_mem _ hy);have h2:=h x List.mem_cons_self;unfold Lib.joinTail at *;rw [List.map_cons,List.flatten_cons,List.length_append,List.length_append,List.length_cons,Nat.succ_mul];omega
theorem join_len (sep:List UInt8) (M:Nat) (r:List (List UInt8)) (h:∀ x∈r,x.length≤M):(Lib.join r sep).length≤r.length*(sep.length+M):=by
 cases r with
 | nil=>simp [Lib.join_nil]
 | cons x r =>
  have h1:=joinTail_len sep M r fun y hy=>h y (List.mem_cons_of_mem _ hy);have h2:=h x List.mem_cons_self;rw [Lib.join_cons,List.length_append,List.length_cons,Nat.succ_mul];omega
def LRI (w wr:World) (l:List NV) (v:Value) (k:Nat):Prop:=
 k≤l.length∧OV w.heap.size wr v (((l.take k).map ownB).map Value.string)∧Below w.heap.size w wr
theorem LRI.start (w:World) (l:List NV) (n:Nat) (hn:n≤1000):LRI w (w.alloc (.cells (Array.replicate n (Value.string ⟨#[]⟩)) 9)) l (.slice (some ⟨w.heap.size,0,none⟩) 0 n) 0:=by
 rw [← List.toArray_replicate];exact ⟨Nat.zero_le _,OV.of_rw (Rw.new w 9 (List.replicate n (Value.string ⟨#[]⟩))) (Nat.le_refl _) (by simp) (by unfold maxLen;omega),(Below.refl _ _).alloc (Nat.le_refl _) _⟩
theorem lrow_any (w:World) (htab:TabIs Tryz.prog w "internal/strconv.uint64pow10" .u64 pow10Tab) (ad:Option Addr) (n c:Nat) (l:List NV) (hl:NAt w ad l) (hn:l.length=n) (hnc:n≤100)
  (hs:∀ x∈l,x.2.1.size≤100∧-100000≤x.2.2∧x.2.2≤100000) (t:ByteArray) (ht:rowB l=t) :
  Calls Tryz.prog 10 #[.slice ad n c] w (Ret (.string t) w):=by
 obtain ⟨i,hi,hz,hsi,hby⟩:=info_parts infoStr;have hI:=LRI.start w l n (by omega);have HT:=Lib.hid (And.intro ht hs);clear ht;go_enter Tryz.func10,Tryz.ntmps10;have hmk:=make_strs n (by omega);go_wp2
 go_loopw [3,11] (fun v iv wr=>∃ k:Nat,iv=.int .i64 k∧LRI w wr l v k) (fun _ iv _=>n-(RowKit.intOf iv).toNat)
 case atStart=>exact ⟨0,rfl,hI⟩
 case round =>
  clear hI hmk;obtain ⟨k,rfl,hk,hV,hb⟩:=hrel
  by_cases hkn:k<n
  ·have hkl:k<l.length:=by omega
   obtain ⟨b,off,rfl,hbl,hc1,hc2,hc3⟩:=hl k hkl;have hss:=hs l[k] (List.getElem_mem hkl);obtain ⟨z,o,x,hd⟩:=df_some (nvl l[k]);have hT:=own_of hd;have htk:l.take (k+1)=l.take k++[l[k]]:=List.take_succ_eq_append_getElem hkl;rw [← hb.cell hbl] at hc1 hc2 hc3;obtain ⟨m1,s1,e1,hx⟩:∃ m s e,l[k]=(m,s,e):=⟨_,_,_,rfl⟩;rw [hx] at hc1 hc2 hc3 hss hd hT htk;simp only at hc1 hc2 hc3 hss;obtain ⟨T,hTT⟩:∃ T,ownB (m1,s1,e1)=T:=⟨_,rfl⟩;rw [hTT] at hT;obtain ⟨VS,hVS⟩:∃ VS,((l.take k).map ownB).map Value.string=VS:=⟨_,rfl⟩;have hVl:VS.length=k:=by rw [← hVS,List.length_map,List.length_map,List.length_take];omega
   rw [hVS] at hV;have HD:=Lib.hid (And.intro (show df (nv m1 s1 e1)=nu z o x from hd) (And.intro hT (And.intro htk (And.intro hTT hVS))));clear hd hT htk hTT hx hVS;go_wp2_with fail;replace hb:=hb.alloc hb.size (.cells #[.bool m1,.string s1,.int .i64 e1] 28);replace hV:=hV.alloc (.cells #[.bool m1,.string s1,.int .i64 e1] 28);generalize wr.alloc (.cells #[.bool m1,.string s1,.int .i64 e1] 28)=W1 at *;refine (lprint_any _ (tab_below htab hb) m1 s1 e1 hss.1 hss.2 z o x HD.out.1 T HD.out.2.1).mono ?_;rintro e' W2 ⟨rfl,hq⟩;replace hb:=below_next hb hq;replace hV:=hV.next hq;clear hq hc1 hc2 hc3;have hVa:=hV.alloc (.cells #[.string T] 9);have hcl:=(Rw.new W2 9 [.string T]).cell 0;have hls:w.heap.size≤(W2.alloc (.cells #[.string T] 9)).heap.size:=by have:=hb.size;simp;omega
   have hba:=hb.alloc hb.size (.cells #[.string T] 9);go_wp2_with (first
    | (at_builtin;refine wpList_append_one w.heap.size Tryz.underlying51 hi hz hsi (by omega) rfl rfl (.tmp 15) (.tmp 18) rfl u3 _ rfl hVa ⟨W2.heap.size,0,none⟩ (.string T) 1 rfl hcl rfl (by omega) hls ?_))
   intro v' W4 hV4 hg4 _;have hb4:Below w.heap.size w W4:=hba.grown hg4 hls (fun g hg=>(hVa.lt hg).1);have hI4:LRI w W4 l v' (k+1):=by
    refine ⟨hkl,?_,hb4⟩;rw [HD.out.2.2.1,List.map_append,List.map_append];show OV _ _ _ (_++[Value.string (ownB (m1,s1,e1))]);rw [HD.out.2.2.2.1,HD.out.2.2.2.2];exact hV4
   clear hV hb hVa hcl hls hba hV4 hg4 hb4;go_wp2;go_roundw
   case rel=>exact ⟨k+1,rfl,hI4⟩
   case measure=>simp [RowKit.intOf];omega
  ·obtain rfl:k=n:=by omega
   rw [List.take_of_length_le (by omega)] at hV;have hall:∀ x∈(l.map ownB).map (fun b=>b.data.toList),x.length≤400:=by
    intro x hx;obtain ⟨b,hb',rfl⟩:=List.mem_map.1 hx;obtain ⟨y,hy,rfl⟩:=List.mem_map.1 hb';exact own_len (HT.out.2 y hy)
   have hjl:=join_len [32] 400 _ hall;rw [List.length_map,List.length_map] at hjl;have hjl2:(Lib.join ((l.map ownB).map (fun b=>b.data.toList)) [32]).length≤140737488355328:=by
    refine Nat.le_trans hjl (Nat.le_trans (Nat.mul_le_mul_right _ (show l.length≤100 by omega)) ?_);simp
   have hrow:(⟨(Lib.join ((l.map ownB).map (fun b=>b.data.toList)) (⟨#[32]⟩:ByteArray).data.toList).toArray⟩:ByteArray)=t:=by
    rw [← HT.out.1,List.map_map];rfl
   rcases hV with ⟨rfl,h0⟩|⟨g,cap,T,L,rfl,hB,hR,h1,h2,h3,h4⟩
   ·have hl0:l=[]:=by
     cases l with
     | nil=>rfl
     | cons x r=>cases h0
    subst hl0;have ht0:(⟨#[]⟩:ByteArray)=t:=hrow;clear hrow hjl hjl2 hall h0;go_wp2_with fail;refine (Tryz.strings_Join_none none 0 ⟨#[32]⟩ _).mono ?_;rintro e' W5 ⟨rfl,rfl⟩;go_wp2;go_ret;exact ⟨rfl,hb⟩
   ·subst h2;have hlk:(l.map ownB).length=k:=by rw [List.length_map];exact hn
    have hlk2:((l.map ownB).map Value.string).length=k:=by rw [List.length_map];exact hlk
    rw [hlk2] at h1 h4 ⊢;have hcells:∀ (j:Nat) x,(l.map ownB)[j]?=some x→wr.cell? ⟨g,0+j,none⟩=some (.string x):=by
     intro j x hj;obtain ⟨hjl3,-⟩:=List.getElem?_eq_some_iff.1 hj;rw [Nat.zero_add,hR.cell];have h5:(L.take k)[j]?=some (Value.string x):=by rw [h4,List.getElem?_map,hj];rfl
     rw [List.getElem?_take_of_lt (by omega)] at h5;exact h5
    have hJ:=Tryz.strings_Join g 0 L.length (l.map ownB) ⟨#[32]⟩ wr hcells hR.lt (by omega) (by omega) hjl2;rw [hlk,hrow] at hJ;have HJ:=Lib.hid hJ;clear hJ hcells hrow hjl hjl2 hall h4 hlk hlk2;go_wp2_with fail;refine HJ.out.mono ?_;rintro e' W5 ⟨rfl,hq⟩;replace hb:=below_next hb hq;go_wp2;go_ret;exact ⟨rfl,hb⟩
theorem join_snoc (xs:List (List UInt8)) (y sep:List UInt8):Lib.join (xs++[y]) sep=if xs=[] then y else Lib.join xs sep++sep++y:=by
 cases xs with
 | nil=>rw [if_pos rfl,List.nil_append,Lib.join_one]
 | cons x r =>
  rw [if_neg (by simp),List.cons_append,Lib.join_cons,Lib.join_cons];unfold Lib.joinTail;simp
theorem rowB_first {l:List NV} (h:0<l.length) {T:ByteArray} (hT:ownB l[0]=T):rowB (l.take 1)=T:=by
 cases l with
 | nil=>simp at h
 | cons x r =>
  rw [← hT];unfold rowB;simp [Lib.join_one]
theorem rowB_next {l:List NV} {k:Nat} (h:k<l.length) (h0:k≠0) {S T:ByteArray} (hS:rowB (l.take k)=S) (hT:ownB l[k]=T):rowB (l.take (k+1))=S++⟨#[32]⟩++T:=by
 rw [← hS,← hT];have hne:(l.take k).map (fun x=>(ownB x).data.toList)≠[]:=by
  intro e
  have:=congrArg List.length e
  rw [List.length_map,List.length_take,List.length_nil] at this;omega
 unfold rowB;rw [List.take_succ_eq_append_getElem h,List.map_append,List.map_cons,List.map_nil,join_snoc,if_neg hne];rw [ByteArray.ext_iff];simp
theorem rowB_size {l:List NV} (hn:l.length≤100) (hs:∀ x∈l,x.2.1.size≤100∧-100000≤x.2.2∧x.2.2≤100000) (k:Nat) {S:ByteArray} (hS:rowB (l.take k)=S):S.size≤40100:=by
 rw [← hS];have hall:∀ x∈(l.take k).map (fun x=>(ownB x).data.toList),x.length≤400:=by
  intro x hx;obtain ⟨y,hy,rfl⟩:=List.mem_map.1 hx;exact own_len (hs y (List.mem_of_mem_take hy))
 have hjl:=join_len [32] 400 _ hall;rw [List.length_map,List.length_take] at hjl;show (Lib.join ((l.take k).map fun x=>(ownB x).data.toList) [32]).length≤40100;refine Nat.le_trans hjl (Nat.le_trans (Nat.mul_le_mul_right _ (show min k l.length≤100 by omega)) ?_);simp
theorem rlrow_any (w:World) (ad:Option Addr) (n c:Nat) (l:List NV) (hl:NAt w ad l) (hn:l.length=n) (hnc:n≤100)
  (hs:∀ x∈l,x.2.1.size≤100∧-100000≤x.2.2∧x.2.2≤100000) (t:ByteArray) (ht:rowB l=t) :
  Calls Tryz.prog 11 #[.slice ad n c] w (Ret (.string t) w):=by
 have HT:=Lib.hid (And.intro ht hs);clear ht;go_enter Tryz.func11,Tryz.ntmps11;go_wp2
 go_loopw [3,4] (fun v iv wr=>∃ (k:Nat) (S:ByteArray),v=.string S∧iv=.int .i64 k∧k≤n∧rowB (l.take k)=S∧Below w.heap.size w wr) (fun _ iv _=>n-(RowKit.intOf iv).toNat)
 case atStart=>exact ⟨0,⟨#[]⟩,rfl,rfl,Nat.zero_le _,rfl,Below.refl _ _⟩
 case round =>
  obtain ⟨k,S,rfl,rfl,hk,hS,hb⟩:=hrel
  by_cases hkn:k<n
  ·have hkl:k<l.length:=by omega
   obtain ⟨b,off,rfl,hbl,hc1,hc2,hc3⟩:=hl k hkl;have hss:=hs l[k] (List.getElem_mem hkl);obtain ⟨z,o,x,hd⟩:=df_some (nvl l[k]);have hT:=own_of hd;obtain ⟨T,hTT⟩:∃ T,ownB l[k]=T:=⟨_,rfl⟩;rw [hTT] at hT;have hTs:T.size≤400:=by rw [← hTT];exact own_len hss
   have hSs:=rowB_size (by omega) hs k hS;have hS1:(S++(⟨#[32]⟩:ByteArray)).size=S.size+1:=by rw [ByteArray.size_append];rfl
   rw [← hb.cell hbl] at hc1 hc2 hc3;have hnext:rowB (l.take (k+1))=if k=0 then T else S++⟨#[32]⟩++T:=by
    split
    ·rename_i h0
     subst h0;exact rowB_first hkl hTT
    ·rename_i h0
     exact rowB_next hkl h0 hS hTT
   obtain ⟨m1,s1,e1,hx⟩:∃ m s e,l[k]=(m,s,e):=⟨_,_,_,rfl⟩;rw [hx] at hc1 hc2 hc3 hss hd;simp only at hc1 hc2 hc3 hss;have HD:=Lib.hid (And.intro (show df (nv m1 s1 e1)=nu z o x from hd) (And.intro hT (And.intro hnext hS)));clear hd hT hnext hTT hx hS
   by_cases h0:k=0
   ·subst h0;have hS0:S=⟨#[]⟩:=by rw [← HD.out.2.2.2];rfl
    subst hS0;rw [Nat.zero_mul,Nat.add_zero] at hc1 hc2 hc3;go_wp2_with fail;refine (rlprint_any _ m1 s1 e1 (by omega) (by omega) z o x HD.out.1 T HD.out.2.1).mono ?_;rintro e' W2 ⟨rfl,hq⟩;replace hb:=below_next hb hq;clear hq hc1 hc2 hc3;have hnx:=HD.out.2.2.1;rw [if_pos trivial] at hnx;go_wp2;go_roundw
    case rel=>exact ⟨1,T,rfl,rfl,hkn,hnx,hb⟩
    case measure=>simp [RowKit.intOf];omega
   ·have d0:decide ((0:Int)<(k:Int))=true:=decide_eq_true (by omega);go_wp2_with fail;refine (rlprint_any _ m1 s1 e1 (by omega) (by omega) z o x HD.out.1 T HD.out.2.1).mono ?_;rintro e' W2 ⟨rfl,hq⟩;replace hb:=below_next hb hq;clear hq hc1 hc2 hc3;have hnx:=HD.out.2.2.1;rw [if_neg h0] at hnx;have HX:=Lib.hid hnx;clear hnx;go_wp2;go_roundw
    case rel=>exact ⟨k+1,_,rfl,rfl,hkn,HX.out,hb⟩
    case measure=>simp [RowKit.intOf];omega
  ·obtain rfl:k=n:=by omega
   rw [List.take_of_length_le (by omega),HT.out.1] at hS;subst hS;go_wp2;go_ret;exact ⟨rfl,hb⟩
end Go.Proofs.YtiddgplapodleaaGreatDoor
