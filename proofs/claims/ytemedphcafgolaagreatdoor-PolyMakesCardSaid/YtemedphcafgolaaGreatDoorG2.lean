/- Layer 1, laid together: Of, NatA, Read, Build, Back, Text, From. -/
import Derived.Test.YtemedphcafgolaaGreatDoorG1
import Derived.Laws.BytesArg
import Derived.Deep.RegionLaw
import Derived.OwnWalk
import Derived.Lib.Builder
import Derived.RangeFuncOwn
import Derived.RangeFuncBox
import Derived.RangeFuncBound
import Derived.RangeFuncCalls
import Derived.RangeFuncLeaves
import Derived.RangeFuncNested
import Derived.Shelf.Abstract
import Derived.Shelf.RegionOpen
import Derived.OwnWalkIn
import Derived.TacticsInMore
import Derived.LoopNIn
import Derived.LoopIn
import Derived.RangeFuncWrites
import Derived.Lib.OthersKept
/- A digit's bytes,and its text,walked. -/
namespace Go.Proofs.YtemedphcafgolaaGreatDoor
set_option maxRecDepth 100000
set_option maxHeartbeats 2000000
open Go.RowKit Go.Shelf
def by8 (b:UInt8):Value:=.int .u8 (b.toNat:Int)
def str (l:List UInt8):Value:=.string ⟨l.toArray⟩
theorem by8_ofNat (m:Nat):by8 (UInt8.ofNat m)=.int .u8 ((m:Int) % 256):=by simp [by8]
theorem eight_vals (n:Nat):((eightL n).map by8).toArray=#[.int .u8 ((n:Int) / 72057594037927936 % 256),.int .u8 ((n:Int) / 281474976710656 % 256),.int .u8 ((n:Int) / 1099511627776 % 256),.int .u8 ((n:Int) / 4294967296 % 256),
  .int .u8 ((n:Int) / 16777216 % 256),.int .u8 ((n:Int) / 65536 % 256),.int .u8 ((n:Int) / 256 % 256),.int .u8 ((n:Int) % 256)]:=by
 simp only [eightL,List.map_cons,List.map_nil,by8_ofNat,Int.natCast_ediv,Int.cast_ofNat_Int]
theorem eight_any (w:World) (n:Nat) :
  Calls Tryz.prog 135 #[.int .u64 n] w fun e w'=>e=.returned (.agg ((eightL n).map by8).toArray)∧∃ cs,w'=w.alloc (.cells cs 150):=by
 rw [eight_vals];go_enter Tryz.func135,Tryz.ntmps135;go_wp2;refine bodyPost_ret (v:=.agg #[.int .u8 ((n:Int) / 72057594037927936 % 256),.int .u8 ((n:Int) / 281474976710656 % 256),.int .u8 ((n:Int) / 1099511627776 % 256),.int .u8 ((n:Int) / 4294967296 % 256),
  .int .u8 ((n:Int) / 16777216 % 256),.int .u8 ((n:Int) / 65536 % 256),.int .u8 ((n:Int) / 256 % 256),.int .u8 ((n:Int) % 256)]) (by simp [results,Tryz.results135,go_sem]) rfl ⟨rfl,?_⟩
 exact ⟨_,rfl⟩
theorem lz_bytes (n:Nat) (hn:n<B64):∃ z:Nat,z≤64∧(eightL n).drop (z / 8)=formL n∧(0<n→z<64)∧∀ w:World,
  Calls Tryz.prog 136 #[.int .u64 n] w fun e w'=>e=.returned (.int .i64 z)∧w=w':=by
 have hL:Lib.bitLen n=Lib.bitLenAux 64 n:=rfl;have hB:B64=2 ^ 64:=rfl;have h1:n=0→Lib.bitLen n=0:=fun h=>by rw [h];rfl
 have h2:0<n→1≤Lib.bitLen n∧2 ^ (Lib.bitLen n-1)≤n∧n<2 ^ Lib.bitLen n:=fun h=>by
  have:=Lib.bitLenAux_bounds 64 n hn (by omega)
  rwa [← hL] at this
 have h3:Lib.bitLen n≤64:=by
  rcases Nat.eq_zero_or_pos n with h|h
  ·rw [h1 h];omega
  ·obtain ⟨_,a,_⟩:=h2 h
   rcases Nat.lt_or_ge 64 (Lib.bitLen n) with hh|hh
   ·exfalso
    have:2 ^ 64≤2 ^ (Lib.bitLen n-1):=Nat.pow_le_pow_right (by omega) (by omega)
    omega
   ·exact hh
 refine ⟨64-Lib.bitLen n,by omega,eightL_drop hn h1 h2 h3,fun h=>by have:=(h2 h).1;omega,fun w=>?_⟩;refine (Tryz.bits_LeadingZeros64 (n:Int) w (by omega) (by unfold B64 at hn;omega)).mono fun e w' ⟨he,hw⟩=>⟨?_,hw.symm⟩;rw [he,Int.toNat_natCast]
 congr 2
 omega
theorem eight_ex (n:Nat):∃ c0 c1 c2 c3 c4 c5 c6 c7:UInt8,eightL n=[c0,c1,c2,c3,c4,c5,c6,c7]∧∀ w:World,
  Calls Tryz.prog 135 #[.int .u64 n] w fun e w'=>e=.returned (.agg #[.int .u8 c0.toNat,.int .u8 c1.toNat,.int .u8 c2.toNat,.int .u8 c3.toNat,.int .u8 c4.toNat,.int .u8 c5.toNat,.int .u8 c6.toNat,.int .u8 c7.toNat])∧∃ cs,w'=w.alloc (.cells cs 150):=
 by
 refine ⟨UInt8.ofNat (n / 72057594037927936),UInt8.ofNat (n / 281474976710656),UInt8.ofNat (n / 1099511627776),UInt8.ofNat (n / 4294967296),UInt8.ofNat (n / 16777216),UInt8.ofNat (n / 65536),UInt8.ofNat (n / 256),UInt8.ofNat n,by simp only [eightL],fun w=>?_⟩;exact (eight_any w n).mono fun e w' ⟨he,hb⟩=>⟨he.trans (by simp only [eightL,by8,List.map_cons,List.map_nil]),hb⟩
theorem arr8_len:Tryz.prog.arrayLen 150=8:=by kernel_rfl
theorem arr8_elem:Tryz.prog.elem 150=5:=by kernel_rfl
theorem arr8_under:Tryz.prog.underlying 150=some (.array (Tryz.prog.arrayLen 150) (Tryz.prog.elem 150)):=by kernel_rfl
theorem slice8 (g k:Nat) (hk:k<8) (w:World):(Instr.sliceAt 150 (.pointer (some ⟨g,0,none⟩)) (some (.int .i64 k)) none none).run Tryz.prog w=.ok (.slice (some ⟨g,k,none⟩) (8-k) (8-k)) w:=by
 rw [run_sliceAt_array_l w 150 ⟨g,0,none⟩ arr8_under .i64 (k:Int) (by omega) (by rw [arr8_len];omega),arr8_len,arr8_elem];simp [slicedAt,Tryz.sizeOf5,Addr.add,show ¬ 8=k by omega];intro h;exact h.symm
theorem slice8_end (g:Nat) (w:World):(Instr.sliceAt 150 (.pointer (some ⟨g,0,none⟩)) (some (.int .i64 8)) none none).run Tryz.prog w=.ok (.slice (some ⟨g,0,none⟩) 0 0) w:=by
 rw [run_sliceAt_array_l w 150 ⟨g,0,none⟩ arr8_under .i64 8 (by omega) (by rw [arr8_len];omega),arr8_len,arr8_elem];simp [slicedAt,Tryz.sizeOf5]
theorem run_bytes_at {w:World} {g off len cap:Nat} {l:List UInt8} (hl:l.length=len) (hc:∀ i (h:i<l.length),w.cell? ⟨g,off+i,none⟩=some (by8 l[i])) :
  (convert 70 9 (.slice (some ⟨g,off,none⟩) len cap)).run Tryz.prog w=.ok (str l) w:=by
 have h:=run_convert_bytes_arg (P:=Tryz.prog) w 70 5 Tryz.underlying70 Tryz.underlying5 g off len cap (l.map fun b=>(b.toNat:Int)) (by simpa using hl) (fun i hi=>by
  rw [hc i (by omega)];simp [by8,show i<l.length by omega]) 9 Tryz.underlying9
 have e:strOfNums (l.map fun b=>(b.toNat:Int))=⟨l.toArray⟩:=by simp [strOfNums,Function.comp_def]
 rw [e] at h;exact h
theorem of_any (w:World) (n:Nat) (hn:n<B64) :
  Calls Tryz.prog 104 #[.int .u64 n] w fun e w'=>e=.returned (str (formL n))∧Below w.heap.size w w':=by
 obtain ⟨z,hz,hdrop,_,hlz⟩:=lz_bytes n hn;obtain ⟨c0,c1,c2,c3,c4,c5,c6,c7,hc,h8⟩:=eight_ex n;obtain ⟨k,hk⟩:∃ k,k=z / 8:=⟨_,rfl⟩;have hq:(z:Int) / 8=(k:Int):=by omega
 rw [← hk,hc] at hdrop;have hk8:k≤8:=by omega
 clear hk;have HD:=Lib.hid hdrop;clear hdrop hc;have hcv:∀ (w1:World),k<8→(convert 70 9 (.slice (some ⟨w1.heap.size,k,none⟩) (8-k) (8-k))).run Tryz.prog (w1.alloc (.cells #[.int .u8 c0.toNat,.int .u8 c1.toNat,.int .u8 c2.toNat,.int .u8 c3.toNat,.int .u8 c4.toNat,.int .u8 c5.toNat,.int .u8 c6.toNat,.int .u8 c7.toNat] 150)) =
   .ok (str (formL n)) (w1.alloc (.cells #[.int .u8 c0.toNat,.int .u8 c1.toNat,.int .u8 c2.toNat,.int .u8 c3.toNat,.int .u8 c4.toNat,.int .u8 c5.toNat,.int .u8 c6.toNat,.int .u8 c7.toNat] 150)):=fun w1 h=>by
  refine run_bytes_at (by rw [← HD.out];simp) (fun i hi=>?_);have hR:=(Rw.new w1 150 ([c0,c1,c2,c3,c4,c5,c6,c7].map by8)).cell (k+i);have hi' : k+i<8:=by rw [← HD.out] at hi;simp at hi;omega
  refine hR.trans ?_;rw [List.getElem?_map,List.getElem?_eq_getElem (by simpa using hi'),Option.map_some]
  congr 2
  have:(formL n)[i]=([c0,c1,c2,c3,c4,c5,c6,c7].drop k)[i]'(by simp;omega):=by
   congr 1
   exact HD.out.symm
  rw [this,List.getElem_drop]
 go_enter Tryz.func104,Tryz.ntmps104;go_wp2_with fail;refine (h8 _).mono ?_;rintro e w1 ⟨rfl,cs,hw1⟩;have hb1:Below w.heap.size w w1:=by rw [hw1];exact (Below.refl _ _).alloc (Nat.le_refl _) _
 clear hw1;have hcv1:=hcv w1;clear hcv h8
 by_cases hk7:k<8
 ·have hcv2:=hcv1 hk7;have hsl:=fun g w=>slice8 g k hk7 w;clear hcv1;go_wp2_with (go_at_call 136;refine (hlz _).mono ?_;rintro e w' ⟨rfl,rfl⟩);go_ret;exact ⟨rfl,hb1.alloc hb1.size _⟩
 ·obtain rfl:k=8:=by omega
  have hform:formL n=[]:=by have:=HD.out;simpa using this.symm
  have hsl:=fun g w=>slice8_end g w;have hcv2:∀ (g:Nat) (w:World),(convert 70 9 (.slice (some ⟨g,0,none⟩) 0 0)).run Tryz.prog w=.ok (str []) w:=fun g w=>run_bytes_at rfl (fun i hi=>by simp at hi);have HF:=Lib.hid hform;clear hform hcv1;have hq' : (z:Int) / 8=8:=hq;clear hq;go_wp2_with (go_at_call 136;refine (hlz _).mono ?_;rintro e w' ⟨rfl,rfl⟩);go_ret;rw [HF.out];exact ⟨rfl,hb1.alloc hb1.size _⟩
theorem bare_any (w:World) (s:ByteArray) :
  Calls Tryz.prog 121 #[.string s] w fun e w'=>e=.returned (.string (fb (num s)))∧w=w':=by
 have hT:=Tryz.strings_TrimLeft_one s 0 (by decide) w;have e0:(⟨(Lib.trimLeftB s.data.toList 0).toArray⟩:ByteArray)=fb (num s):=by
  unfold Lib.trimLeftB;rw [dropWhile_formL];rfl
 rw [e0] at hT;have HT:=Lib.hid hT;clear hT e0;go_enter Tryz.func121,Tryz.ntmps121;go_wp2_with fail;refine (HT.out).mono ?_;rintro e w' ⟨rfl,rfl⟩;go_wp2;go_ret;exact ⟨rfl,rfl⟩
theorem clone_any (w:World) (s:ByteArray) (hs:s.size≤281474976710656) :
  Calls Tryz.prog 63 #[.string s] w fun e w'=>e=.returned (.string s)∧Below w.heap.size w w':=by
 go_enter Tryz.func63,Tryz.ntmps63;go_wp2_with fail;refine (Tryz.stringslite_Clone s _ hs).mono ?_;rintro e w' ⟨rfl,hb⟩;go_wp2;go_ret;exact ⟨rfl,hb⟩
theorem trim_any (w:World) (s:ByteArray) (hs:s.size≤281474976710656) :
  Calls Tryz.prog 124 #[.string s] w fun e w'=>e=.returned (.string (fb (num s)))∧Below w.heap.size w w':=by
 have h1:=fb_num_size s;go_enter Tryz.func124,Tryz.ntmps124;go_wp2_with fail;refine (bare_any _ s).mono ?_;rintro e w' ⟨rfl,rfl⟩;go_wp2_with fail;refine (clone_any _ _ (by omega)).mono ?_;rintro e w' ⟨rfl,hb⟩;go_wp2;go_ret;exact ⟨rfl,hb⟩
theorem strings_Compare_any (w:World) (s t:ByteArray) :
  Calls Tryz.prog 140 #[.string s,.string t] w fun e w'=>e=.returned (.int .i64 (Lib.compareBytes s.data.toList t.data.toList))∧w=w':=
 (Tryz.strings_Compare s t w).mono fun _ _ ⟨he,hw⟩=>⟨he,hw.symm⟩
theorem cmp_Compare_any (w:World) (x y:Int) :
  Calls Tryz.prog 84 #[.int .i64 x,.int .i64 y] w fun e w'=>e=.returned (.int .i64 (Lib.compareInt x y))∧w=w':=
 (Tryz.cmp_Compare_int x y w).mono fun _ _ ⟨he,hw⟩=>⟨he,hw.symm⟩
theorem cmp_any (w:World) (s t:ByteArray) :
  Calls Tryz.prog 116 #[.string s,.string t] w fun e w'=>e=.returned (.int .i64 (cmpN (num s) (num t)))∧w=w':=by
 have hlen:=@compareInt_len (num s) (num t);have hbyt:=compareBytes_num (formL (num s)) (formL (num t));rw [numL_formL,numL_formL] at hbyt;rw [← fb_size,← fb_size] at hlen hbyt;have HL:=Lib.hid hlen;clear hlen;have HB:=Lib.hid hbyt;clear hbyt;go_enter Tryz.func116,Tryz.ntmps116;go_wp2_with fail;refine (bare_any _ s).mono ?_;rintro e w' ⟨rfl,rfl⟩;go_wp2_with fail;refine (bare_any _ t).mono ?_;rintro e w' ⟨rfl,rfl⟩
 by_cases h:(fb (num s)).size=(fb (num t)).size
 ·have ht:(((fb (num s)).size:Int) != ((fb (num t)).size:Int))=false:=by rw [h];simp
  have H:=Lib.hid h;clear h;go_wp2_with fail;refine (strings_Compare_any _ _ _).mono ?_;rintro e w' ⟨rfl,rfl⟩;go_wp2;go_ret;exact ⟨by rw [fb_toList,fb_toList,HB.out H.out];rfl,rfl⟩
 ·have ht:(((fb (num s)).size:Int) != ((fb (num t)).size:Int))=true:=by rw [bne_iff_ne];omega
  go_wp2_with fail;refine (cmp_Compare_any _ _ _).mono ?_;rintro e w' ⟨rfl,rfl⟩;go_wp2;go_ret;exact ⟨by rw [HL.out h];rfl,rfl⟩
theorem ret_int {k:IntKind} {a b:Int} (h:a=b):Ending.returned (.int k a)=.returned (.int k b):=by rw [h]
theorem empty_of {n:Nat} (h:n=0):(fb n).toList.isEmpty=true:=by
 subst h;rw [Lib.toList_data];rfl
theorem empty_not {n:Nat} (h:n≠0):(fb n).toList.isEmpty=false:=by
 rw [Lib.toList_data,fb_toList]
 cases hl:formL n with
 | nil=>exact absurd (by have:=numL_formL n;rw [hl] at this;exact this.symm) h
 | cons b l=>rfl
theorem len_any (w:World) (s:ByteArray) (hs:s.size≤281474976710656) :
  Calls Tryz.prog 92 #[.string s] w fun e w'=>e=.returned (.int .i64 (bl (num s)))∧w=w':=by
 have h1:=fb_num_size s;obtain ⟨n,hn⟩:∃ n,n=num s:=⟨_,rfl⟩;go_enter Tryz.func92,Tryz.ntmps92;go_wp2_with fail;refine (bare_any _ s).mono ?_;rintro e w' ⟨rfl,rfl⟩;rw [← hn] at h1;have HN:=Lib.hid hn;rw [← HN.out];clear hn
 by_cases hn0:n=0
 ·have hE:=empty_of hn0;have H0:=Lib.hid hn0;clear hn0;go_wp2;go_ret;exact ⟨by rw [← HN.out,H0.out];rfl,rfl⟩
 ·have hE:=empty_not hn0;obtain ⟨hp,hf⟩:=fb_first hn0;have HF:=Lib.hid (hf hp);clear hf;have hlt:=((fb n)[0]).toNat_lt;go_wp2_with fail;refine (Tryz.bits_LeadingZeros8 _ _ (by omega) (by omega)).mono ?_;rintro e w' ⟨rfl,rfl⟩;rw [Int.toNat_natCast,bitLen_bl (Nat.lt_trans hlt (by decide))];obtain ⟨k,hk⟩:∃ k,k=bl ((fb n)[0]).toNat:=⟨_,rfl⟩;rw [← hk] at HF ⊢;have hk8:k≤8:=by
   rw [hk]
   rcases Nat.eq_zero_or_pos ((fb n)[0]).toNat with h|h
   ·rw [h];decide
   ·have:=(bl_bounds h).2.1
    rcases Nat.lt_or_ge 8 (bl ((fb n)[0]).toNat) with h8|h8
    ·have:2 ^ 8≤2 ^ (bl ((fb n)[0]).toNat-1):=Nat.pow_le_pow_right (by omega) (by omega)
     omega
    ·exact h8
  clear hk;go_wp2;go_ret;refine ⟨ret_int (k:=.i64) ?_,rfl⟩
  have:=HF.out
  rw [← HN.out];omega
theorem zeros8_any (w:World) (b:UInt8) (hb:b≠0) :
  Calls Tryz.prog 131 #[.int .u8 (b.toNat:Int)] w fun e w'=>e=.returned (.int .i64 (tz b.toNat))∧w=w':=by
 have hlt:=b.toNat_lt;have h0:b.toNat≠0:=fun h=>hb (UInt8.toNat_inj.1 (by simpa using h));refine (Tryz.bits_TrailingZeros8 _ w (by omega) (by omega)).mono fun e w' ⟨he,hw⟩=>⟨?_,hw.symm⟩;rw [he,Int.toNat_natCast]
 have:=trailingZeros8_eq ⟨b.toNat,by omega⟩ h0
 simp only at this;rw [this]
theorem zeros_any (w:World) (s:ByteArray) (hs:s.size≤281474976710656) :
  Calls Tryz.prog 101 #[.string s] w fun e w'=>e=.returned (.int .i64 (tz (num s)))∧w=w':=by
 have hT:=Tryz.strings_TrimRight_one s 0 (by decide) w (by omega);have hsz:s.data.toList.length=s.size:=rfl;obtain ⟨t,ht⟩:∃ t:ByteArray,t=⟨(Lib.trimRightB s.data.toList 0).toArray⟩:=⟨_,rfl⟩;have htl:t.data.toList=Lib.trimRightB s.data.toList 0:=by rw [ht]
 rw [← ht] at hT;have HT:=Lib.hid hT;clear hT ht;have hsp:=zeros_split s.data.toList;have htr:=congrArg List.length (trimRight_split s.data.toList);rw [List.length_append,← htl,hsz] at htr;rw [← htl] at hsp;have hts:t.data.toList.length=t.size:=rfl;rw [hts] at htr;have hle:t.size≤s.size:=by omega
 clear htr
 rcases hsp with ⟨e1,e2⟩|⟨m,b,e1,hb,e2⟩
 ·have hE:t.toList.isEmpty=true:=by rw [Lib.toList_data,e1];rfl
  have E2:=Lib.hid e2;clear e2 e1 hts htl hsz;go_enter Tryz.func101,Tryz.ntmps101;go_wp2_with fail;refine (HT.out).mono ?_;rintro e w' ⟨rfl,rfl⟩;go_wp2;go_ret;exact ⟨ret_int (k:=.i64) (by unfold num;rw [E2.out];rfl),rfl⟩
 ·have hE:t.toList.isEmpty=false:=by rw [Lib.toList_data,e1];simp
  have hml:t.size=m.length+1:=by rw [← hts,e1];simp
  have hp:0<t.size:=by omega
  have hidx:(t.size-1)<t.size:=by omega
  have hlast:t[t.size-1]=b:=by
   have h1:t[t.size-1]=t.data.toList[t.size-1]'(by rw [hts];omega):=by simp [ByteArray.getElem_eq_getElem_data]
   rw [h1];simp only [e1,hml];simp
  have hn1:((t.size:Int)-1).toNat=t.size-1:=by omega
  have E2:=Lib.hid (And.intro e2 hml);clear e2 e1 hts htl hsz hml;go_enter Tryz.func101,Tryz.ntmps101;go_wp2_with fail;refine (HT.out).mono ?_;rintro e w' ⟨rfl,rfl⟩;have hz8:tz b.toNat≤8:=by
   have hlt:=b.toNat_lt;have h0:b.toNat≠0:=fun h=>hb (UInt8.toNat_inj.1 (by simpa using h));have h1:=trailingZeros8_eq ⟨b.toNat,by omega⟩ h0;have h2:=Lib.trailingZeros8_le8 ⟨b.toNat,by omega⟩;simp only at h1 h2;omega
  go_wp2_with fail;refine (zeros8_any _ b hb).mono ?_;rintro e w' ⟨rfl,rfl⟩;go_wp2;go_ret;refine ⟨ret_int (k:=.i64) ?_,rfl⟩;have h1:=E2.out.1;have h2:=E2.out.2;have h3:s.data.toList.length=s.size:=rfl;unfold num;rw [h3] at h1;omega
theorem step_append_digit {ops:Array Oper} {o:Oper} {a:Act} {w0:World} {K:Act→World→Prop} {Q:Exit→Act→World→Prop} {E:Prop}
  (hgd:o.guard=none) (s y:Operand) (ho:o.op=.call { callee:=.builtin .append,args:=#[s,y],argTypes:=#[147,147] })
  (g cap:Nat) (ds:List Nat) (n:Nat) (hs:a.eval s=.slice (some ⟨g,0,none⟩) n cap) (hn:ds.length=n) (h:Own64 w0 g cap ds) (V:Value) (x:Nat) (hV:V=dg x) (b c:Nat) (hb:b=w0.heap.size) (hy:a.eval y=.slice (some ⟨b,0,none⟩) 1 c)
  (hmax:n≤10000000000000)
  (hk:∀ g' cap' w',Own64 w' g' cap' (ds++[x])→w0.grownBy w' (some g)→(g'=g∨w0.heap.size≤g')→K (a.put o.dst (.slice (some ⟨g',0,none⟩) (n+1) cap')) w') :
  if Region.wanted o (yielded ops a.tmps)=true then Oper.wp Tryz.prog o a (w0.alloc (.cells #[V] 119)) K Q else E:=by
 have hw:Region.wanted o (yielded ops a.tmps)=true:=by simp [Region.wanted,hgd]
 rw [if_pos hw];subst hV hb;obtain ⟨g',cap',w',hr,h2,h3,h4⟩:=run_append_digit _ o.type g cap ds n hn (h.alloc (.cells #[dg x] 119)) ⟨w0.heap.size,0,none⟩ x c (one_digit w0 x) hmax;unfold Oper.wp execOp;simp only [ho,resolve,invoke,builtin,Sem.run_bind,Sem.run_pure,Result.andThen_ok,List.map_toArray,List.map_cons,List.map_nil,hs,hy,hr];exact hk _ _ _ h2 (grown_trans (World.grownBy_alloc w0 _ (some g)) h3) (by rcases h4 with h4|h4 <;> simp_all)
theorem Own64.drew {w:World} {g cap:Nat} {ds:List Nat} (h:Own64 w g cap ds):Own64 w.drew g cap ds:=h
def intR:Value→Nat | .int _ n=>n.toNat|_=>0
def strLen:Value→Nat | .string s=>s.size|_=>0
def RD (w wr:World) (g N S:Nat) (t:ByteArray) (g1 cap1:Nat) (ds:List Nat):Prop:=
 Own64 wr g1 cap1 ds∧w.grownBy wr (some g)∧(g1=g∨w.heap.size≤g1)∧Dig ds∧num t*B64 ^ ds.length+val ds=N∧NZ t.data.toList∧(t.size=0→ds=[]∨∃ l d,ds=l++[d]∧d≠0)∧ds.length*8+t.size≤S
theorem RD.step {w wr w2:World} {g N S:Nat} {t v:ByteArray} {g1 g2 cap2:Nat} {ds:List Nat} {c0 c1 c2 c3 c4 c5 c6 c7:UInt8} (hE:t.data.toList=v.data.toList++[c0,c1,c2,c3,c4,c5,c6,c7]) (hv:v.size=t.size-8) (ht:8≤t.size)
  (r2:w.grownBy wr (some g)) (r3:g1=g∨w.heap.size≤g1) (r4:Dig ds) (R:num t*B64 ^ ds.length+val ds=N∧NZ t.data.toList∧(t.size=0→ds=[]∨∃ l d,ds=l++[d]∧d≠0)) (r8:ds.length*8+t.size≤S)
  (hO:Own64 w2 g2 cap2 (ds++[dig8 c0 c1 c2 c3 c4 c5 c6 c7])) (hg:wr.drew.grownBy w2 (some g1)) (ha:g2=g1∨wr.heap.size≤g2):RD w w2 g N S v g2 cap2 (ds++[dig8 c0 c1 c2 c3 c4 c5 c6 c7]):=by
 obtain ⟨r5,r6,r7⟩:=R;have hsz:=r2.size;refine ⟨hO,grown_new (grown_drew r2) hg r3,?_,r4.snoc (dig8_lt ..),?_,?_,?_,by simp;omega⟩
 ·rcases ha with h|h
  ·rw [h];exact r3
  ·right;omega
 ·rw [val_snoc,List.length_append,List.length_singleton,Nat.pow_succ,← r5,num8 t v _ _ _ _ _ _ _ _ hE,Nat.add_mul,Nat.mul_assoc,Nat.mul_comm B64,Nat.mul_comm (dig8 ..)];omega
 ·rw [hE] at r6;exact NZ_append r6
 ·intro hv0
  right
  rw [hE] at r6;refine ⟨ds,_,rfl,dig8_pos r6 ?_⟩
  have:v.data.toList.length=0:=hv0
  exact List.eq_nil_of_length_eq_zero this
def RT (w wq:World) (g g1 cap1:Nat) (ds:List Nat) (t:ByteArray) (k top:Nat):Prop:=
 Own64 wq g1 cap1 ds∧w.grownBy wq (some g)∧top=numL (t.data.toList.take k)
theorem read_any (w:World) (g cap:Nat) (s:ByteArray) (hd:Own64 w g cap []) (hs:s.size≤1000000000) :
  Calls Tryz.prog 132 #[.slice (some ⟨g,0,none⟩) 0 cap,.string s] w
   fun e w'=>∃ g' cap' ds,e=.returned (.slice (some ⟨g',0,none⟩) ds.length cap')∧Own64 w' g' cap' ds∧w.grownBy w' (some g)∧(g'=g∨w.heap.size≤g')∧Dig ds∧val ds=num s ∧
    (ds=[]∨∃ l d,ds=l++[d]∧d≠0)∧ds.length≤s.size:=by
 have h1:=fb_num_size s;go_enter Tryz.func132,Tryz.ntmps132;go_wp2_with fail;refine (bare_any _ s).mono ?_;rintro e w' ⟨rfl,rfl⟩;go_wp2_with fail;rw [show ((((fb (num s)).size:Int)+7) / 8)=((((fb (num s)).size+7) / 8:Nat):Int) by omega];refine (grow_any _ g cap 0 _ [] hd rfl (by omega) (by omega)).mono ?_;rintro e w1 ⟨g0,cap0,rfl,hO,hg,hg0⟩;have hRD:RD w w1 g (num s) s.size (fb (num s)) g0 cap0 []:=⟨hO,hg,hg0,Dig.nil,by simp [val,num_fb],by rw [fb_toList];exact NZ_formL _,fun _=>.inl rfl,by simp;omega⟩;clear hO hg hg0;go_wp2
 go_loopw [0,1] (fun v a wr=>∃ (t:ByteArray) (g1 cap1:Nat) (ds:List Nat),v=.slice (some ⟨g1,0,none⟩) ds.length cap1∧a=.string t∧RD w wr g (num s) s.size t g1 cap1 ds)
  (fun _ a _=>strLen a)
 case atStart=>exact ⟨_,g0,cap0,[],rfl,rfl,hRD⟩
 case round =>
  clear hRD h1;obtain ⟨t,g1,cap1,ds,rfl,rfl,hRD⟩:=hrel;obtain ⟨r1,r2,r3,r4,r5,r6,r7,r8⟩:=hRD;have R:=Lib.hid (And.intro r5 (And.intro r6 r7));clear r5 r6 r7
  by_cases hlt:8≤t.size
  ·obtain ⟨c0,c1,c2,c3,c4,c5,c6,c7,v,e1,e2,e3,e4⟩:=split8 t hlt;have E:=Lib.hid (And.intro e3 e4);clear e3 e4;go_wp2;rw [e1,e2];clear e1 e2;obtain ⟨A1,A2,A3,A4,A5,A6,or1,or2,or3,or4,or5,or6,hor7⟩:=or_eight c0 c1 c2 c3 c4 c5 c6 c7;have b0:IntKind.u64.wrap ↑((⟨#[c0,c1,c2,c3,c4,c5,c6,c7]⟩:ByteArray)[0]'(by show 0<8;omega)).toNat=(c0.toNat:Int):=wrap_byte c0;have b1:IntKind.u64.wrap ↑((⟨#[c0,c1,c2,c3,c4,c5,c6,c7]⟩:ByteArray)[1]'(by show 1<8;omega)).toNat=(c1.toNat:Int):=wrap_byte c1;have b2:IntKind.u64.wrap ↑((⟨#[c0,c1,c2,c3,c4,c5,c6,c7]⟩:ByteArray)[2]'(by show 2<8;omega)).toNat=(c2.toNat:Int):=wrap_byte c2;have b3:IntKind.u64.wrap ↑((⟨#[c0,c1,c2,c3,c4,c5,c6,c7]⟩:ByteArray)[3]'(by show 3<8;omega)).toNat=(c3.toNat:Int):=wrap_byte c3;have b4:IntKind.u64.wrap ↑((⟨#[c0,c1,c2,c3,c4,c5,c6,c7]⟩:ByteArray)[4]'(by show 4<8;omega)).toNat=(c4.toNat:Int):=wrap_byte c4;have b5:IntKind.u64.wrap ↑((⟨#[c0,c1,c2,c3,c4,c5,c6,c7]⟩:ByteArray)[5]'(by show 5<8;omega)).toNat=(c5.toNat:Int):=wrap_byte c5;have b6:IntKind.u64.wrap ↑((⟨#[c0,c1,c2,c3,c4,c5,c6,c7]⟩:ByteArray)[6]'(by show 6<8;omega)).toNat=(c6.toNat:Int):=wrap_byte c6;have b7:IntKind.u64.wrap ↑((⟨#[c0,c1,c2,c3,c4,c5,c6,c7]⟩:ByteArray)[7]'(by show 7<8;omega)).toNat=(c7.toNat:Int):=wrap_byte c7;refine wp_region_any (by kernel_rfl) ?_
   change wpAny _ _ _ _ _ _ _ (World.drew _)
   refine wpAny_take (i:=0) (v:=?v0) rfl (by kernel_rfl) (by kernel_rfl) (by kernel_rfl) (fun _ _ _ h=>h) (Or.inl ⟨by rfl,?y0⟩) ?_
   case y0=>intro w;go_simp;first|done|with_reducible rfl
   refine wpAny_take (i:=1) (v:=?v1) rfl (by kernel_rfl) (by kernel_rfl) (by kernel_rfl) (fun _ _ _ h=>h) (Or.inl ⟨by rfl,?y1⟩) ?_
   case y1=>intro w;go_simp;first|done|with_reducible rfl
   refine wpAny_take (i:=2) (v:=?v2) rfl (by kernel_rfl) (by kernel_rfl) (by kernel_rfl) (fun _ _ _ h=>h) (Or.inl ⟨by rfl,?y2⟩) ?_
   case y2=>intro w;go_simp;first|done|with_reducible rfl
   refine wpAny_take (i:=3) (v:=?v3) rfl (by kernel_rfl) (by kernel_rfl) (by kernel_rfl) (fun _ _ _ h=>h) (Or.inl ⟨by rfl,?y3⟩) ?_
   case y3=>intro w;go_simp;first|done|with_reducible rfl
   refine wpAny_take (i:=4) (v:=?v4) rfl (by kernel_rfl) (by kernel_rfl) (by kernel_rfl) (fun _ _ _ h=>h) (Or.inl ⟨by rfl,?y4⟩) ?_
   case y4=>intro w;go_simp;first|done|with_reducible rfl
   refine wpAny_take (i:=5) (v:=?v5) rfl (by kernel_rfl) (by kernel_rfl) (by kernel_rfl) (fun _ _ _ h=>h) (Or.inl ⟨by rfl,?y5⟩) ?_
   case y5=>intro w;go_simp;first|done|with_reducible rfl
   refine wpAny_take (i:=6) (v:=?v6) rfl (by kernel_rfl) (by kernel_rfl) (by kernel_rfl) (fun _ _ _ h=>h) (Or.inl ⟨by rfl,?y6⟩) ?_
   case y6=>intro w;go_simp;first|done|with_reducible rfl
   refine wpAny_take (i:=7) (v:=?v7) rfl (by kernel_rfl) (by kernel_rfl) (by kernel_rfl) (fun _ _ _ h=>h) (Or.inl ⟨by rfl,?y7⟩) ?_
   case y7=>intro w;go_simp;first|done|with_reducible rfl
   refine wpAny_take (i:=8) (v:=?v8) rfl (by kernel_rfl) (by kernel_rfl) (by kernel_rfl) (fun _ _ _ h=>h) (Or.inl ⟨by rfl,?y8⟩) ?_
   case y8=>intro w;go_simp;first|done|with_reducible rfl
   refine wpAny_take (i:=9) (v:=?v9) rfl (by kernel_rfl) (by kernel_rfl) (by kernel_rfl) (fun _ _ _ h=>h) (Or.inl ⟨by rfl,?y9⟩) ?_
   case y9=>intro w;go_simp;first|done|with_reducible rfl
   refine wpAny_take (i:=10) (v:=?v10) rfl (by kernel_rfl) (by kernel_rfl) (by kernel_rfl) (fun _ _ _ h=>h) (Or.inl ⟨by rfl,?y10⟩) ?_
   case y10=>intro w;go_simp;first|done|with_reducible rfl
   refine wpAny_take (i:=11) (v:=?v11) rfl (by kernel_rfl) (by kernel_rfl) (by kernel_rfl) (fun _ _ _ h=>h) (Or.inl ⟨by rfl,?y11⟩) ?_
   case y11=>intro w;go_simp;first|done|with_reducible rfl
   refine wpAny_take (i:=12) (v:=?v12) rfl (by kernel_rfl) (by kernel_rfl) (by kernel_rfl) (fun _ _ _ h=>h) (Or.inl ⟨by rfl,?y12⟩) ?_
   case y12=>intro w;go_simp;first|done|with_reducible rfl
   refine wpAny_take (i:=13) (v:=?v13) rfl (by kernel_rfl) (by kernel_rfl) (by kernel_rfl) (fun _ _ _ h=>h) (Or.inl ⟨by rfl,?y13⟩) ?_
   case y13=>intro w;go_simp;first|done|with_reducible rfl
   refine wpAny_take (i:=14) (v:=?v14) rfl (by kernel_rfl) (by kernel_rfl) (by kernel_rfl) (fun _ _ _ h=>h) (Or.inl ⟨by rfl,?y14⟩) ?_
   case y14=>intro w;go_simp;first|done|with_reducible rfl
   refine wpAny_take (i:=15) (v:=?v15) rfl (by kernel_rfl) (by kernel_rfl) (by kernel_rfl) (fun _ _ _ h=>h) (Or.inl ⟨by rfl,?y15⟩) ?_
   case y15=>intro w;go_simp;first|done|with_reducible rfl
   refine wpAny_take (i:=16) (v:=?v16) rfl (by kernel_rfl) (by kernel_rfl) (by kernel_rfl) (fun _ _ _ h=>h) (Or.inl ⟨by rfl,?y16⟩) ?_
   case y16=>intro w;go_simp;first|done|with_reducible rfl
   refine wpAny_take (i:=17) (v:=?v17) rfl (by kernel_rfl) (by kernel_rfl) (by kernel_rfl) (fun _ _ _ h=>h) (Or.inl ⟨by rfl,?y17⟩) ?_
   case y17=>intro w;go_simp;first|done|with_reducible rfl
   refine wpAny_take (i:=18) (v:=?v18) rfl (by kernel_rfl) (by kernel_rfl) (by kernel_rfl) (fun _ _ _ h=>h) (Or.inl ⟨by rfl,?y18⟩) ?_
   case y18=>intro w;go_simp;first|done|with_reducible rfl
   refine wpAny_take (i:=19) (v:=?v19) rfl (by kernel_rfl) (by kernel_rfl) (by kernel_rfl) (fun _ _ _ h=>h) (Or.inl ⟨by rfl,?y19⟩) ?_
   case y19=>intro w;go_simp;first|done|with_reducible rfl
   refine wpAny_take (i:=20) (v:=?v20) rfl (by kernel_rfl) (by kernel_rfl) (by kernel_rfl) (fun _ _ _ h=>h) (Or.inl ⟨by rfl,?y20⟩) ?_
   case y20=>intro w;go_simp;first|done|with_reducible rfl
   refine wpAny_take (i:=21) (v:=?v21) rfl (by kernel_rfl) (by kernel_rfl) (by kernel_rfl) (fun _ _ _ h=>h) (Or.inl ⟨by rfl,?y21⟩) ?_
   case y21=>intro w;go_simp;first|done|with_reducible rfl
   refine wpAny_take (i:=22) (v:=?v22) rfl (by kernel_rfl) (by kernel_rfl) (by kernel_rfl) (fun _ _ _ h=>h) (Or.inl ⟨by rfl,?y22⟩) ?_
   case y22=>intro w;go_simp;first|done|with_reducible rfl
   refine wpAny_take (i:=23) (v:=?v23) rfl (by kernel_rfl) (by kernel_rfl) (by kernel_rfl) (fun _ _ _ h=>h) (Or.inl ⟨by rfl,?y23⟩) ?_
   case y23=>intro w;go_simp;first|done|with_reducible rfl
   refine wpAny_take (i:=24) (v:=?v24) rfl (by kernel_rfl) (by kernel_rfl) (by kernel_rfl) (fun _ _ _ h=>h) (Or.inl ⟨by rfl,?y24⟩) ?_
   case y24=>intro w;go_simp;first|done|with_reducible rfl
   refine wpAny_take (i:=25) (v:=?v25) rfl (by kernel_rfl) (by kernel_rfl) (by kernel_rfl) (fun _ _ _ h=>h) (Or.inl ⟨by rfl,?y25⟩) ?_
   case y25=>intro w;go_simp;first|done|with_reducible rfl
   refine wpAny_take (i:=26) (v:=?v26) rfl (by kernel_rfl) (by kernel_rfl) (by kernel_rfl) (fun _ _ _ h=>h) (Or.inl ⟨by rfl,?y26⟩) ?_
   case y26=>intro w;go_simp;first|done|with_reducible rfl
   refine wpAny_take (i:=27) (v:=?v27) rfl (by kernel_rfl) (by kernel_rfl) (by kernel_rfl) (fun _ _ _ h=>h) (Or.inl ⟨by rfl,?y27⟩) ?_
   case y27=>intro w;go_simp;first|done|with_reducible rfl
   refine wpAny_take (i:=28) (v:=?v28) rfl (by kernel_rfl) (by kernel_rfl) (by kernel_rfl) (fun _ _ _ h=>h) (Or.inl ⟨by rfl,?y28⟩) ?_
   case y28=>intro w;go_simp;first|done|with_reducible rfl
   refine wpAny_take (i:=29) (v:=?v29) rfl (by kernel_rfl) (by kernel_rfl) (by kernel_rfl) (fun _ _ _ h=>h) (Or.inl ⟨by rfl,?y29⟩) ?_
   case y29=>intro w;go_simp;first|done|with_reducible rfl
   refine wpAny_take (i:=30) (v:=?v30) rfl (by kernel_rfl) (by kernel_rfl) (by kernel_rfl) (fun _ _ _ h=>h) (Or.inl ⟨by rfl,?y30⟩) ?_
   case y30=>intro w;go_simp;first|done|with_reducible rfl
   refine wpAny_take (i:=31) (v:=?v31) rfl (by kernel_rfl) (by kernel_rfl) (by kernel_rfl) (fun _ _ _ h=>h) (Or.inl ⟨by rfl,?y31⟩) ?_
   case y31=>intro w;go_simp;first|done|with_reducible rfl
   refine wpAny_take (i:=32) (v:=?v32) rfl (by kernel_rfl) (by kernel_rfl) (by kernel_rfl) (fun _ _ _ h=>h) (Or.inl ⟨by rfl,?y32⟩) ?_
   case y32=>intro w;go_simp;first|done|with_reducible rfl
   refine wpAny_take (i:=33) (v:=?v33) rfl (by kernel_rfl) (by kernel_rfl) (by kernel_rfl) (fun _ _ _ h=>h) (Or.inl ⟨by rfl,?y33⟩) ?_
   case y33=>intro w;go_simp;first|done|with_reducible rfl
   refine wpAny_take (i:=34) (v:=?v34) rfl (by kernel_rfl) (by kernel_rfl) (by kernel_rfl) (fun _ _ _ h=>h) (Or.inl ⟨by rfl,?y34⟩) ?_
   case y34=>intro w;go_simp;first|done|with_reducible rfl
   refine wpAny_take (i:=35) (v:=?v35) rfl (by kernel_rfl) (by kernel_rfl) (by kernel_rfl) (fun _ _ _ h=>h) (Or.inl ⟨by rfl,?y35⟩) ?_
   case y35=>intro w;go_simp;first|done|with_reducible rfl
   refine wpAny_take (i:=36) (v:=?v36) rfl (by kernel_rfl) (by kernel_rfl) (by kernel_rfl) (fun _ _ _ h=>h) (Or.inl ⟨by rfl,?y36⟩) ?_
   case y36=>intro w;go_simp;first|done|with_reducible rfl
   refine wpAny_take (i:=37) (v:=?v37) rfl (by kernel_rfl) (by kernel_rfl) (by kernel_rfl) (fun _ _ _ h=>h) (Or.inl ⟨by rfl,?y37⟩) ?_
   case y37=>intro w;go_simp;first|done|with_reducible rfl
   refine wpAny_take (i:=38) (v:=?v38) rfl (by kernel_rfl) (by kernel_rfl) (by kernel_rfl) (fun _ _ _ h=>h) (Or.inl ⟨by rfl,?y38⟩) ?_
   case y38=>intro w;go_simp;first|done|with_reducible rfl
   refine wpAny_ready (rs:=[39]) (by kernel_rfl) (by simp) ?_;refine AllReady.cons rfl (fun K hK=>?_) AllReady.nil;go_simp;refine hK _ _ ?_;clear hK K;refine wpAny_ready (rs:=[40]) (by kernel_rfl) (by simp) ?_;refine AllReady.cons rfl (fun K hK=>?_) AllReady.nil;refine step_append_digit rfl (.tmp 29) (.tmp 68) rfl g1 cap1 ds ds.length rfl rfl (r1.drew) _ (dig8 c0 c1 c2 c3 c4 c5 c6 c7) rfl _ 1 rfl rfl (by omega) ?_;intro g2 cap2 w2 hO2 hg2 ha2;refine hK _ _ ?_;clear hK K;refine wpAny_take (i:=41) (v:=?v41) rfl (by kernel_rfl) (by kernel_rfl) (by kernel_rfl) (fun _ _ _ h=>h) (Or.inl ⟨by rfl,?y41⟩) ?_
   case y41=>intro w;go_simp;first|done|with_reducible rfl
   refine wpAny_done (by kernel_rfl) ?_ _;have hRD:RD w w2 g (num s) s.size v g2 cap2 (ds++[dig8 c0 c1 c2 c3 c4 c5 c6 c7]):=RD.step E.out.1 E.out.2 hlt r2 r3 r4 R.out r8 hO2 hg2 ha2;clear hO2 hg2 ha2 r1 r2 r3 r4 r8 R;have hv8:v.size<t.size:=by have:=E.out.2;omega
   clear E or1 or2 or3 or4 or5 or6 hor7 b0 b1 b2 b3 b4 b5 b6 b7;go_simp;go_wp2;go_roundw
   case rel=>exact ⟨v,g2,cap2,ds++[dig8 c0 c1 c2 c3 c4 c5 c6 c7],by simp,rfl,hRD⟩
   case measure=>exact hv8
  ·by_cases ht0:t.size=0
   ·have e0:t.toList.isEmpty=true:=by rw [toList_isEmpty];simp [ht0]
    go_wp2;go_ret;refine ⟨g1,cap1,ds,rfl,r1,r2,r3,r4,?_,R.out.2.2 ht0,?_⟩
    ·have h0:num t=0:=by
      unfold num
      have:t.data.toList.length=0:=ht0
      rw [List.eq_nil_of_length_eq_zero this];rfl
     have:=R.out.1
     rw [h0] at this;omega
    ·omega
   ·have e0:t.toList.isEmpty=false:=by rw [toList_isEmpty];simp [ht0]
    have hRT:RT w wr g g1 cap1 ds t 0 0:=⟨r1,r2,rfl⟩;clear r1 r2;go_wp2
    go_loopw [6,75] (fun p i wq=>∃ k top:Nat,k≤t.size∧i=.int .i64 k∧p=.int .u64 top∧RT w wq g g1 cap1 ds t k top)
     (fun _ i _=>t.size-intR i)
    case atStart=>exact ⟨0,0,Nat.zero_le _,rfl,rfl,hRT⟩
    case round =>
     clear hRT;obtain ⟨k,top,hk,rfl,rfl,q1,q2,q3⟩:=hrel
     by_cases hkt:k<t.size
     ·have ol:=or_low top (t[k]'hkt) (by rw [q3];exact numL_take_lt _ _ (by omega) (by show t.data.size<8;exact Nat.lt_of_not_le hlt) hkt);have hRT:RT w wr g g1 cap1 ds t (k+1) (top*256+(t[k]'hkt).toNat):=⟨q1,q2,by rw [numL_take_succ _ _ (show k<t.data.toList.length from hkt),← q3];rfl⟩;have bk:=wrap_byte (t[k]'hkt);clear q1 q2 q3 R;go_wp2;go_roundw
      case rel=>exact ⟨k+1,_,by omega,by simp,rfl,hRT⟩
      case measure=>simp [intR];omega
     ·have Q3:=Lib.hid q3;clear q3;go_wp2_with (first
       | (at_builtin;refine wpList_append_digit rfl (.tmp 86) (.tmp 88) rfl g1 cap1 ds ds.length rfl rfl (q1.alloc _) ⟨wr.heap.size,0,none⟩ top 1 rfl (one_digit wr top) (by omega) ?_))
      intro g2 cap2 w2 hO2 hg2 ha2;have htop:top=num t:=by
       rw [Q3.out,List.take_of_length_le (by show t.data.size≤k;exact Nat.le_of_not_lt hkt)];rfl
      have hsz:=q2.size;go_wp2;go_ret;refine ⟨g2,cap2,ds++[top],by simp,hO2,grown_new q2 (grown_trans (World.grownBy_alloc wr _ (some g1)) hg2) r3,?_,r4.snoc ?_,?_,.inr ⟨ds,top,rfl,?_⟩,?_⟩
      ·rcases ha2 with h|h
       ·rw [h];exact r3
       ·right
        rw [h]
        have:=World.size_alloc wr
        simp at this ⊢;omega
      ·rw [htop];have h1:=num_lt t;have h2:256 ^ t.size≤256 ^ 7:=Nat.pow_le_pow_right (by omega) (by omega);unfold B64;omega
      ·rw [val_snoc,htop,← R.out.1,Nat.mul_comm (num t)];omega
      ·intro h0;rw [htop] at h0;have h1:=numL_zero_NZ R.out.2.1 h0
       apply ht0
       show t.data.toList.length=0;rw [h1];rfl
      ·simp;omega
theorem lays240b:Go.Proofs.Lays.n240 Tryz.prog Tryz.lays165_ren:={ Tryz.lays165 with }
theorem copyCheck_used (b:Nat) (w:World) (h0:w.cell? ⟨b,0,none⟩=some (.pointer (some ⟨b,0,none⟩))) :
  Calls Tryz.prog 128 #[.pointer (some ⟨b,0,none⟩)] w fun e w'=>e=.returned (.tuple #[])∧w=w':=
 (Any.Builder_copyCheck_used lays240b Tryz.Builder_Extra_165.toX72 b w h0).mono fun _ _ ⟨he,hw⟩=>⟨he,hw.symm⟩
theorem info8:(Tryz.prog.info? 5).map (fun i=>(i.zero,i.size,i.bytes))=some (some (.int .u8 0),1,1):=by kernel_rfl
theorem write_any (w:World) (B b g off m c:Nat) (bs news:List Value) (h:Lib.BuilderAt 110 5 B b (.pointer (some ⟨b,0,none⟩)) bs w) (hl:news.length=m) (hm:1≤m)
  (hnews:∀ i (hi:i<news.length),w.cell? ⟨g,off+i,none⟩=some news[i]) (h1:∀ u∈news,u.oneCell'=true) (hlen:bs.length+m≤100000000000) (hBw:B≤w.heap.size) :
  Calls Tryz.prog 160 #[.pointer (some ⟨b,0,none⟩),.slice (some ⟨g,off,none⟩) m c] w
   fun e w'=>e=.returned (.tuple #[.int .i64 m,.nilIface])∧Lib.BuilderAt 110 5 B b (.pointer (some ⟨b,0,none⟩)) (bs++news) w'∧Below B w w'∧KeepsOthers w w'∧∀ k T L,Rw w k T L→T≠5→k≠b→Rw w' k T L:=by
 obtain ⟨i0,hi0,hz0,hz1,hz2⟩:=info_parts info8;obtain ⟨hBb,v,hbk,hown,hne⟩:=h;have hc0:w.cell? ⟨b,0,none⟩=some (.pointer (some ⟨b,0,none⟩)):=by simp [World.cell?,hbk]
 have hc1:w.cell? ⟨b,1,none⟩=some v:=by simp [World.cell?,hbk]
 have hnews' : ∀ j u,news[j]?=some u→w.cell? ((⟨g,off,none⟩:Addr).add j)=some u:=by
  intro j u hj;obtain ⟨hj1,hj2⟩:=List.getElem?_eq_some_iff.1 hj
  have:(⟨g,off,none⟩:Addr).add j=⟨g,off+j,none⟩:=by unfold Addr.add;split <;> simp_all
  rw [this,hnews j hj1,hj2]
 have hl1:news.length=m*1:=by omega
 have HN:=Lib.hid hnews';clear hnews hnews';have HB:=Lib.hid hbk;clear hbk;have HL:=Lib.hid (And.intro hl hl1);clear hl hl1;go_enter Tryz.func160,Tryz.ntmps160;go_wp2_with fail;refine (copyCheck_used b w hc0).mono ?_;rintro e w' ⟨rfl,rfl⟩;go_wp2_with (first|(at_builtin;refine wpList_append_own _ rfl (.tmp 12) (.tmp 13) 70 rfl B 5 i0 (.int .u8 0) 1 1 Tryz.underlying70 hi0 hz0 hz1 hz2 rfl (by decide) v bs.length bs rfl hown ⟨g,off,none⟩ m c news rfl HL.out.2 HN.out h1 (by unfold maxLen;omega) (by omega) hBw ?_));intro v' w1 hown' hgrow _;have hblt:b<w.heap.size:=World.block_lt_of_cell? w _ hc0;have hb1:Rw w1 b 110 [.pointer (some ⟨b,0,none⟩),v]:=(hgrow.block b hblt (fun e=>hne e.symm)).trans HB.out;have hbel:Below B w w1:=(Below.refl B w).grown hgrow hBw (fun k hk=>(hown.lt k hk).1);obtain ⟨hx,hfm⟩:=hown'
 rcases hfm with ⟨_,h0⟩|⟨g',cap',cur',rfl,hg1,hg2,hg3,hg4,hg5,hg6⟩
 ·omega
 have hne' : g'≠b:=by
  rintro rfl;unfold Rw at hb1;rw [hg2] at hb1;simp at hb1
 have hc1':=hb1.cell 1;have hf1':=hb1.frozen 1;simp only [List.getElem?_cons_succ,List.getElem?_cons_zero] at hc1';have hW:Rw (w1.setCell ⟨b,1,none⟩ (.slice (some ⟨g',0,none⟩) (bs.length+m) cap')) b 110 [.pointer (some ⟨b,0,none⟩),.slice (some ⟨g',0,none⟩) (bs.length+m) cap']:=hb1.set_ 1 _;have hO:(w1.setCell ⟨b,1,none⟩ (.slice (some ⟨g',0,none⟩) (bs.length+m) cap')).ownsRow B 5 1 (.slice (some ⟨g',0,none⟩) (bs.length+m) cap') (bs.length+m) (bs++news):=
  ⟨hx,.inr ⟨g',cap',cur',rfl,hg1,(Below.heap_setCell _ _ _ _ (by simpa using hne')).trans hg2,hg3,hg4,hg5,hg6⟩⟩
 have hko:KeepsOthers w (w1.setCell ⟨b,1,none⟩ (.slice (some ⟨g',0,none⟩) (bs.length+m) cap')):=by
  refine (KeepsOthers.of_grownBy hgrow fun j o hj ho=>?_).trans (KeepsOthers.setCell _ _ _);obtain ⟨_,hv⟩:=hown
  rcases hv with ⟨rfl,_⟩|⟨g0,cap0,cur0,rfl,_,hg0,_⟩
  ·simp [Value.ownBlock] at hj
  ·simp [Value.ownBlock] at hj;subst hj;rw [hg0] at ho
   injection ho with ho
   subst ho;rfl
 have hkr:∀ k T L,Rw w k T L→T≠5→k≠b→Rw (w1.setCell ⟨b,1,none⟩ (.slice (some ⟨g',0,none⟩) (bs.length+m) cap')) k T L:=by
  intro k T L hk hT hkb;have hne2:some k≠v.ownBlock:=by
   intro e;obtain ⟨_,hv⟩:=hown
   rcases hv with ⟨rfl,_⟩|⟨g0,cap0,cur0,rfl,_,hg0,_⟩
   ·simp [Value.ownBlock] at e
   ·simp [Value.ownBlock] at e;subst e;unfold Rw at hk;rw [hg0] at hk;simp at hk;exact hT hk.2.symm
  exact ((hk.grown hgrow hne2).far (p:=⟨b,1,none⟩) (by simpa using hkb) _)
 have HK:=Lib.hid (And.intro hko hkr);clear hko hkr;have HFIN:=Lib.hid (And.intro hW (And.intro hO (hbel.setCell (p:=⟨b,1,none⟩) hBb (.slice (some ⟨g',0,none⟩) (bs.length+m) cap'))));clear hW hO hg2 hg3 hg4 hg5 hg6 hx hgrow hown hc0 hc1 hbel hb1;go_wp2;go_ret2;refine ⟨rfl,⟨hBb,_,HFIN.out.1,?_,by simpa [Value.ownBlock] using hne'⟩,HFIN.out.2.2,HK.out.1,HK.out.2⟩
 have:=HFIN.out.2.1
 rw [List.length_append,HL.out.1];exact this
attribute [local go_sem] Oper.semAt_some
def backs (ds:List Nat) (k:Nat):List (Nat × Nat):=(List.range k).map fun j=>(ds.length-1-j,ds.getD (ds.length-1-j) 0)
theorem backs_succ (ds:List Nat) (k:Nat):backs ds (k+1)=backs ds k++[(ds.length-1-k,ds.getD (ds.length-1-k) 0)]:=by simp [backs,List.range_succ]
theorem backs_length (ds:List Nat) (k:Nat):(backs ds k).length=k:=by simp [backs]
def KB (n₀ Bs:Nat) (sv:Value) (W W' : World):Prop:=Below n₀ W W'∧(Rw W Bs 147 [sv]→Rw W' Bs 147 [sv])
theorem KB.refl {n₀ Bs:Nat} {sv:Value} (W:World):KB n₀ Bs sv W W:=⟨Below.refl _ _,id⟩
theorem KB.trans {n₀ Bs:Nat} {sv:Value} {A B C:World} (h:KB n₀ Bs sv A B) (k:KB n₀ Bs sv B C):KB n₀ Bs sv A C:=⟨h.1.trans k.1,fun x=>k.2 (h.2 x)⟩
theorem KB.put {n₀ Bs:Nat} {sv:Value} {w:World} (hn:n₀≤w.heap.size) (hB:Bs<w.heap.size) (W:World) (l:Nat) (o o' : Obj) (hl:w.heap.size≤l) (h:W.heap[l]?=some o) (h1:o.isCells=false) (h2:o.isWalk=false):KB n₀ Bs sv W (W.putObj l o'):=
 ⟨belowK_b hn W l o o' hl h h1 h2,fun x=>((grownBy_putObj' W l o').block Bs x.lt (by simp;omega)).trans x⟩
theorem backward1_in (F:Fence) (n:Nat) (hf:F.fn 178) (hro:F.round=none) (hn:1≤n) (l Bs n₀ b off len cap:Nat) (ds:List Nat) (hl:ds.length=len) (hmax:len≤1000000000000) (hb:b<n₀) (J Jx:List (Nat × Nat)→World→Prop)
  (hY:∀ pre x W,J pre W→pre.length<len→YieldAt F (n-1) Tryz.prog l #[.int .i64 (x.1:Int),.int .u64 (x.2:Int)] W fun e W' =>
   (e=.returned (.bool true)∧J (pre++[x]) W'∧KB n₀ Bs (.slice (some ⟨b,off,none⟩) len cap) W W')∨(e=.returned (.bool false)∧Jx (pre++[x]) W'))
  (W:World) (hBs:Rw W Bs 147 [.slice (some ⟨b,off,none⟩) len cap]) (hc:Ds W b off ds) (h0:J [] W) :
  CallsIn F n Tryz.prog 178 #[.func (.yield l) #[] #[],.pointer (some ⟨Bs,0,none⟩)] W fun e W'=>(∃ v,e=.returned v) ∧
   ((∃ ys,ys=backs ds len∧J ys W')∨(∃ pre,(∃ k,k≤len∧pre=backs ds k)∧Jx pre W')):=by
 refine callsIn_of_wp Tryz.func178 rfl hf ?_ hro;simp only [Tryz.ntmps178,List.size_toArray,List.length_cons,List.length_nil,Nat.reduceAdd,Nat.reduceSub,Array.replicate_succ,Array.replicate_zero,List.push_toArray,List.append_toArray,List.nil_append,List.cons_append];have hbs:=hBs.cell 0;simp only [List.getElem?_cons_zero] at hbs
 gi_wp2
 gi_loopw [3] (fun i wr=>∃ (k:Nat) (c:Int),k≤len∧i=.int .i64 c∧c=(len:Int)-1-(k:Int)∧J (backs ds k) wr∧KB n₀ Bs (.slice (some ⟨b,off,none⟩) len cap) W wr)
  (fun i _=>(intOf i+1).toNat)
 case atStart=>exact ⟨0,_,Nat.zero_le _,rfl,by omega,h0,KB.refl _⟩
 case round =>
  obtain ⟨k,c,hk,rfl,hcc,hJs,hnx⟩:=hrel;have hbx:=(hnx.2 hBs).cell 0;simp only [List.getElem?_cons_zero] at hbx
  by_cases hlt:k<len
  ·obtain ⟨i,hi⟩:∃ i,i=len-1-k:=⟨_,rfl⟩;have hil:i<ds.length:=by omega
   obtain rfl:c=(i:Int):=by omega
   have hcx:wr.cell? ⟨b,off+i,none⟩=some (.int .u64 (ds.getD i 0:Nat)):=by
    have h1:=(hnx.1.cell (p:=⟨b,off+i,none⟩) hb).trans (hc i hil);rw [h1];simp [dg,hil]
   have hil' : i<len:=by omega
   have hsucc:backs ds (k+1)=backs ds k++[(i,ds.getD i 0)]:=by rw [backs_succ,hl,← hi]
   obtain ⟨d,hd⟩:∃ d,d=ds.getD i 0:=⟨_,rfl⟩;rw [← hd] at hcx hsucc;have HS:=Lib.hid hsucc;clear hsucc;have HI:=Lib.hid hi;clear hi hd hcc;have HL:=Lib.hid hl;clear hl;obtain ⟨fn,tmps,assign,body,hy,hR⟩:=hY _ (i,d) wr hJs (by rw [backs_length];exact hlt)
   dsimp only at hy
   gi_wp2
   refine hR.mono ?_;rintro e W3 (⟨rfl,hJ3,hk3⟩|⟨rfl,hJx3⟩)
   ·gi_wp2
    go_roundw
    case rel=>exact ⟨k+1,(i:Int)-1,by omega,rfl,by have:=HI.out;omega,by rw [HS.out];exact hJ3,hnx.trans hk3⟩
    case measure=>simp [intOf]
   ·gi_wp2
    refine bodyPost_ret (results_none rfl _ _ _) rfl ?_;exact ⟨⟨_,rfl⟩,.inr ⟨_,⟨k+1,by omega,HS.out.symm⟩,hJx3⟩⟩
  ·obtain rfl:k=len:=by omega
   obtain rfl:c=-1:=by omega
   clear hcc
   gi_wp2
   go_end0;exact ⟨⟨_,rfl⟩,.inl ⟨_,rfl,hJs⟩⟩
theorem backward_in (F:Fence) (n:Nat) (hf:F.fn 159) (hro:F.round=none) (a:Option Addr) (len cap:Nat) (w:World) :
  CallsIn F n Tryz.prog 159 #[.slice a len cap] w fun e w'=>e=.returned (.func (.func 178) #[] #[.pointer (some ⟨w.heap.size,0,none⟩)])∧w'=w.alloc (.cells #[.slice a len cap] 147):=by
 refine callsIn_of_wp Tryz.func159 rfl hf ?_ hro;simp only [Tryz.ntmps159,List.size_toArray,List.length_cons,List.length_nil,Nat.reduceAdd,Nat.reduceSub,Array.replicate_succ,Array.replicate_zero,List.push_toArray,List.append_toArray,List.nil_append,List.cons_append]
 gi_wp2
 go_ret;exact ⟨rfl,rfl⟩
theorem backward_stops (F:Fence) (n:Nat) (hf:F.fn 178) (hro:F.round=none) (hn:1≤n) (Bs n₀ b off len cap:Nat) (ds:List Nat) (hl:ds.length=len) (hmax:len≤1000000000000) (hb:b<n₀) (w:World) (hn₀:n₀≤w.heap.size)
  (hBs:Rw w Bs 147 [.slice (some ⟨b,off,none⟩) len cap]) (hc:Ds w b off ds) :
  SeqStopsK F n Tryz.prog 178 #[.pointer (some ⟨Bs,0,none⟩)] (fun x:Nat × Nat=>#[.int .i64 (x.1:Int),.int .u64 (x.2:Int)]) (KB n₀ Bs (.slice (some ⟨b,off,none⟩) len cap)) (fun ys=>ys=backs ds len)
   (fun pre=>∃ k,k≤len∧pre=backs ds k) len w:=fun l J Jx W hW _ _ hY h0=>by
 have hW':=hW.mono hn₀;exact backward1_in F n hf hro hn l Bs n₀ b off len cap ds hl hmax hb J Jx hY W (hBs.below hW hBs.lt) (hc.below hW' hb) h0
attribute [local go_sem] Oper.semAt_some
theorem builder_kept {T e:TypeId} {B b:Nat} {p:Value} {bs:List Value} {W W' : World} {row:Option Nat} (h:Lib.BuilderAt T e B b p bs W) (hg:W.grownBy W' row) (hr:∀ r,row=some r→∃ o:Obj,W.heap[r]?=some o∧o.isCells=false):Lib.BuilderAt T e B b p bs W':=by
 obtain ⟨hB,v,hb,hown,hne⟩:=h;have hnr:∀ (k:Nat) (cs:Array Value) (t:TypeId) (fz:Nat × Nat),W.heap[k]?=some (.cells cs t fz)→some k≠row:=fun k cs t fz hk e=>by
  obtain ⟨o,ho,hc⟩:=hr k e.symm;rw [hk] at ho
  injection ho with ho
  subst ho;simp [Obj.isCells] at hc
 refine ⟨hB,v,(hg.block b (Array.getElem?_eq_some_iff.1 hb).1 (hnr b _ _ _ hb)).trans hb,hown.kept hg ?_,hne⟩
 rcases hown.2 with ⟨rfl,_⟩|⟨g,cap,cur,rfl,_,hgg,_⟩
 ·exact .inl rfl
 ·exact .inr (hnr g _ _ _ hgg)
theorem rw_own {W W' : World} {k:Nat} {T:TypeId} {L:List Value} {row:Option Nat} (h:Rw W k T L) (hg:W.grownBy W' row) (hr:∀ r,row=some r→∃ o:Obj,W.heap[r]?=some o∧o.isCells=false):Rw W' k T L:=by
 refine h.grown hg (fun e=>?_);obtain ⟨o,ho,hc⟩:=hr k e.symm;rw [show W.heap[k]?=_ from h] at ho
 injection ho with ho
 subst ho;simp [Obj.isCells] at hc
theorem grown_below {B:Nat} {W W' : World} (hg:W.grownBy W' none) (hB:B≤W.heap.size):Below B W W':=(Below.refl B W).grown hg hB (fun k e=>by cases e)
def TX (w:World) (sk:Nat) (pre:List (Nat × Nat)) (W:World):Prop:=
 (Lib.BuilderAt 110 5 (w.heap.size+1) (w.heap.size+1) (.pointer (some ⟨w.heap.size+1,0,none⟩)) ((gone sk (pre.map (·.2))).map by8) W∧Rw W w.heap.size 3 [.int .i64 (skv sk pre:Nat)])∧Below w.heap.size w W
theorem TX.own (w:World) (sk B:Nat) (hB:w.heap.size≤B):OwnFrom B (TX w sk):=
 OwnFrom.and (Own.from (fun _ _ _ _ hs hg hr=>⟨builder_kept hs.1 hg hr,rw_own hs.2 hg hr⟩) _) (ownFrom_below (Nat.le_refl _) hB)
def lenOf:Value→Nat | .slice _ n _=>n|_=>0
theorem text_any (w:World) (b off c n:Nat) (ds:List Nat) (hc:Ds w b off ds) (hn:ds.length=n) (hd:Dig ds) (hmax:n≤1000000000) (hcap:n≤c) (hc63:c≤9223372036854775807) :
  Calls Tryz.prog 134 #[.slice (some ⟨b,off,none⟩) n c] w fun e w'=>e=.returned (.string (fb (val ds)))∧Below w.heap.size w w':=by
 refine (callsIn_wide (n:=4)).1 ?_;refine callsIn_of_wp_marks Tryz.func134 rfl trivial ?_ rfl;simp only [Tryz.ntmps134,List.size_toArray,List.length_cons,List.length_nil,Nat.reduceAdd,Nat.reduceSub,Array.replicate_succ,Array.replicate_zero,List.push_toArray,List.append_toArray,List.nil_append,List.cons_append];have HN:=Lib.hid hn;clear hn
 gi_wp2
 gi_loopw [0] (fun v wr=>∃ k:Nat,k≤n∧v=.slice (some ⟨b,off,none⟩) k c∧val (ds.take k)=val ds∧w=wr) (fun v _=>lenOf v)
 case atStart=>exact ⟨n,Nat.le_refl _,rfl,by rw [← HN.out,List.take_length],rfl⟩
 case round =>
  obtain ⟨k,hk,rfl,hv,rfl⟩:=hrel;have HV:=Lib.hid hv;clear hv
  by_cases hk0:k=0
  ·subst hk0
   gi_wp2
   have hz:val ds=0:=by rw [← HV.out];rfl
   refine ⟨_,results_tmp rfl _ _ _,?_,Below.refl _ _⟩;rw [hz];rfl
  ·have hlt:k-1<ds.length:=by rw [HN.out];omega
   have hcd:=hc (k-1) hlt;unfold dg at hcd;obtain ⟨d,hdk⟩:∃ d,d=ds[k-1]:=⟨_,rfl⟩;have hdB:d<B64:=by rw [hdk];exact hd.get hlt
   rw [← hdk] at hcd;have hsp:val (ds.take k)=val (ds.take (k-1))+B64 ^ (k-1)*d:=by
    have:=take_succ_val ds hlt
    rw [show k-1+1=k by omega] at this;rw [this,hdk]
   have hk1:((k:Int)-1).toNat=k-1:=by omega
   have t0:decide ((0:Int)<(k:Int))=true:=by simp;omega
   by_cases hd0:d=0
   ·subst hd0;have HS:=Lib.hid hsp;clear hsp;have HD:=Lib.hid hdk;clear hdk
    gi_wp2
    go_roundw
    case rel=>exact ⟨k-1,by omega,rfl,by rw [← HV.out,HS.out];simp,trivial⟩
    case measure=>simp [lenOf];omega
   ·have td:((d:Int) == 0)=false:=by rw [beq_eq_false_iff_ne];omega
    have HS:=Lib.hid hsp;clear hsp;have HD:=Lib.hid hdk;clear hdk
    by_cases hk1' : k=1
    ·subst hk1';have hcd' : w.cell? ⟨b,off,none⟩=some (.int .u64 d):=by simpa using hcd
     clear hcd t0 hk1
     gi_wp2_with (refine ⟨trivial,?_⟩;gi_at_call 104;refine (callsIn_wide.2 (of_any _ d hdB)).mono ?_;rintro e w' ⟨rfl,hb⟩)
     have hz:val ds=d:=by rw [← HV.out,HS.out];simp [val]
     refine ⟨_,results_tmp rfl _ _ _,?_,hb⟩;rw [hz];rfl
    ·obtain ⟨z,hz64,hzd,hz0,hlz⟩:=lz_bytes d hdB;have hz:=hz0 (by omega);clear hz0;obtain ⟨sk,hsk⟩:∃ sk,sk=z / 8:=⟨_,rfl⟩;have hq:(z:Int) / 8=(sk:Int):=by omega
     have hsk8:sk<8:=by omega
     rw [← hsk] at hzd;have HZ:=Lib.hid hzd;clear hzd hsk;have t1:((k:Int) == 0)=false:=by rw [beq_eq_false_iff_ne];omega
     have t2:((k:Int) == 1)=false:=by rw [beq_eq_false_iff_ne];omega
     gi_wp2_with (refine ⟨trivial,?_⟩;gi_at_call 136;refine (callsIn_wide.2 (hlz _)).mono ?_;rintro e w' ⟨rfl,rfl⟩)
     obtain ⟨w1,hw1⟩:∃ w1,w1=(w.alloc (.cells #[.int .i64 (sk:Int)] 3)).alloc (.cells #[.pointer none,.slice none 0 0] 110):=⟨_,rfl⟩;rw [← hw1];have hsz1:w1.heap.size=w.heap.size+2:=by rw [hw1];simp
     have hbw1:Below w.heap.size w w1:=by rw [hw1];exact ((Below.refl _ _).alloc (Nat.le_refl _) _).alloc (by simp) _
     have hsk1:Rw w1 w.heap.size 3 [.int .i64 (sk:Int)]:=by rw [hw1];exact (Rw.new w _ _).alloc _
     have hbd1:w1.heap[w.heap.size+1]?=some (.cells #[.pointer none,.slice none 0 0] 110 (0,0)):=by
      have:=Rw.new (w.alloc (.cells #[.int .i64 (sk:Int)] 3)) 110 [.pointer none,.slice none 0 0]
      rw [World.size_alloc] at this;rw [hw1];exact this
     clear hw1;refine ⟨trivial,?_⟩;rw [show (8*(k:Int)-(sk:Int))=((8*k-sk:Nat):Int) by omega];refine (callsIn_wide.2 (Tryz.Builder_Grow_fresh (w.heap.size+1) (w.heap.size+1) (8*k-sk) w1 (Nat.le_refl _) hbd1 (by omega) (by omega))).mono ?_;rintro e w2 ⟨rfl,hB2,hb2⟩;have hsk2:=hsk1.below hb2 (by omega);have hbw2:Below w.heap.size w w2:=hbw1.trans (hb2.mono (by omega));have hsz2:w.heap.size+2≤w2.heap.size:=by have:=hb2.size;omega
     clear hsk1 hbd1 hbw1 hb2
     gi_wp2_with (refine ⟨trivial,?_⟩;gi_at_call 159;refine (backward_in Fence.wide _ trivial rfl _ _ _ _).mono ?_;rintro e w' ⟨rfl,rfl⟩)
     have hbx:=Rw.new w2 147 [.slice (some ⟨b,off,none⟩) k c];have hTX:TX w sk [] (w2.alloc (.cells #[.slice (some ⟨b,off,none⟩) k c] 147)):=by
      refine ⟨⟨?_,hsk2.alloc _⟩,hbw2.alloc (by omega) _⟩;rw [List.map_nil,gone_nil,List.map_nil];exact builder_kept hB2 (World.grownBy_alloc _ _ none) (fun r e=>by cases e)
     have hblt:b<w.heap.size:=World.block_lt_of_cell? w _ hcd;have hc2:Ds (w2.alloc (.cells #[.slice (some ⟨b,off,none⟩) k c] 147)) b off (ds.take k):=by
      intro j hj;have hj' : j<ds.length:=by rw [List.length_take] at hj;omega
      have h1:=(hbw2.alloc (by omega) (.cells #[.slice (some ⟨b,off,none⟩) k c] 147)).cell (p:=⟨b,off+j,none⟩) hblt;rw [h1,hc j hj'];simp
     have hkl:(ds.take k).length=k:=by rw [List.length_take,HN.out];omega
     have HKL:=Lib.hid hkl;clear hkl;have hs2:w2.heap.size<(w2.alloc (.cells #[.slice (some ⟨b,off,none⟩) k c] 147)).heap.size:=by simp
     have hs0:w.heap.size≤(w2.alloc (.cells #[.slice (some ⟨b,off,none⟩) k c] 147)).heap.size:=by simp;omega
     refine wpIn_rangeFunc_ownF rfl (by omega) (gf:=178) (lb:=#[.pointer (some ⟨w2.heap.size,0,none⟩)]) rfl trivial (enters_of Tryz.func178 (by kernel_rfl) rfl)
      (backward_stops Fence.wide _ trivial rfl (by omega) w2.heap.size w.heap.size b off k c (ds.take k) HKL.out (by omega) hblt _ hs0 hbx hc2) (fun h k=>h.trans k) (KB.put hs0 hs2) (Below.refl _ _) (fun _=>rfl)
      (TX w sk) (fun _ _ _=>False) (TX.own w sk _ hs0) (fun _ _ _ _ _ hs _ _=>hs) hTX
      (fun x=>{tmps:=#[.slice (some ⟨b,off,none⟩) k c,undef,.string ⟨#[]⟩,.pointer (some ⟨w.heap.size,0,none⟩),.pointer (some ⟨w.heap.size+1,0,none⟩),undef,.int .u64 (x.2:Int),undef,.slice (some ⟨b,off,none⟩) k c,.int .i64 (k:Int),.bool true,.bool true,.slice (some ⟨b,off,none⟩) k c,.slice (some ⟨b,off,none⟩) k c,.int .i64 (k:Int),.int .i64 ((k:Int)-1),.pointer (some ⟨b,off+(k-1),none⟩),.int .u64 (d:Int),.bool false,.bool false,u20,u21,u22,u23,u24,.slice (some ⟨b,off,none⟩) k c,.int .i64 (k:Int),.bool false,.slice (some ⟨b,off,none⟩) k c,.int .i64 (k:Int),.bool false,undef,undef,undef,undef,.slice (some ⟨b,off,none⟩) k c,.slice (some ⟨b,off,none⟩) k c,.int .i64 (k:Int),.int .i64 ((k:Int)-1),.pointer (some ⟨b,off+(k-1),none⟩),.int .u64 (d:Int),.int .i64 (z:Int),.int .i64 (sk:Int),.slice (some ⟨b,off,none⟩) k c,.int .i64 (k:Int),.int .i64 (8*(k:Int)),.int .i64 (sk:Int),.int .i64 ((8*k-sk:Nat):Int),.tuple #[],.slice (some ⟨b,off,none⟩) k c,.func (.func 178) #[] #[.pointer (some ⟨w2.heap.size,0,none⟩)],.int .i64 (x.1:Int),.int .u64 (x.2:Int),undef,undef,undef,undef,undef,undef],defers:=[] }) ?assign ?body ?done ?stop
     case assign =>
      intro l x W K hK
      gi_wp2
      exact hK
     case body =>
      rintro l pre x W hT hlen;obtain ⟨⟨hBd,hSk⟩,hBw⟩:=hT;obtain ⟨c0,c1,c2,c3,c4,c5,c6,c7,hc8,h8⟩:=eight_ex x.2;obtain ⟨s0,hs0⟩:∃ s0,s0=skv sk pre:=⟨_,rfl⟩;have hs08:s0<8:=by rw [hs0];unfold skv;split <;> omega
      rw [← hs0] at hSk;have HS0:=Lib.hid hs0;clear hs0;have hsl:=fun g w=>slice8 g s0 hs08 w;have hcs:=hSk.cell 0;simp only [List.getElem?_cons_zero] at hcs;have HC8:=Lib.hid hc8;clear hc8
      gi_wp2_with fail
      refine ⟨trivial,?_⟩;refine (CallsIn.inRound l (callsIn_wide.2 (h8 _))).mono ?_;rintro e W1 ⟨rfl,cs,hW1⟩;have hg1:W.grownBy W1 none:=by rw [hW1];exact World.grownBy_alloc _ _ _
      have hk1:KeepsOthers W W1:=by rw [hW1];exact KeepsOthers.alloc _ _
      have hSk1:=hSk.grown hg1 (by simp);have hBd1:=builder_kept hBd hg1 (fun r e=>by cases e);have hcs1:=hSk1.cell 0;simp only [List.getElem?_cons_zero] at hcs1;have hsz1:w.heap.size+1<W1.heap.size:=Nat.lt_of_lt_of_le (World.block_lt_of_cell? W1 _ hBd1.cell0) (Nat.le_refl _);clear hW1 hcs;obtain ⟨W2,hW2⟩:∃ W2,W2=W1.alloc (.cells #[.int .u8 c0.toNat,.int .u8 c1.toNat,.int .u8 c2.toNat,.int .u8 c3.toNat,.int .u8 c4.toNat,.int .u8 c5.toNat,.int .u8 c6.toNat,.int .u8 c7.toNat] 150):=⟨_,rfl⟩;have hg2:W1.grownBy W2 none:=by rw [hW2];exact World.grownBy_alloc _ _ _
      have hk2:KeepsOthers W1 W2:=by rw [hW2];exact KeepsOthers.alloc _ _
      have hN2:Rw W2 W1.heap.size 150 ([c0,c1,c2,c3,c4,c5,c6,c7].map by8):=by rw [hW2];exact Rw.new W1 _ _
      have hs2:W1.heap.size<W2.heap.size:=hN2.lt;have HW2:=Lib.hid hW2;clear hW2;have hcs2:=cell_past hcs1
      gi_wp2_with fail
      rw [← HW2.out];refine ⟨trivial,?_⟩;have hBd2:=builder_kept hBd1 hg2 (fun r e=>by cases e);have hSk2:=hSk1.grown hg2 (by simp);have hkb2:∀ k T L,Rw W k T L→Rw W2 k T L:=fun k T L h=>(h.grown hg1 (by simp)).grown hg2 (by simp);have hpl:pre.length<1000000000:=by omega
      have hgl:((gone sk (pre.map (·.2))).map by8).length≤8*pre.length:=by
       have:=gone_length (sk:=sk) (pre.map (·.2))
       simpa using this
      have hnl:(([c0,c1,c2,c3,c4,c5,c6,c7].drop s0).map by8).length=8-s0:=by simp
      refine (CallsIn.inRound l (callsIn_wide.2 (write_any W2 (w.heap.size+1) (w.heap.size+1) W1.heap.size s0 (8-s0) (8-s0) _ (([c0,c1,c2,c3,c4,c5,c6,c7].drop s0).map by8) hBd2 hnl (by omega) ?_ ?_ (by omega) (by omega)))).mono ?_
      ·intro i hi;rw [hN2.cell];have hi' : s0+i<8:=by rw [hnl] at hi;omega
       rw [List.getElem?_map,List.getElem?_eq_getElem (by simpa using hi'),Option.map_some,List.getElem_map,List.getElem_drop]
      ·intro u hu;obtain ⟨y,_,rfl⟩:=List.mem_map.1 hu;rfl
      rintro e W3 ⟨rfl,hBd3,hb3,hk3,hkr3⟩;have hSk3:=hkr3 _ _ _ hSk2 (by decide) (by omega);have hcs3:=hSk3.cell 0;have hfs3:=hSk3.frozen 0;simp only [List.getElem?_cons_zero] at hcs3;have hbW3:Below w.heap.size W W3:=((grown_below hg1 hBw.size).trans (grown_below hg2 (by omega))).trans (hb3.mono (by omega));clear hcs1 hcs2
      gi_wp2
      refine ⟨((hk1.trans hk2).trans hk3).trans (KeepsOthers.setCell _ _ _),⟨hbW3.setCell (p:=⟨w.heap.size,0,none⟩) (Nat.le_refl _) _,fun hbxW=>?_⟩,⟨?_,?_⟩,(hBw.trans hbW3).setCell (p:=⟨w.heap.size,0,none⟩) (Nat.le_refl _) _⟩
      ·exact (hkr3 _ _ _ (hkb2 _ _ _ hbxW) (by decide) (by omega)).far (p:=⟨w.heap.size,0,none⟩) (by simp;omega) _
      ·have hg:gone sk ((pre++[x]).map (·.2))=gone sk (pre.map (·.2))++[c0,c1,c2,c3,c4,c5,c6,c7].drop s0:=by
        rw [← HC8.out,HS0.out];exact gone_step sk pre x (by omega)
       have hd8:(gone sk ((pre++[x]).map (·.2))).map by8=(gone sk (pre.map (·.2))).map by8++([c0,c1,c2,c3,c4,c5,c6,c7].drop s0).map by8:=by
        rw [hg,List.map_append]
       rw [hd8];obtain ⟨q1,v,q2,q3,q4⟩:=hBd3;refine ⟨q1,v,(Below.heap_setCell _ _ _ _ (by simp)).trans q2,?_,q4⟩;exact ownsRow_setCell_below q3 (by simp) _
      ·have hsv:skv sk (pre++[x])=0:=by unfold skv;simp
       rw [hsv];exact hSk3.set_ 0 _
     case done =>
      rintro D ys W hD rfl ⟨⟨hBd,_⟩,hBw⟩ hK;have hys:gone sk ((backs (ds.take k) k).map (·.2))=formL (val ds):=by
       obtain ⟨m,rfl⟩:∃ m,k=m+1:=⟨k-1,by omega⟩;have hsp:ds.take (m+1)=ds.take m++[d]:=by
        rw [List.take_succ_eq_append_getElem (by rw [HN.out];omega),HD.out];rfl
       have h1:(backs (ds.take (m+1)) (m+1)).map (·.2)=(ds.take (m+1)).reverse:=by
        rw [← backs_map,HKL.out];simp [backs,HKL.out,Function.comp_def]
       rw [h1,hsp];have hdd:Dig (ds.take m++[d]):=by rw [← hsp];exact hd.take _
       rw [gone_all hdd hd0 hsk8 HZ.out,← hsp,HV.out]
      rw [hys] at hBd;have hsz:w.heap.size+1≤W.heap.size:=by have:=World.block_lt_of_cell? W _ hBd.cell0;simp only at this;omega
      have hne:=hBd.1;have hstr:=Tryz.Builder_String_any_k (w.heap.size+1) (w.heap.size+1) (formL (val ds)) W (Lib.IsBuilderF.of (.inr hBd)) hsz;have hDb:D≠w.heap.size+1:=by simp at hD;omega
      have HSTR:=Lib.hid hstr;clear hstr
      gi_wp2_with fail
      refine ⟨trivial,?_⟩;refine (callsIn_wide.2 HSTR.out).mono ?_;rintro e W' ⟨rfl,_,hb',hok⟩;have hK' : W'.heap[D]?=some (.deferred (some [])):=hok D _ hK (by simpa using hDb) (fun _ _ e=>by cases e);have hfin:=(hBw.trans (hb'.mono (by omega))).trans (belowK_b (w:=w) (Nat.le_refl _) W' D _ (.deferred none) (by simp at hD;omega) hK' rfl rfl);have HFIN:=Lib.hid hfin;clear hfin
      gi_wp2
      refine ⟨by simp,.inl ⟨_,_,rfl,run_takeDeferred hK',?_⟩⟩;exact ⟨_,results_tmp rfl _ _ _,rfl,HFIN.out⟩
     case stop =>
      rintro D c pre W _ _ h _;exact h.elim
end Go.Proofs.YtemedphcafgolaaGreatDoor
