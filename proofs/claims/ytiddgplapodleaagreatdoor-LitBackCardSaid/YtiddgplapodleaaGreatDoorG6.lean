/- Layer 1, laid together: DPrint, DPrint2. -/
import Derived.Test.YtiddgplapodleaaGreatDoorDSpread
import Derived.Test.YtiddgplapodleaaGreatDoorDRef2
/- Package digits: Print,walked. -/
namespace Go.Proofs.YtiddgplapodleaaGreatDoor
set_option maxRecDepth 100000
set_option maxHeartbeats 1600000
open Go.RowKit Go.Shelf Go.Lib
theorem Bk.set0 {W:World} {b:Nat} {x y:Value} (h:Bk W b #[x,y]) (u:Value):Bk (W.setCell ⟨b,0,none⟩ u) b #[u,y]:=by
 have h1:Rw W b 26 [x,y]:=h;exact h1.set_ 0 u
theorem keptO {W W' : World} {b:Nat} {x y:Value} (hk:OthersKept 5 none W W') (h:(W.cell? ⟨b,0,none⟩=some x∧W.cell? ⟨b,1,none⟩=some y)∧Bk W b #[x,y]):(W'.cell? ⟨b,0,none⟩=some x∧W'.cell? ⟨b,1,none⟩=some y)∧Bk W' b #[x,y]:=
 ⟨(h.2.kept hk).cells,h.2.kept hk⟩
theorem trim_decP (u:Nat) (hu:0<u) (k:Nat) (h:u<10 ^ k):trimLeftS (decP k u) [48]=decDigits u:=by
 obtain ⟨j,hj⟩:=decP_pad u hu k h;rw [hj];unfold trimLeftS;have hrep:∀ (j:Nat) (l:List UInt8),(List.replicate j 48++l).dropWhile (([48]:List UInt8).contains ·)=l.dropWhile (([48]:List UInt8).contains ·):=by
  intro j l
  induction j with
  | zero=>rfl
  | succ j ih=>rw [List.replicate_succ,List.cons_append,List.dropWhile_cons_of_pos (by rfl),ih]
 rw [hrep];have hp:=plain_decDigits u
 rcases hp.2 with h1|h1
 ·have:=dV_decDigits u
  rw [h1] at this;have h0:dV [48]=0:=rfl;omega
 ·cases hd:decDigits u with
  | nil=>exact absurd hd hp.1
  | cons b l =>
   rw [hd] at h1;have hb:¬ b=48:=by simpa using h1
   rw [List.dropWhile_cons_of_neg (by simpa using hb)]
theorem bc_at {W:World} {B g cap:Nat} {l:List UInt8} (h:W.ownsRow B 5 1 (.slice (some ⟨g,0,none⟩) l.length cap) l.length (bc l)):∀ i (hi:i<l.length),W.cell? ⟨g,0+i,none⟩=some (by8 l[i]):=by
 intro i hi;have hc:=h.cells (g:=g) rfl i (by8 l[i]) (by unfold bc by8;simp [List.getElem?_map,List.getElem?_eq_getElem hi]);have ea:∀ j:Nat,(⟨g,0,none⟩:Addr).add j=⟨g,0+j,none⟩:=fun j=>by unfold Addr.add;split <;> simp_all
 rwa [ea] at hc
theorem trim_left (w:World) (g n c:Nat) (bs:List UInt8) (hn:bs.length=n) (hnc:n≤c) (hc:c≤9223372036854775807) (hb:∀ i (hi:i<bs.length),w.cell? ⟨g,0+i,none⟩=some (by8 bs[i])) (h0:0<n) :
  Calls Tryz.prog 39 #[.slice (some ⟨g,0,none⟩) n c,.string ⟨#[48]⟩] w fun e w'=>e=.returned (leftV (some ⟨g,0,none⟩) n c (n-(trimLeftS bs [48]).length))∧w'=w:=
 Any.bytes_TrimLeft_one Tryz.laysTrim (some ⟨g,0,none⟩) n c bs 48 w hn hnc hc (fun _=>⟨g,0,rfl,fun i hi=>by rw [hb i (by omega),List.getD_eq_getElem?_getD,List.getElem?_eq_getElem (by omega)];rfl⟩) h0 (by decide)
theorem fin_pos {s o r:ByteArray} (ho:(⟨(itoa (wv false s)).toArray⟩:ByteArray)=o) (hr:(⟨(decDigits (num s)).toArray⟩:ByteArray)=r) (_:0<num s):r=o:=by
 rw [itoa_wv,if_neg (by rw [wv_false];omega)] at ho;exact hr.symm.trans ho
theorem fin_neg {s o r:ByteArray} (ho:(⟨(itoa (wv true s)).toArray⟩:ByteArray)=o) (hr:(⟨(decDigits (num s)).toArray⟩:ByteArray)=r) (h:0<num s):(⟨#[45]⟩:ByteArray)++r=o:=by
 rw [itoa_wv,if_pos (by rw [wv_true];omega)] at ho;rw [← ho,← hr];exact ba_ext (by rw [app_one])
theorem sc_room {k:Nat} (h:(fb (sc k)).size≤20000):([]:List UInt8).length+18*2 ^ (k+1)≤1000000:=by
 have h1:=sc_width h;rw [Nat.pow_succ,List.length_nil];omega
theorem sc_all {k:Nat} (h:(fb (sc k)).size≤20000):∀ i,i<k+1→(fb (sc i)).size≤20000:=fun i hi=>sc_sizes (show i≤k by omega) h
theorem leftV_at {g n c j:Nat} (h:j<n) (hn:n≤c):leftV (some ⟨g,0,none⟩) n c j=.slice (some ⟨g,j,none⟩) (n-j) (c-j):=by
 unfold leftV fromV;rw [if_neg (by omega),if_neg (by omega)]
 congr 2
 show some ((⟨g,0,none⟩:Addr).add j)=some _
 congr 1
 unfold Addr.add
 split <;> simp_all
theorem print_big (w:World) (htab:TabIs Tryz.prog w "internal/strconv.uint64pow10" .u64 pow10Tab) (n:Bool) (s:ByteArray) (hs:s.size≤1000) (hbig:isSmall (wv n s)=false) (o:ByteArray) (ho:⟨(itoa (wv n s)).toArray⟩=o) :
  Calls Tryz.prog 17 #[wi n s] w (Ret (.string o) w):=by
 obtain ⟨x,hx⟩:∃ x,smallI (wv n s)=x:=⟨_,rfl⟩;have HO:=Lib.hid (And.intro ho (And.intro hx hbig));clear ho hx hbig;unfold wi;go_enter Tryz.func17,Tryz.ntmps17;go_wp2_with fail;obtain ⟨hA,hb⟩:=blocks1 w #[.bool n,.string s];generalize (w.alloc (.cells #[.bool n,.string s] 26))=W0 at *;refine (wsmall_any _ n s (by omega) x false HO.out.2.1 HO.out.2.2).mono ?_;rintro e W1 ⟨rfl,hq⟩;replace hb:=below_next hb hq;replace hA:=hA.below hq;obtain ⟨hA0,hA1,hA2,hA3⟩:=hA.facts;clear hq;have hpos:0<num s:=by
  rcases Nat.eq_zero_or_pos (num s) with h|h
  ·have h1:=HO.out.2.2;have h2:=wv_abs n s;obtain ⟨_,h3⟩:=small_is (z:=wv n s) (by omega);rw [h3] at h1
   cases h1
  ·exact h
 cases n
 ·obtain ⟨WA,hWA⟩:∃ WA,WA=W1:=⟨_,rfl⟩;rw [← hWA] at hb hA hA0 hA1 hA2 hA3 ⊢;clear hWA hA2 hA3;obtain ⟨y,hy⟩:∃ y:Nat,bl (num s)=y:=⟨_,rfl⟩;have hy2:y≤8000:=by rw [← hy];exact bl_size (k:=1000) hs
  have hy3:((bl (num s):Nat):Int)=(y:Int):=by rw [hy]
  have hlt:num s<2 ^ y:=by rw [← hy];exact (bl_bounds hpos).2.2
  have HY:=Lib.hid (And.intro hy3 hlt);clear hy hy3 hlt;go_wp2_with fail;have hin:(WA.drew.cell? ⟨w.heap.size,0,none⟩=some (.bool false)∧WA.drew.cell? ⟨w.heap.size,1,none⟩=some (.string s))∧Bk WA.drew w.heap.size #[.bool false,.string s]:=⟨hA.cells,hA⟩;replace hb:Below w.heap.size w WA.drew:=hb.drew;clear hA hA0 hA1
  go_region_held3 (fun w'=>(w'.cell? ⟨w.heap.size,0,none⟩=some (.bool false)∧w'.cell? ⟨w.heap.size,1,none⟩=some (.string s))∧Bk w' w.heap.size #[.bool false,.string s])
   (first|assumption|exact keptO (kept_below hq) (by assumption)|exact keptO hk3 (by assumption))
   (first
    | (go_at_call 38;go_fit (use_len _ s _ (by omega) HY.out.1);rintro e V1 ⟨rfl,hq⟩;replace hb:=below_next hb hq)
    | (go_at_call 37;go_fit (scales_any _ y (by omega));rintro e V2 ⟨k,od,oc,rfl,hoc,hk8,hI,hq,h2,hsz⟩;replace hb:=below_next hb hq;have hM1:=sc_room hsz;have hLT:=Nat.lt_of_lt_of_le HY.out.2 h2;have hZ:=sc_all hsz)
    | (go_at_call 36;go_fit ((spread_any (k+1) (by omega)) V2 V2 (tab_below htab hb) (Below.refl V2.heap.size V2) (.slice none 0 0) [] hM1 (World.ownsRow_nil V2 V2.heap.size 5 1) s hs hLT od oc hoc hI hZ);rintro e V3 ⟨v3,rfl,hr3,hB3,hk3⟩))
  all_goals
   rw [List.nil_append] at hr3;have hL:(decP (18*2 ^ (k+1)) (num s)).length=18*2 ^ (k+1):=decP_length _ _;have hLp:0<18*2 ^ (k+1):=by have:=Nat.two_pow_pos (k+1);omega
   obtain ⟨g,cap,rfl,hcap⟩:∃ g cap,v3=.slice (some ⟨g,0,none⟩) (decP (18*2 ^ (k+1)) (num s)).length cap∧(decP (18*2 ^ (k+1)) (num s)).length≤cap∧cap≤maxLen:=by
    rcases hr3.2 with ⟨_,h0⟩|⟨g,cap,cur,rfl,_,_,h1,h2,_,_⟩
    ·rw [hL] at h0;omega
    ·exact ⟨g,cap,rfl,h1,h2⟩
   have hcells:=bc_at hr3;have htr:=trim_decP (num s) hpos (18*2 ^ (k+1)) (by rw [← sc_def];exact hLT);have hb3:=below_next hb hB3;clear hI hq h2 hsz hM1 hLT hZ hr3 hB3 hk3 hLp;generalize decP (18*2 ^ (k+1)) (num s)=ds at *;have hjl:(decDigits (num s)).length≤ds.length:=by
    rw [← htr];unfold trimLeftS;exact (List.dropWhile_sublist _).length_le
   have hdp:0<(decDigits (num s)).length:=List.length_pos_iff.2 (decDigits_ne _);have hsuf:∀ i (hi:i<(decDigits (num s)).length),∃ h,ds[ds.length-(decDigits (num s)).length+i]'h=(decDigits (num s))[i]:=by
    intro i hi;have e:(decDigits (num s)) <:+ ds:=by rw [← htr];exact List.dropWhile_suffix _
    obtain ⟨pre,hpre⟩:=e;have hpl:=congrArg List.length hpre;rw [List.length_append] at hpl;refine ⟨by omega,?_⟩;subst hpre;rw [List.getElem_append_right (by rw [List.length_append];omega)]
    congr 1
    rw [List.length_append];omega
   have HT:=Lib.hid (And.intro hcells (And.intro htr (And.intro hjl (And.intro hdp hsuf))));clear hcells htr hjl hdp hsuf hL;obtain ⟨nd,hnd⟩:∃ nd,(decDigits (num s)).length=nd:=⟨_,rfl⟩;have hjl:=HT.out.2.2.1;have hdp:=HT.out.2.2.2.1;rw [hnd] at hjl hdp;obtain ⟨r,hr⟩:∃ r,(⟨(decDigits (num s)).toArray⟩:ByteArray)=r:=⟨_,rfl⟩;have hrs:r.size≤3001:=by rw [← hr];exact Nat.le_trans (dec_size s) (by omega)
   have hfin:=fin_pos HO.out.1 hr hpos;have hcv:(convert 65 9 (.slice (some ⟨g,ds.length-nd,none⟩) (ds.length-(ds.length-nd)) (cap-(ds.length-nd)))).run Tryz.prog V3=.ok (.string r) V3:=by
    rw [← hr];refine run_bytes_at (l:=decDigits (num s)) (by omega) (fun i hi=>?_);obtain ⟨h,e⟩:=HT.out.2.2.2.2 i hi;have h1:=HT.out.1 (ds.length-(decDigits (num s)).length+i) h;rw [Nat.zero_add,e,hnd] at h1;exact h1
   have n1:¬ (9223372036854775807<1+r.size):=by omega
   have n2:¬ (9223372036854775807<0+r.size):=by omega
   have n3:¬ (9223372036854775807<r.size):=by omega
   have HF:=Lib.hid hfin;clear hfin hrs hr;go_wp2_with fail;refine (trim_left _ g ds.length cap ds rfl hcap.1 (Nat.le_trans hcap.2 (by decide)) HT.out.1 (by omega)).mono ?_;rintro e V4 ⟨rfl,rfl⟩;rw [HT.out.2.1,hnd,leftV_at (by omega) hcap.1];go_wp2;go_ret;exact ⟨by rw [← HF.out];rfl,hb3⟩
 ·go_wp2_with fail;have hb':=Below.setCell hb (show w.heap.size≤(⟨w.heap.size,0,none⟩:Addr).block from Nat.le_refl _) (.bool false);have hA':=hA.set0 (.bool false);clear hb hA hA0 hA1 hA2 hA3;obtain ⟨WA,hWA⟩:∃ WA,WA=W1.setCell ⟨w.heap.size,0,none⟩ (.bool false):=⟨_,rfl⟩;rw [← hWA] at hb' hA' ⊢;have hb:=hb';have hA:=hA';have hA0:=hA.cells.1;have hA1:=hA.cells.2;clear hWA hb' hA';obtain ⟨y,hy⟩:∃ y:Nat,bl (num s)=y:=⟨_,rfl⟩;have hy2:y≤8000:=by rw [← hy];exact bl_size (k:=1000) hs
  have hy3:((bl (num s):Nat):Int)=(y:Int):=by rw [hy]
  have hlt:num s<2 ^ y:=by rw [← hy];exact (bl_bounds hpos).2.2
  have HY:=Lib.hid (And.intro hy3 hlt);clear hy hy3 hlt;have hin:(WA.drew.cell? ⟨w.heap.size,0,none⟩=some (.bool false)∧WA.drew.cell? ⟨w.heap.size,1,none⟩=some (.string s))∧Bk WA.drew w.heap.size #[.bool false,.string s]:=⟨hA.cells,hA⟩;replace hb:Below w.heap.size w WA.drew:=hb.drew;clear hA hA0 hA1
  go_region_held3 (fun w'=>(w'.cell? ⟨w.heap.size,0,none⟩=some (.bool false)∧w'.cell? ⟨w.heap.size,1,none⟩=some (.string s))∧Bk w' w.heap.size #[.bool false,.string s])
   (first|assumption|exact keptO (kept_below hq) (by assumption)|exact keptO hk3 (by assumption))
   (first
    | (go_at_call 38;go_fit (use_len _ s _ (by omega) HY.out.1);rintro e V1 ⟨rfl,hq⟩;replace hb:=below_next hb hq)
    | (go_at_call 37;go_fit (scales_any _ y (by omega));rintro e V2 ⟨k,od,oc,rfl,hoc,hk8,hI,hq,h2,hsz⟩;replace hb:=below_next hb hq;have hM1:=sc_room hsz;have hLT:=Nat.lt_of_lt_of_le HY.out.2 h2;have hZ:=sc_all hsz)
    | (go_at_call 36;go_fit ((spread_any (k+1) (by omega)) V2 V2 (tab_below htab hb) (Below.refl V2.heap.size V2) (.slice none 0 0) [] hM1 (World.ownsRow_nil V2 V2.heap.size 5 1) s hs hLT od oc hoc hI hZ);rintro e V3 ⟨v3,rfl,hr3,hB3,hk3⟩))
  all_goals
   rw [List.nil_append] at hr3;have hL:(decP (18*2 ^ (k+1)) (num s)).length=18*2 ^ (k+1):=decP_length _ _;have hLp:0<18*2 ^ (k+1):=by have:=Nat.two_pow_pos (k+1);omega
   obtain ⟨g,cap,rfl,hcap⟩:∃ g cap,v3=.slice (some ⟨g,0,none⟩) (decP (18*2 ^ (k+1)) (num s)).length cap∧(decP (18*2 ^ (k+1)) (num s)).length≤cap∧cap≤maxLen:=by
    rcases hr3.2 with ⟨_,h0⟩|⟨g,cap,cur,rfl,_,_,h1,h2,_,_⟩
    ·rw [hL] at h0;omega
    ·exact ⟨g,cap,rfl,h1,h2⟩
   have hcells:=bc_at hr3;have htr:=trim_decP (num s) hpos (18*2 ^ (k+1)) (by rw [← sc_def];exact hLT);have hb3:=below_next hb hB3;clear hI hq h2 hsz hM1 hLT hZ hr3 hB3 hk3 hLp;generalize decP (18*2 ^ (k+1)) (num s)=ds at *;have hjl:(decDigits (num s)).length≤ds.length:=by
    rw [← htr];unfold trimLeftS;exact (List.dropWhile_sublist _).length_le
   have hdp:0<(decDigits (num s)).length:=List.length_pos_iff.2 (decDigits_ne _);have hsuf:∀ i (hi:i<(decDigits (num s)).length),∃ h,ds[ds.length-(decDigits (num s)).length+i]'h=(decDigits (num s))[i]:=by
    intro i hi;have e:(decDigits (num s)) <:+ ds:=by rw [← htr];exact List.dropWhile_suffix _
    obtain ⟨pre,hpre⟩:=e;have hpl:=congrArg List.length hpre;rw [List.length_append] at hpl;refine ⟨by omega,?_⟩;subst hpre;rw [List.getElem_append_right (by rw [List.length_append];omega)]
    congr 1
    rw [List.length_append];omega
   have HT:=Lib.hid (And.intro hcells (And.intro htr (And.intro hjl (And.intro hdp hsuf))));clear hcells htr hjl hdp hsuf hL;obtain ⟨nd,hnd⟩:∃ nd,(decDigits (num s)).length=nd:=⟨_,rfl⟩;have hjl:=HT.out.2.2.1;have hdp:=HT.out.2.2.2.1;rw [hnd] at hjl hdp;obtain ⟨r,hr⟩:∃ r,(⟨(decDigits (num s)).toArray⟩:ByteArray)=r:=⟨_,rfl⟩;have hrs:r.size≤3001:=by rw [← hr];exact Nat.le_trans (dec_size s) (by omega)
   have hfin:=fin_neg HO.out.1 hr hpos;have hcv:(convert 65 9 (.slice (some ⟨g,ds.length-nd,none⟩) (ds.length-(ds.length-nd)) (cap-(ds.length-nd)))).run Tryz.prog V3=.ok (.string r) V3:=by
    rw [← hr];refine run_bytes_at (l:=decDigits (num s)) (by omega) (fun i hi=>?_);obtain ⟨h,e⟩:=HT.out.2.2.2.2 i hi;have h1:=HT.out.1 (ds.length-(decDigits (num s)).length+i) h;rw [Nat.zero_add,e,hnd] at h1;exact h1
   have n1:¬ (9223372036854775807<1+r.size):=by omega
   have n2:¬ (9223372036854775807<0+r.size):=by omega
   have n3:¬ (9223372036854775807<r.size):=by omega
   have HF:=Lib.hid hfin;clear hfin hrs hr;go_wp2_with fail;refine (trim_left _ g ds.length cap ds rfl hcap.1 (Nat.le_trans hcap.2 (by decide)) HT.out.1 (by omega)).mono ?_;rintro e V4 ⟨rfl,rfl⟩;rw [HT.out.2.1,hnd,leftV_at (by omega) hcap.1];go_wp2;go_ret;exact ⟨by rw [← HF.out];rfl,hb3⟩
theorem print_small (w:World) (htab:TabIs Tryz.prog w "internal/strconv.uint64pow10" .u64 pow10Tab) (n:Bool) (s:ByteArray) (hs:s.size≤1000) (hsm:isSmall (wv n s)=true) (o:ByteArray) (ho:⟨(itoa (wv n s)).toArray⟩=o) :
  Calls Tryz.prog 17 #[wi n s] w (Ret (.string o) w):=by
 obtain ⟨x,hx⟩:∃ x,wv n s=x:=⟨_,rfl⟩;have hr:-9223372036854775808≤wv n s∧wv n s≤9223372036854775807:=by
  unfold isSmall at hsm;exact of_decide_eq_true hsm
 have hxs:smallI (wv n s)=x:=by rw [(small_is hr).1,hx]
 rw [hx] at ho hr;have HO:=Lib.hid (And.intro ho (And.intro hxs (And.intro hsm hr)));clear ho hxs hsm hr hx;unfold wi;go_enter Tryz.func17,Tryz.ntmps17;go_wp2_with fail;obtain ⟨hA,hb⟩:=blocks1 w #[.bool n,.string s];generalize (w.alloc (.cells #[.bool n,.string s] 26))=W0 at *;refine (wsmall_any _ n s (by omega) x true HO.out.2.1 HO.out.2.2.1).mono ?_;rintro e W1 ⟨rfl,hq⟩;replace hb:=below_next hb hq;clear hq hA;go_wp2_with fail;refine (Tryz.strconv_FormatInt_10 x HO.out.2.2.2.1 HO.out.2.2.2.2 _ (tab_below htab hb)).mono ?_;rintro e w' ⟨rfl,k,os,rfl⟩;have hq:=below_grow W1.heap.size W1 (Nat.le_refl _) k os;replace hb:=below_next hb hq;generalize Go.Sort.grow (W1.drewN k) os=W2 at *;clear hq;go_wp2;go_ret;exact ⟨by rw [← HO.out.1];rfl,hb⟩
theorem print_any (w:World) (htab:TabIs Tryz.prog w "internal/strconv.uint64pow10" .u64 pow10Tab) (n:Bool) (s:ByteArray) (hs:s.size≤1000) (o:ByteArray) (ho:⟨(itoa (wv n s)).toArray⟩=o) :
  Calls Tryz.prog 17 #[wi n s] w (Ret (.string o) w):=by
 cases h:isSmall (wv n s)
 ·exact print_big w htab n s hs h o ho
 ·exact print_small w htab n s hs h o ho
end Go.Proofs.YtiddgplapodleaaGreatDoor
