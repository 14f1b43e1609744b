/- Layer 1, laid together: Y6, Y7, Y8. -/
import Derived.Test.YtemedphcafgolaaGreatDoorHM
/- Package dyad: the scale that numbers share,walked. -/
namespace Go.Proofs.YtemedphcafgolaaGreatDoor
set_option maxRecDepth 100000
set_option maxHeartbeats 3200000
open Go.RowKit Go.Shelf
def maxI:Int:=9223372036854775807
def minI:Int:=-9223372036854775808
def lowF (l:List NV) (k:Nat):Int:=(l.take k).foldl (fun a x=>if wv x.1 x.2.1=0 then a else min a x.2.2) maxI
def highF (l:List NV) (k:Nat):Int:=(l.take k).foldl (fun a x=>if wv x.1 x.2.1=0 then a else max a x.2.2) minI
theorem lowF_succ {l:List NV} {k:Nat} (h:k<l.length):lowF l (k+1)=if wv l[k].1 l[k].2.1=0 then lowF l k else min (lowF l k) l[k].2.2:=by
 unfold lowF;rw [List.take_succ_eq_append_getElem h,List.foldl_append];rfl
theorem highF_succ {l:List NV} {k:Nat} (h:k<l.length):highF l (k+1)=if wv l[k].1 l[k].2.1=0 then highF l k else max (highF l k) l[k].2.2:=by
 unfold highF;rw [List.take_succ_eq_append_getElem h,List.foldl_append];rfl
theorem scale_bounds {l:List NV} (hs:∀ x∈l,-1000000≤x.2.2∧x.2.2≤1000000):∀ k,k≤l.length→(lowF l k=maxI∧highF l k=minI)∨(-1000000≤lowF l k∧lowF l k≤highF l k∧highF l k≤1000000)
 | 0,_=>.inl ⟨rfl,rfl⟩
 | k+1,h=>by
  have ih:=scale_bounds hs k (by omega);have hx:=hs l[k] (List.getElem_mem (by omega));rw [lowF_succ (by omega),highF_succ (by omega)]
  by_cases hz:wv l[k].1 l[k].2.1=0
  ·rw [if_pos hz,if_pos hz];exact ih
  ·rw [if_neg hz,if_neg hz];refine .inr ?_
   rcases ih with ⟨h1,h2⟩|⟨h1,h2,h3⟩
   ·rw [h1,h2];unfold maxI minI;omega
   ·omega
theorem infoSc:(Tryz.prog.info? 96).map (·.size)=some 1:=by kernel_rfl
theorem results_sc {fn:Func} {p u:Tmp} {tmps:Array Value} {W:World} {r:Nat} {x v:Value} (h:fn.results=#[.cell p 96,.tmp u]) (hp:tmps.getD p undef=.pointer (some ⟨r,0,none⟩)) (hu:tmps.getD u undef=v)
  (h1:Rw W r 96 [x]):(results fn tmps).run Tryz.prog W=.ok (.tuple #[.agg #[x],v]) W:=by
 have hp' : tmps[p]?.getD undef=.pointer (some ⟨r,0,none⟩):=by simpa using hp
 have hu' : tmps[u]?.getD undef=v:=by simpa using hu
 have e1:=run_loadVar_row (P:=Tryz.prog) W r _ 96 #[x] _ _ h1 Tryz.underlying96 rfl infoSc;simp [results,h,hp',hu',asAddr,e1]
theorem ret_sc {fn:Func} {p u:Tmp} {tmps:Array Value} {W:World} {r:Nat} {x v:Value} {Q:Ending→World→Prop} (h:fn.results=#[.cell p 96,.tmp u]) (hp:tmps.getD p undef=.pointer (some ⟨r,0,none⟩)) (hu:tmps.getD u undef=v)
  (h1:Rw W r 96 [x]) (hQ:Q (.returned (.tuple #[.agg #[x],v])) W):bodyPost Tryz.prog fn Q Exit.ret {tmps:=tmps,defers:=[] } W:=
 bodyPost_ret (results_sc h hp hu h1) rfl hQ
theorem shared_any (w:World) (ad:Option Addr) (l:List NV) (n c:Nat) (hn:l.length=n) (hmax:n≤1000) (hs:∀ x∈l,x.2.1.size≤100000∧-1000000≤x.2.2∧x.2.2≤1000000) (hl:NAt w ad l) (lo:Int) (hlo:lowF l n=lo) :
  Calls Tryz.prog 114 #[.slice ad n c] w (Ret (.tuple #[.agg #[.int .i64 lo],.bool true]) w):=by
 have HN:=Lib.hid (And.intro hn hlo);clear hn hlo;go_enter Tryz.func114,Tryz.ntmps114;go_wp2_with fail;have hR:=Rw.new w 96 [.int .i64 0];have hb:=(Below.refl w.heap.size w).alloc (Nat.le_refl _) (.cells #[.int .i64 0] 96);generalize (w.alloc (.cells #[.int .i64 0] 96))=W0 at *
 go_loopw [4,5,10] (fun lv hv i wr=>∃ k:Nat,k≤n∧lv=.int .i64 (lowF l k)∧hv=.int .i64 (highF l k)∧i=.int .i64 k∧Rw wr w.heap.size 96 [.int .i64 0]∧Below w.heap.size w wr) (fun _ _ i _=>n-intY i)
 case atStart=>exact ⟨0,Nat.zero_le _,rfl,rfl,rfl,hR,hb⟩
 case round =>
  clear hR hb;obtain ⟨k,hk,rfl,rfl,rfl,hR,hb⟩:=hrel
  by_cases hlt:k<n
  ·have hkl:k<l.length:=by rw [HN.out.1];exact hlt
   obtain ⟨lb,lo,rfl,hlb,hc1,hc2,hc3⟩:=hl k hkl;obtain ⟨m1,s1,e1,hx⟩:∃ m s e,l[k]=(m,s,e):=⟨_,_,_,rfl⟩;have hss:=hs l[k] (List.getElem_mem hkl);have hp1:=lowF_succ hkl;have hp2:=highF_succ hkl;rw [hx] at hss hc1 hc2 hc3 hp1 hp2;simp only at hss hp1 hp2;replace hc1:wr.cell? ⟨lb,lo+k*3,none⟩=some (.bool m1):=by rw [hb.cell hlb];exact hc1
   replace hc2:wr.cell? ⟨lb,lo+k*3+1,none⟩=some (.string s1):=by rw [hb.cell hlb];exact hc2
   replace hc3:wr.cell? ⟨lb,lo+k*3+2,none⟩=some (.int .i64 e1):=by rw [hb.cell hlb];exact hc3
   obtain ⟨lw,hlw⟩:∃ x,lowF l k=x:=⟨_,rfl⟩;obtain ⟨hw,hhw⟩:∃ x,highF l k=x:=⟨_,rfl⟩;rw [hlw] at hp1 ⊢;rw [hhw] at hp2 ⊢;have HP:=Lib.hid (And.intro hp1 hp2);clear hp1 hp2 hx hlw hhw;have hA:=Nk.new wr m1 s1 e1;have hbk:=hb.size;replace hb:=(hb.alloc hbk (.cells #[.bool m1,.string s1,.int .i64 e1] 26));replace hR:=(hR.alloc (.cells #[.bool m1,.string s1,.int .i64 e1] 26));go_wp2_with fail;generalize (wr.alloc (.cells #[.bool m1,.string s1,.int .i64 e1] 26))=V0 at *;clear hc1 hc2 hc3;obtain ⟨c1,hc1⟩:∃ c,sg (wv m1 s1)=c:=⟨_,rfl⟩;have HC:=Lib.hid hc1;clear hc1;refine (ysign_any _ m1 s1 e1 (by omega) c1 HC.out).mono ?_;rintro e V ⟨rfl,hq⟩;replace hb:=below_next hb hq;replace hA:=hA.below hq;replace hR:=hR.below hq hR.lt;clear hq
   by_cases hc0:c1=0
   ·subst hc0;have hz:wv m1 s1=0:=by have:=HC.out;rcases sg_cases (wv m1 s1) with ⟨h1,_⟩|⟨_,h2⟩|⟨_,h2⟩ <;> omega
    have HL:=Lib.hid (show lowF l (k+1)=lw∧highF l (k+1)=hw by rw [HP.out.1,HP.out.2,if_pos hz,if_pos hz];exact ⟨rfl,rfl⟩);have HJ:=Lib.hid (And.intro hR hb);clear hz hA hR hb;go_wp2;go_roundw
    case rel=>exact ⟨k+1,by omega,by rw [HL.out.1],by rw [HL.out.2],by simp,HJ.out.1,HJ.out.2⟩
    case measure=>simp [intY];omega
   ·have hz:¬ wv m1 s1=0:=by
     intro h
     apply hc0
     rw [← HC.out,h];rfl
    have hcb:(c1 == 0)=false:=by rw [beq_eq_false_iff_ne];exact hc0
    have HL:=Lib.hid (show lowF l (k+1)=min lw e1∧highF l (k+1)=max hw e1 by rw [HP.out.1,HP.out.2,if_neg hz,if_neg hz];exact ⟨rfl,rfl⟩);clear hz;have hin:=hA.drew.cells;clear hA;replace hb:=hb.drew;replace hR:=hR.drew;go_wp2_with fail
    go_region_held3 (fun w'=>(w'.cell? ⟨wr.heap.size,0,none⟩=some (.bool m1)∧w'.cell? ⟨wr.heap.size,1,none⟩=some (.string s1)∧w'.cell? ⟨wr.heap.size,2,none⟩=some (.int .i64 e1)))
     (first|assumption|exact h_n (by assumption) (by assumption)|exact a_n (by assumption)|exact s_n (by assumption) (by simp <;> omega))
     (first
      | fail)
    all_goals
     have HJ:=Lib.hid (And.intro hR hb);clear hR hb hin
     try go_wp2
     exact ⟨⟨k+1,by omega,by rw [HL.out.1],by rw [HL.out.2],by simp,HJ.out.1,HJ.out.2⟩,by simp [intY];omega⟩
  ·have hkn:k=n:=by omega
   subst hkn;have hbd:=scale_bounds (fun x hx=>(hs x hx).2) k (by rw [HN.out.1];omega);rw [HN.out.2] at hbd ⊢;obtain ⟨hw,hhw⟩:∃ x,highF l k=x:=⟨_,rfl⟩;rw [hhw] at hbd ⊢;clear hhw;have hbt:(decide (hw<lo) || decide (IntKind.u64.wrap (IntKind.u64.wrap hw-IntKind.u64.wrap lo)≤4294967296))=true:=by
    rcases hbd with ⟨h1,h2⟩|⟨h1,h2,h3⟩
    ·rw [h1,h2];rfl
    ·rw [decide_eq_true (p:=IntKind.u64.wrap (IntKind.u64.wrap hw-IntKind.u64.wrap lo)≤4294967296),Bool.or_true];simp only [IntKind.wrap,IntKind.bits,IntKind.signed];simp;omega
   have HT:=Lib.hid hbt;have HJ:=Lib.hid (And.intro (Rw.set_ hR 0 (.int .i64 lo)) (hb.setCell (p:=⟨w.heap.size,0,none⟩) (Nat.le_refl _) (.int .i64 lo)));have hr0:=hR.cell 0;have hr1:=hR.frozen 0;simp only [List.getElem?_cons_zero] at hr0;clear hbt hbd hR hb;go_wp2_with fail
   all_goals first
    | exact ret_sc (v:=.bool true) rfl rfl rfl HJ.out.1 ⟨rfl,HJ.out.2⟩
    | exact ret_sc (v:=.bool true) rfl rfl (show Value.bool (decide (hw<lo) || decide (IntKind.u64.wrap (IntKind.u64.wrap hw-IntKind.u64.wrap lo)≤4294967296))=Value.bool true by rw [HT.out]) HJ.out.1 ⟨rfl,HJ.out.2⟩
theorem sblkI (w:World) (E:Int) (m n:Bool) (s t:ByteArray) (e:Int) :
  Bk (((w.alloc (.cells #[.int .i64 E] 96)).alloc (.cells #[.bool m,.string s,.int .i64 e] 26)).alloc (.cells #[.bool n,.string t] 24)) (w.heap.size+1+1) #[.bool n,.string t] ∧
  Below w.heap.size w (((w.alloc (.cells #[.int .i64 E] 96)).alloc (.cells #[.bool m,.string s,.int .i64 e] 26)).alloc (.cells #[.bool n,.string t] 24)):=by
 refine ⟨?_,(((Below.refl _ w).alloc (Nat.le_refl _) _).alloc (by rw [World.size_alloc];omega) _).alloc (by rw [World.size_alloc,World.size_alloc];omega) _⟩
 have:=Bk.new ((w.alloc (.cells #[.int .i64 E] 96)).alloc (.cells #[.bool m,.string s,.int .i64 e] 26)) #[.bool n,.string t]
 rwa [World.size_alloc,World.size_alloc] at this
theorem sblkN (w:World) (E:Int) (m n:Bool) (s t:ByteArray) (f:Int) :
  Nk (((w.alloc (.cells #[.int .i64 E] 96)).alloc (.cells #[.bool m,.string s] 24)).alloc (.cells #[.bool n,.string t,.int .i64 f] 26)) (w.heap.size+1+1) n t f ∧
  Below w.heap.size w (((w.alloc (.cells #[.int .i64 E] 96)).alloc (.cells #[.bool m,.string s] 24)).alloc (.cells #[.bool n,.string t,.int .i64 f] 26)):=by
 refine ⟨?_,(((Below.refl _ w).alloc (Nat.le_refl _) _).alloc (by rw [World.size_alloc];omega) _).alloc (by rw [World.size_alloc,World.size_alloc];omega) _⟩
 have:=Nk.new ((w.alloc (.cells #[.int .i64 E] 96)).alloc (.cells #[.bool m,.string s] 24)) n t f
 rwa [World.size_alloc,World.size_alloc] at this
theorem count_same (w:World) (m:Bool) (s:ByteArray) (e:Int) :
  Calls Tryz.prog 115 #[.agg #[.int .i64 e],nu m s e] w (Ret (.agg #[.bool m,.string s]) w):=by
 unfold nu;go_enter Tryz.func115,Tryz.ntmps115;go_wp2_with fail;obtain ⟨hR,hb⟩:=sblkI w e m m s s e;exact ret_whole rfl rfl hR ⟨rfl,hb⟩
theorem count_else (w:World) (m:Bool) (s:ByteArray) (e E:Int) (hne:e≠E) (hs:s.size≤100000) (he:-1000000≤e∧e≤1000000) (hE:-1000000≤E∧E≤1000000) (hk:e-E≤1000000) (z:Bool) (o:ByteArray) (hz:wf (shiftI (wv m s) (e-E))=wi z o) :
  Calls Tryz.prog 115 #[.agg #[.int .i64 E],nu m s e] w (Ret (.agg #[.bool z,.string o]) w):=by
 have hb0:(e == E)=false:=by rw [beq_eq_false_iff_ne];exact hne
 have HZ:=Lib.hid (And.intro hz (show IntKind.i64.wrap (e-E)=e-E by rw [IntKind.wrap_i64];omega));have hw:=HZ.out.2;clear hz;unfold nu;go_enter Tryz.func115,Tryz.ntmps115;go_wp2_with fail;obtain ⟨hR,hb⟩:=sblkI w E m false s ⟨#[]⟩ e;generalize (((w.alloc (.cells #[.int .i64 E] 96)).alloc (.cells #[.bool m,.string s,.int .i64 e] 26)).alloc (.cells #[.bool false,.string ⟨#[]⟩] 24))=W0 at *;refine (wshift_any _ m s (e-E) (by omega) (by omega) (by omega) z o HZ.out.1).mono ?_;rintro e W ⟨rfl,hq⟩;replace hb:=below_next hb hq;replace hR:=hR.below hq;clear hq;obtain ⟨hR0,hR1,hR2,hR3⟩:=hR.facts;go_wp2;exact ret_whole rfl rfl (hR.set_ _ _) ⟨rfl,below_set2 hb (by omega) _ _ _ _⟩
theorem num_any (w:World) (z:Bool) (o:ByteArray) (E:Int) (hwf:wf (wv z o)=wi z o) (hs:o.size≤1000000) (he:-100000000000000≤E∧E≤100000000000000) (m' : Bool) (s' : ByteArray) (e' : Int) (hd:df (nv z o E)=nu m' s' e') :
  Calls Tryz.prog 118 #[.agg #[.int .i64 E],wi z o] w (Ret (.agg #[.bool m',.string s',.int .i64 e']) w):=by
 have HZ:=Lib.hid (And.intro hwf hd);clear hwf hd;unfold wi;go_enter Tryz.func118,Tryz.ntmps118;go_wp2_with fail;obtain ⟨hR,hb⟩:=sblkN w E z false o ⟨#[]⟩ 0;generalize (((w.alloc (.cells #[.int .i64 E] 96)).alloc (.cells #[.bool z,.string o] 24)).alloc (.cells #[.bool false,.string ⟨#[]⟩,.int .i64 0] 26))=W0 at *;refine (made_any _ z o E HZ.out.1 (by omega) (by omega) m' s' e' HZ.out.2).mono ?_;rintro e W ⟨rfl,hq⟩;replace hb:=below_next hb hq;replace hR:=hR.below hq;clear hq;obtain ⟨hR0,hR1,hR2,hR3,hR4,hR5⟩:=hR.facts;go_wp2;exact ret_num rfl rfl (hR.set3 _ _ _) ⟨rfl,below_set3 hb (by omega) _ _ _ _ _ _⟩
theorem shl_zero (w:World) (s:ByteArray) (n:Int) (hs:s.size≤100000000) (h0:num s=0) :
  Calls Tryz.prog 164 #[.string s,.int .i64 n] w (Ret (.string ⟨#[]⟩) w):=by
 have h1:=fb_num_size s;have h2:fb (num s)=⟨#[]⟩:=by rw [h0];rfl
 have H2:=Lib.hid h2;go_enter Tryz.func164,Tryz.ntmps164;go_wp2_with fail;refine (bare_any _ s).mono ?_;rintro e w' ⟨rfl,rfl⟩;have hE:=empty_of h0;clear h0 h2;go_wp2_with fail;refine (clone_any _ _ (by omega)).mono ?_;rintro e w' ⟨rfl,hb⟩;go_wp2;go_ret;exact ⟨by show Ending.returned (Value.string (fb (num s)))=_;rw [H2.out],hb⟩
theorem wshift_nought (w:World) (n:Bool) (s:ByteArray) (k:Int) (hs:s.size≤1000000) (hk:0≤k) (h0:num s=0) :
  Calls Tryz.prog 139 #[wi n s,.int .i64 k] w (Ret (.agg #[.bool false,.string ⟨#[]⟩]) w):=by
 have HZ:=Lib.hid h0;have HS:=Lib.hid (show fb 0=(⟨#[]⟩:ByteArray)∧wf (sI n 0)=wi false ⟨#[]⟩ from ⟨rfl,by cases n <;> rfl⟩);clear h0;unfold wi;go_enter Tryz.func139,Tryz.ntmps139;go_wp2_with fail;obtain ⟨hA,hC,hb⟩:=blocks2 w #[.bool n,.string s] #[.bool false,.string ⟨#[]⟩];generalize ((w.alloc (.cells #[.bool n,.string s] 24)).alloc (.cells #[.bool false,.string ⟨#[]⟩] 24))=W0 at *;replace hC:=hC.drew;replace hb:=hb.drew;have hin:=hA.drew.cells;clear hA
 go_region_held3 (fun w'=>w'.cell? ⟨w.heap.size,0,none⟩=some (.bool n)∧w'.cell? ⟨w.heap.size,1,none⟩=some (.string s))
  (first|assumption|exact held (by assumption) (by assumption)|exact held_set2 (by assumption) (by omega)|exact held_alloc (by assumption))
  (first
   | (go_at_call 164;refine (shl_zero _ s _ (by omega) HZ.out).mono ?_;rintro e W1 ⟨rfl,hq⟩;replace hb:=below_next hb hq;replace hC:=hC.below hq)
   | (go_at_call 123;refine (signed_any _ n _ 0 false ⟨#[]⟩ HS.out.1 HS.out.2).mono ?_;rintro e W2 ⟨rfl,hq⟩;replace hb:=below_next hb hq;replace hC:=hC.below hq;obtain ⟨hC0,hC1,hC2,hC3⟩:=hC.facts))
 go_wp2;exact ret_whole rfl rfl (hC.set_ _ _) ⟨rfl,below_set2 hb (by omega) _ _ _ _⟩
theorem wshift_zero (w:World) (n:Bool) (s:ByteArray) (k:Int) (hs:s.size≤1000000) (hk:-9223372036854775808≤k) (h0:num s=0) :
  Calls Tryz.prog 139 #[wi n s,.int .i64 k] w (Ret (.agg #[.bool false,.string ⟨#[]⟩]) w):=by
 by_cases h:0≤k
 ·exact wshift_nought w n s k hs h h0
 ·refine wshift_any w n s k hs hk (by omega) false ⟨#[]⟩ ?_;unfold shiftI;rw [if_neg h,wv_sI,h0]
  cases n
  ·simp [sI];rfl
  ·simp [sI];rfl
end Go.Proofs.YtemedphcafgolaaGreatDoor
