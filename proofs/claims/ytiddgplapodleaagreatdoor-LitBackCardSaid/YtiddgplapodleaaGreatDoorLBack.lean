/- The law of there and back (layer 6): it answers true for all. -/
import Derived.Test.YtiddgplapodleaaGreatDoorLBackF
import Derived.Deep.DeepFit
import Derived.Deep.RegionHeld3
import Derived.Deep.RegionWith
namespace Go.Proofs.YtiddgplapodleaaGreatDoor
set_option maxRecDepth 100000
set_option maxHeartbeats 8000000
open Go.RowKit Go.Shelf Go.Lib
theorem keepc {W W' : World} {p q r:Addr} {x y z:Value} (hq:Below W.heap.size W W') (h:W.cell? p=some x∧W.cell? q=some y∧W.cell? r=some z):W'.cell? p=some x∧W'.cell? q=some y∧W'.cell? r=some z:=
 ⟨(hq.cell (World.block_lt_of_cell? W _ h.1)).trans h.1,(hq.cell (World.block_lt_of_cell? W _ h.2.1)).trans h.2.1,(hq.cell (World.block_lt_of_cell? W _ h.2.2)).trans h.2.2⟩
theorem keepd {W W' : World} {p q r p2 q2 r2:Addr} {x y z x2 y2 z2:Value} (hq:Below W.heap.size W W') (h:(W.cell? p=some x∧W.cell? q=some y∧W.cell? r=some z)∧(W.cell? p2=some x2∧W.cell? q2=some y2∧W.cell? r2=some z2)) :
  (W'.cell? p=some x∧W'.cell? q=some y∧W'.cell? r=some z)∧(W'.cell? p2=some x2∧W'.cell? q2=some y2∧W'.cell? r2=some z2):=⟨keepc hq h.1,keepc hq h.2⟩
theorem lsplit_nothing (w:World) :
  Calls Tryz.prog 15 #[.string ⟨#[]⟩] w (Ret (.tuple #[.slice none 0 0,.int .i64 0,.int .i64 0]) w):=by
 refine (callsIn_wide (n:=5)).1 ?_;refine callsIn_of_wp_marks Tryz.func15 rfl trivial ?_ rfl;simp only [Tryz.ntmps15,List.size_toArray,List.length_cons,List.length_nil,Nat.reduceAdd,Nat.reduceSub,Array.replicate_succ,Array.replicate_zero,List.push_toArray,List.append_toArray,List.nil_append,List.cons_append];have b0:=rw_new (w:=w) rfl 22 (.slice none 0 0);have b1:=rw_new (w:=w.alloc (.cells #[.slice none 0 0] 22)) (k:=w.heap.size+1) (by simp) 3 (.int .i64 0);have b2:=rw_new (w:=(w.alloc (.cells #[.slice none 0 0] 22)).alloc (.cells #[.int .i64 0] 3)) (k:=w.heap.size+1+1) (by simp) 36 (.int .i64 0)
 gi_wp2_with fail
 refine ⟨_,results_three rfl rfl rfl rfl ((b0.alloc _).alloc _) (b1.alloc _) b2,rfl,?_⟩;exact (((Below.refl _ w).alloc (Nat.le_refl _) _).alloc (by simp) _).alloc (by simp;omega) _
theorem lsplit_row (w:World) (l:List NV) (hl:l.length≤20) (h:∀ x∈l,CloseN x) :
  Calls Tryz.prog 15 #[.string (rowB l)] w (fun e w'=>∃ ad cap,e=.returned (.tuple #[.slice ad l.length cap,.int .i64 0,.int .i64 0])∧NAt w' ad (l.map fN)∧Below w.heap.size w w'):=by
 cases l with
 | nil =>
  refine (lsplit_nothing w).mono ?_;rintro e W ⟨rfl,hq⟩;exact ⟨none,0,rfl,fun i h=>by simp at h,hq⟩
 | cons x l =>
  refine (lsplit_any w (rowB (x::l)) (row_some (by simp)) (row_short hl h) ((x::l).map fN) (by rw [List.length_map];omega) 0 0 (fate_row (by simp) h)).mono ?_;rintro e W ⟨hq,h0,-⟩;obtain ⟨ad,cap,rfl,hN⟩:=h0 rfl;exact ⟨ad,cap,by rw [List.length_map],hN,hq⟩
theorem lback_law (w:World) (htab:Lib.TabIs Tryz.prog w "internal/strconv.uint64pow10" .u64 Lib.pow10Tab) (ad:Option Addr) (l:List NV) (n c:Nat) (hn:l.length=n) (_hc:n≤c∧(ad=none→c=0)) (hl:NAt w ad l) (_hm:n≤maxLen) (_hw:∀ x∈l,x.2.1.size≤maxLen∧(Lit.int .i64 x.2.2).wf=true) (s:ByteArray) (_hs:s.size≤maxLen) :
  Calls Tryz.prog 4 #[.slice ad n c,.string s] w (Ret (.bool true) w):=by
 obtain ⟨i0,hi0,hy0,hy1,hy2⟩:=info_parts infoN3;have hb:=Below.refl w.heap.size w;have HN:=Lib.hid hn;go_enter Tryz.func4,Tryz.ntmps4
 by_cases hg:20<n
 ·have d1:decide ((20:Int)<(n:Int))=true:=decide_eq_true (by omega);clear hn;go_wp2_with fail;refine (lawake_any _ (tab_below htab hb)).mono ?_;rintro e W2 ⟨rfl,hq⟩;replace hb:=below_next hb hq;go_wp2;go_ret;exact ⟨rfl,hb⟩
 have d1:decide ((20:Int)<(n:Int))=false:=decide_eq_false (by omega)
 by_cases hg2:60<s.size
 ·have d2:decide ((60:Int)<(s.size:Int))=true:=decide_eq_true (by omega);clear hn;go_wp2_with fail;refine (lawake_any _ (tab_below htab hb)).mono ?_;rintro e W2 ⟨rfl,hq⟩;replace hb:=below_next hb hq;go_wp2;go_ret;exact ⟨rfl,hb⟩
 have d2:decide ((60:Int)<(s.size:Int))=false:=decide_eq_false (by omega);go_wp2
 go_loopw [5,6] (fun wv iv wr=>∃ i:Nat,iv=.int .i64 i∧i≤n∧(∀ j (hj:j<l.length),j<i→CloseN l[j])∧Below w.heap.size w wr∧wr.ownsRow w.heap.size 28 3 wv i (ncells ((l.take i).map fN))) (fun _ iv _=>n-(RowKit.intOf iv).toNat)
 case atStart=>exact ⟨0,rfl,Nat.zero_le _,fun j _ h=>by omega,hb,World.ownsRow_nil _ _ _ _⟩
 case round =>
  clear hb;obtain ⟨k,rfl,hk,hnear,hb,hrow⟩:=hrel;have hlen:((l.take k).map fN).length=k:=by rw [List.length_map,List.length_take];omega
  obtain ⟨wd,wc,rfl,hwc,-⟩:=own_nat hlen hrow
  by_cases hkn:k<n
  ·have hkl:k<l.length:=by omega
   obtain ⟨b1,off1,rfl,hl1,hc1,hc2,hc3⟩:=hl k hkl;have HO:=Lib.hid (And.intro hl1 (And.intro hc1 (And.intro hc2 hc3)));rw [← hb.cell hl1] at hc1 hc2 hc3;obtain ⟨⟨m1,s1,e1⟩,hx⟩:∃ q:NV,l[k]=q:=⟨_,rfl⟩;rw [hx] at hc1 hc2 hc3;simp only at hc1 hc2 hc3;have i1:(0:Int)≤(k:Int):=by omega
   have i2:(k:Int)<(n:Int):=by omega
   obtain ⟨f,hf⟩:∃ f,decide (24<s1.size∨e1 < -32000∨32000<e1)=f:=⟨_,rfl⟩;have HF:=Lib.hid (And.intro hf (And.intro hx (And.intro hnear hlen)));clear hf hx hnear hlen;go_wp2_with fail;refine (lfar_any _ m1 s1 e1 f HF.out.1).mono ?_;rintro e W1 ⟨rfl,hq⟩;have hc:=keepc hq ⟨hc1,hc2,hc3⟩;replace hb:=below_next hb hq;replace hrow:=ownsRow_below hrow hq;clear hq hc1 hc2 hc3;obtain ⟨hc1,hc2,hc3⟩:=hc
   cases f
   ·have hcl:CloseN (m1,s1,e1):=by
     have h3:=of_decide_eq_false HF.out.1;unfold CloseN;simp only;omega
    have hnk:∀ j (hj:j<l.length),j<k+1→CloseN l[j]:=fun j hj h=>by
     by_cases h2:j<k
     ·exact HF.out.2.2.1 j hj h2
     ·obtain rfl:j=k:=by omega
      rw [HF.out.2.1];exact hcl
    have hsz:s1.size≤24∧-32000≤e1∧e1≤32000:=hcl;obtain ⟨⟨z,o,x⟩,hz⟩:∃ q:NV,fN (m1,s1,e1)=q:=⟨_,rfl⟩;have hd:df (nv m1 s1 e1)=nu z o x:=by
     have h1:=fN_df (m1,s1,e1);rw [hz] at h1;exact h1
    obtain ⟨t,ht⟩:∃ t,(⟨(numT (wv z o) x).toArray⟩:ByteArray)=t:=⟨_,rfl⟩;have HD:=Lib.hid (And.intro hd (And.intro ht (And.intro hnk (And.intro hcl hz))));clear hd ht hnk hcl hz;go_wp2_with fail;refine (yform_any _ m1 s1 e1 (by omega) (by omega) z o x HD.out.1).mono ?_;rintro e W2 ⟨rfl,hq⟩;have hc:=keepc hq ⟨hc1,hc2,hc3⟩;replace hb:=below_next hb hq;replace hrow:=ownsRow_below hrow hq;clear hq hc1 hc2 hc3;clear hc;have hrow3:=hrow.alloc (.cells #[.bool z,.string o,.int .i64 x] 28);have hnew:=cell_three_new W2 28 (.bool z) (.string o) (.int .i64 x);have HR:=Lib.hid (And.intro hrow3 hnew);have hb3:=hb.alloc hb.size (.cells #[.bool z,.string o,.int .i64 x] 28);have hsz2:=hb.size;clear hrow hrow3 hnew;go_wp2_with (first|(at_builtin;refine wpList_append_own _ rfl (.tmp 34) (.tmp 40) 22 rfl w.heap.size 28 i0 (.agg #[.bool false,.string ⟨#[]⟩,.int .i64 0]) 3 32 Tryz.underlying22 hi0 hy0 hy1 hy2 rfl (by decide) (.slice wd k wc) k _ rfl HR.out.1 ⟨W2.heap.size,0,none⟩ 1 1 [.bool z,.string o,.int .i64 x] rfl rfl HR.out.2 (by intro u hu;simp at hu;rcases hu with rfl|rfl|rfl <;> rfl) (by unfold maxLen;omega) (by omega) (by rw [World.size_alloc];omega) ?_));intro v' w1 hown' hgrow _;have hb4:Below w.heap.size w w1:=hb3.grown hgrow (by rw [World.size_alloc];omega) (fun j hj=>(HR.out.1.lt j hj).1);have htk:(l.take (k+1)).map fN=(l.take k).map fN++[(z,o,x)]:=by
     rw [List.take_succ_eq_append_getElem hkl,List.map_append,HF.out.2.1];show _++[fN (m1,s1,e1)]=_;rw [HD.out.2.2.2.2]
    have hrow4:w1.ownsRow w.heap.size 28 3 v' (k+1) (ncells ((l.take (k+1)).map fN)):=by
     rw [← List.map_take] at hown';rw [htk,ncells_app];exact hown'
    have hlen4:((l.take (k+1)).map fN).length=k+1:=by rw [List.length_map,List.length_take];omega
    obtain ⟨gd,gc,rfl,hgc,hN4⟩:=own_nat hlen4 hrow4;obtain ⟨b2,off2,rfl,hl2,hd1,hd2,hd3⟩:=hN4 k (by omega);have hgk:((l.take (k+1)).map fN)[k]'(by omega)=(z,o,x):=by
     simp only [htk];rw [List.getElem_append_right (by rw [HF.out.2.2.2];exact Nat.le_refl _)];simp
    rw [hgk] at hd1 hd2 hd3;simp only at hd1 hd2 hd3;obtain ⟨ho1,hc1,hc2,hc3⟩:=HO.out;rw [← hb4.cell ho1,HF.out.2.1] at hc1 hc2 hc3;simp only at hc1 hc2 hc3;have HW:=Lib.hid (And.intro hrow4 hb4);have i3:(k:Int)<(k:Int)+1:=by omega
    clear hown' hgrow htk hlen4 hgk hN4 hrow4 hb3 hb;have hcf:=close_form HD.out.2.2.2.1;obtain ⟨p1,p2,-⟩:=df_parts HD.out.1;have hoz:o.size≤24:=by
     have h1:=hcf.2;rw [HD.out.2.2.2.2] at h1;exact h1
    have htl:t.data.toList=numT (wv z o) x:=by
     rw [← HD.out.2.1]
    have hts:t.size≤200:=by
     have h1:=numT_size (z:=z) hoz (x:=x) (by rw [p2];have:=hcf.1;change -32768≤de (nv m1 s1 e1)∧de (nv m1 s1 e1)≤32768 at this;omega);have h2:t.data.toList.length=t.size:=rfl;rw [htl] at h2;omega
    have hdet:Det t z o x 0 0:=det_own (x:=nv m1 s1 e1) (by rw [htl,p1,p2]) hcf.1 HD.out.1;have HE:=Lib.hid hdet;clear hcf p1 p2 htl hdet hoz;go_wp2_with fail;have hin:(w1.drew.cell? ⟨b1,off1+k*3,none⟩=some (.bool m1)∧w1.drew.cell? ⟨b1,off1+k*3+1,none⟩=some (.string s1)∧w1.drew.cell? ⟨b1,off1+k*3+2,none⟩=some (.int .i64 e1))∧(w1.drew.cell? ⟨b2,off2+k*3,none⟩=some (.bool z)∧w1.drew.cell? ⟨b2,off2+k*3+1,none⟩=some (.string o)∧w1.drew.cell? ⟨b2,off2+k*3+2,none⟩=some (.int .i64 x)):=⟨⟨hc1,hc2,hc3⟩,⟨hd1,hd2,hd3⟩⟩;have hbq:Below w1.heap.size w1 w1.drew:=(Below.refl _ _).drew;clear hc1 hc2 hc3 hd1 hd2 hd3
    go_region_held3 (fun w'=>(w'.cell? ⟨b1,off1+k*3,none⟩=some (.bool m1)∧w'.cell? ⟨b1,off1+k*3+1,none⟩=some (.string s1)∧w'.cell? ⟨b1,off1+k*3+2,none⟩=some (.int .i64 e1))∧(w'.cell? ⟨b2,off2+k*3,none⟩=some (.bool z)∧w'.cell? ⟨b2,off2+k*3+1,none⟩=some (.string o)∧w'.cell? ⟨b2,off2+k*3+2,none⟩=some (.int .i64 x)))
     (first|assumption|exact keepd hq (by assumption))
     (first
      | (go_at_call 8;go_fit (lprint_any _ (tab_below htab (below_next hb4 hbq)) m1 s1 e1 (by omega) (by omega) z o x HD.out.1 t HD.out.2.1);rintro e U ⟨rfl,hq⟩;replace hbq:=below_next hbq hq)
      | (go_at_call 14;go_fit (lis_det _ t hts z o x HE.out);rintro e U ⟨rfl,hq⟩;replace hbq:=below_next hbq hq))
    all_goals
     go_wp2;go_roundw
     case rel=>exact ⟨k+1,rfl,hkn,HD.out.2.2.1,below_next HW.out.2 hbq,ownsRow_below HW.out.1 hbq⟩
     case measure=>simp [RowKit.intOf];omega
   ·go_wp2_with fail;refine (lawake_any _ (tab_below htab hb)).mono ?_;rintro e W2 ⟨rfl,hq⟩;replace hb:=below_next hb hq;go_wp2;go_ret;exact ⟨rfl,hb⟩
  ·obtain rfl:k=n:=by omega
   have hall:∀ x∈l,CloseN x:=fun x hx=>by
    obtain ⟨j,hj,rfl⟩:=List.getElem_of_mem hx;exact hnear j hj (by omega)
   have HS1:∀ x∈l,x.2.1.size≤100∧-100000≤x.2.2∧x.2.2≤100000:=fun x hx=>by
    have h:x.2.1.size≤24∧-32000≤x.2.2∧x.2.2≤32000:=hall x hx;omega
   have htk:l.take k=l:=List.take_of_length_le (by omega);rw [htk] at hrow;have hlm:(l.map fN).length=k:=by rw [List.length_map];exact hn
   obtain ⟨wd',wc',he,-,hN⟩:=own_nat hlm hrow
   injection he with he
   subst he;obtain ⟨t,ht⟩:∃ t,rowB l=t:=⟨_,rfl⟩;have hsr:=fun W=>lsplit_row W l (by omega) hall;rw [ht,hn] at hsr;have HA:=Lib.hid (And.intro HS1 (And.intro ht (And.intro hlm hsr)));clear hnear hall htk hrow HS1 hlen ht hlm hsr;go_wp2_with fail;refine (lrow_any _ (tab_below htab hb) ad k c l (hl.below hb) HN.out (by omega) HA.out.1 t HA.out.2.1).mono ?_;rintro e U1 ⟨rfl,hq⟩;replace hb:=below_next hb hq;replace hN:=hN.below hq;clear hq;go_wp2_with fail;refine (HA.out.2.2.2 _).mono ?_;rintro e U2 ⟨md,mc,rfl,hM,hq⟩;replace hb:=below_next hb hq;replace hN:=hN.below hq;clear hq;go_wp2_with fail;refine (lsame_any _ md wd k mc wc' (l.map fN) hM hN HA.out.2.2.1 (by omega)).mono ?_;rintro e U3 ⟨rfl,hq⟩;replace hb:=below_next hb hq;clear hq hM hN;go_wp2_with fail;refine (lparse_any _ s (by omega)).mono ?_;rintro e U4 ⟨k',r,z,o,x,p,cc,rfl,hP,hL,hq⟩;replace hb:=below_next hb hq;clear hq;have hX:=Nk.new U4 z o x;replace hb:=hb.alloc hb.size (.cells #[.bool z,.string o,.int .i64 x] 28)
   by_cases hcc:cc=0
   ·subst hcc;obtain ⟨hp0,X,hXd⟩:p=0∧∃ X,df X=nu z o x:=by
     rcases lit_kinds hL with h|h
     ·exact h.2
     ·exact absurd rfl h.1
    obtain ⟨hos,hx1,hx2⟩:=lit_bounds (show s.data.toList.length≤60 by show s.size≤60;omega) hL;subst hp0;obtain ⟨g1,g2,g3,-⟩:=df_parts hXd;obtain ⟨tx,htx⟩:∃ tx,(⟨(numT (wv z o) x).toArray⟩:ByteArray)=tx:=⟨_,rfl⟩;have hts:tx.size≤200:=by
     have h1:=numT_size (z:=z) hos (x:=x) (by omega);have h2:(numT (wv z o) x).length=tx.size:=by rw [← htx];rfl
     omega
    have hdx:df (nv z o x)=nu z o x:=by rw [g3];exact hXd
    have HY:=Lib.hid (And.intro hdx (And.intro htx (And.intro hXd (And.intro g1 g2))));clear hP hL hdx htx hXd g1 g2 g3;have hcell:=hX.cells;go_wp2_with fail;generalize U4.alloc (.cells #[.bool z,.string o,.int .i64 x] 28)=W5 at *;generalize U4.heap.size=PX at *;replace hb:=hb.drew;have hin:W5.drew.cell? ⟨PX,0,none⟩=some (.bool z)∧W5.drew.cell? ⟨PX,1,none⟩=some (.string o)∧W5.drew.cell? ⟨PX,2,none⟩=some (.int .i64 x):=hcell;clear hcell
    rcases (show (decide (x < -32768)=true)∨(decide (x < -32768)=false∧decide (32768<x)=true)∨(decide (x < -32768)=false∧decide (32768<x)=false) by simp only [decide_eq_true_eq,decide_eq_false_iff_not];omega) with d4|⟨d4,d5⟩|⟨d4,d5⟩
    ·have hmix:Tryz.prog.follows .mixedOrders=true:=by kernel_rfl
     clear hx1 hx2 hin
     refine region_lin (n:=22) [0,1,2,3,4,5,6,7,8,9,10,11,12,13,14,15,16,17,18,19,20,21] (fun L ac Wn=>∃ l0 l1 l2 l3 l4 l5 l6 l7 l8 l9 l10 l11 l12 l13 l14 l15 l16 l17 l18 l19 l20 l21:Bool,L=#[l0,l1,l2,l3,l4,l5,l6,l7,l8,l9,l10,l11,l12,l13,l14,l15,l16,l17,l18,l19,l20,l21]∧ac={tmps:=#[.slice ad k c,.string s,undef,undef,sel l21 (.bool true) (u4),.slice wd k wc',.int .i64 ↑k,.slice md k mc,.int .i64 0,.int .i64 0,.pointer (some ⟨PX,0,none⟩),.int .i64 0,.int .i64 0,.slice ad k c,.int .i64 ↑k,.bool false,.bool false,.string s,.int .i64 ↑s.size,.bool false,.bool false,undef,.int .i64 ↑k,.slice ad k c,.int .i64 ↑k,.bool false,u26,u27,u28,u29,u30,u31,u32,u33,u34,u35,u36,u37,u38,u39,u40,u41,u42,u43,u44,u45,u46,u47,u48,u49,u50,u51,u52,.tuple #[.slice md k mc,.int .i64 0,.int .i64 0],.slice ad k c,.string t,.tuple #[.slice md k mc,.int .i64 0,.int .i64 0],.slice md k mc,.int .i64 0,.int .i64 0,.int .i64 0,.bool false,.bool false,.int .i64 0,.bool false,.bool false,.bool false,.slice md k mc,.slice wd k wc',.bool true,.bool false,.bool false,.tuple #[.agg #[.bool z,.string o,.int .i64 x],.int .i64 0,.int .i64 0],.string s,.tuple #[.agg #[.bool z,.string o,.int .i64 x],.int .i64 0,.int .i64 0],.agg #[.bool z,.string o,.int .i64 x],.int .i64 0,.int .i64 0,.int .i64 0,.bool false,undef,undef,undef,undef,undef,undef,sel l0 (.int .i64 0) (undef),sel l1 (.bool true) (undef),sel l2 (.bool true) (undef),sel l3 (.pointer (some { block:=PX,off:=2 })) (undef),sel l4 (.int .i64 x) (undef),sel l5 (.bool true) (undef),sel l6 (.bool true) (undef),sel l7 (undef) (undef),sel l8 (undef) (undef),sel l9 (undef) (undef),sel l10 (.bool true) (undef),sel l11 (.bool true) (undef),sel l12 (undef) (undef),sel l13 (undef) (undef),sel l14 (undef) (undef),sel l15 (undef) (undef),sel l16 (.bool true) (undef),sel l17 (.bool true) (undef),sel l18 (.bool true) (undef),sel l19 (.bool true) (undef),sel l20 (.bool true) (undef)],defers:=[] }∧Below (w.heap.size) w Wn∧(Nk Wn PX z o x)) hmix (by kernel_rfl) (by kernel_rfl) (by kernel_rfl) ?_ ?_ ?_
     ·exact ⟨false,false,false,false,false,false,false,false,false,false,false,false,false,false,false,false,false,false,false,false,false,false,by kernel_rfl,by kernel_rfl,hb,hX.drew⟩
     ·refine lc [] [1,2,3,4,5,6,7,8,9,10,11,12,13,14,15,16,17,18,19,20,21] ?_ ?_
      ·rintro L ac Wn ⟨l0,l1,l2,l3,l4,l5,l6,l7,l8,l9,l10,l11,l12,l13,l14,l15,l16,l17,l18,l19,l20,l21,rfl,hI⟩ rfl - ⟨rfl,rfl,rfl,rfl,rfl,rfl,rfl,rfl,rfl,rfl,rfl,rfl,rfl,rfl,rfl,rfl,rfl,rfl,rfl,rfl,rfl,-⟩ Kc hK;simp only [sel_f] at hI;obtain ⟨rfl,hb,hX⟩:=hI;refine ly (.int .i64 0) ?_;exact hK.out _ _ ⟨true,false,false,false,false,false,false,false,false,false,false,false,false,false,false,false,false,false,false,false,false,false,by kernel_rfl,by kernel_rfl,hb,hX⟩
      refine lc [0] [2,3,4,5,6,7,8,9,10,11,12,13,14,15,16,17,18,19,20,21] ?_ ?_
      ·rintro L ac Wn ⟨l0,l1,l2,l3,l4,l5,l6,l7,l8,l9,l10,l11,l12,l13,l14,l15,l16,l17,l18,l19,l20,l21,rfl,hI⟩ rfl ⟨rfl,-⟩ ⟨rfl,rfl,rfl,rfl,rfl,rfl,rfl,rfl,rfl,rfl,rfl,rfl,rfl,rfl,rfl,rfl,rfl,rfl,rfl,rfl,-⟩ Kc hK;simp only [sel_t,sel_f] at hI;obtain ⟨rfl,hb,hX⟩:=hI;refine ly (.bool true) ?_;exact hK.out _ _ ⟨true,true,false,false,false,false,false,false,false,false,false,false,false,false,false,false,false,false,false,false,false,false,by kernel_rfl,by kernel_rfl,hb,hX⟩
      refine lc [0,1] [3,4,5,6,7,8,9,10,11,12,13,14,15,16,17,18,19,20,21] ?_ ?_
      ·rintro L ac Wn ⟨l0,l1,l2,l3,l4,l5,l6,l7,l8,l9,l10,l11,l12,l13,l14,l15,l16,l17,l18,l19,l20,l21,rfl,hI⟩ rfl ⟨rfl,rfl,-⟩ ⟨rfl,rfl,rfl,rfl,rfl,rfl,rfl,rfl,rfl,rfl,rfl,rfl,rfl,rfl,rfl,rfl,rfl,rfl,rfl,-⟩ Kc hK;simp only [sel_t,sel_f] at hI;obtain ⟨rfl,hb,hX⟩:=hI;refine ly (.bool true) ?_;exact hK.out _ _ ⟨true,true,true,false,false,false,false,false,false,false,false,false,false,false,false,false,false,false,false,false,false,false,by kernel_rfl,by kernel_rfl,hb,hX⟩
      refine lc [0,1,2] [4,5,6,7,8,9,10,11,12,13,14,15,16,17,18,19,20,21] ?_ ?_
      ·rintro L ac Wn ⟨l0,l1,l2,l3,l4,l5,l6,l7,l8,l9,l10,l11,l12,l13,l14,l15,l16,l17,l18,l19,l20,l21,rfl,hI⟩ rfl ⟨rfl,rfl,rfl,-⟩ ⟨rfl,rfl,rfl,rfl,rfl,rfl,rfl,rfl,rfl,rfl,rfl,rfl,rfl,rfl,rfl,rfl,rfl,rfl,-⟩ Kc hK;simp only [sel_t,sel_f] at hI;obtain ⟨rfl,hb,hX⟩:=hI;refine ly (.pointer (some { block:=PX,off:=2 })) ?_;exact hK.out _ _ ⟨true,true,true,true,false,false,false,false,false,false,false,false,false,false,false,false,false,false,false,false,false,false,by kernel_rfl,by kernel_rfl,hb,hX⟩
      refine lc [0,1,2,3] [5,6,7,8,9,10,11,12,13,14,15,16,17,18,19,20,21] ?_ ?_
      ·rintro L ac Wn ⟨l0,l1,l2,l3,l4,l5,l6,l7,l8,l9,l10,l11,l12,l13,l14,l15,l16,l17,l18,l19,l20,l21,rfl,hI⟩ rfl ⟨rfl,rfl,rfl,rfl,-⟩ ⟨rfl,rfl,rfl,rfl,rfl,rfl,rfl,rfl,rfl,rfl,rfl,rfl,rfl,rfl,rfl,rfl,rfl,-⟩ Kc hK;simp only [sel_t,sel_f] at hI;obtain ⟨rfl,hb,hX⟩:=hI;obtain ⟨q0,q1,q2,q3,q4,q5⟩:=(hX).facts;refine ly (.int .i64 x) ?_;exact hK.out _ _ ⟨true,true,true,true,true,false,false,false,false,false,false,false,false,false,false,false,false,false,false,false,false,false,by kernel_rfl,by kernel_rfl,hb,hX⟩
      refine lc [0,1,2,3,4] [6,7,8,9,10,11,12,13,14,15,16,17,18,19,20,21] ?_ ?_
      ·rintro L ac Wn ⟨l0,l1,l2,l3,l4,l5,l6,l7,l8,l9,l10,l11,l12,l13,l14,l15,l16,l17,l18,l19,l20,l21,rfl,hI⟩ rfl ⟨rfl,rfl,rfl,rfl,rfl,-⟩ ⟨rfl,rfl,rfl,rfl,rfl,rfl,rfl,rfl,rfl,rfl,rfl,rfl,rfl,rfl,rfl,rfl,-⟩ Kc hK;simp only [sel_t,sel_f] at hI;obtain ⟨rfl,hb,hX⟩:=hI;refine ly (.bool true) ?_;exact hK.out _ _ ⟨true,true,true,true,true,true,false,false,false,false,false,false,false,false,false,false,false,false,false,false,false,false,by kernel_rfl,by kernel_rfl,hb,hX⟩
      refine lc [0,1,2,3,4,5] [7,8,9,10,11,12,13,14,15,16,17,18,19,20,21] ?_ ?_
      ·rintro L ac Wn ⟨l0,l1,l2,l3,l4,l5,l6,l7,l8,l9,l10,l11,l12,l13,l14,l15,l16,l17,l18,l19,l20,l21,rfl,hI⟩ rfl ⟨rfl,rfl,rfl,rfl,rfl,rfl,-⟩ ⟨rfl,rfl,rfl,rfl,rfl,rfl,rfl,rfl,rfl,rfl,rfl,rfl,rfl,rfl,rfl,-⟩ Kc hK;simp only [sel_t,sel_f] at hI;obtain ⟨rfl,hb,hX⟩:=hI;refine ly (.bool true) ?_;exact hK.out _ _ ⟨true,true,true,true,true,true,true,false,false,false,false,false,false,false,false,false,false,false,false,false,false,false,by kernel_rfl,by kernel_rfl,hb,hX⟩
      refine lc [0,1,2,3,4,5,6] [8,9,10,11,12,13,14,15,16,17,18,19,20,21] ?_ ?_
      ·rintro L ac Wn ⟨l0,l1,l2,l3,l4,l5,l6,l7,l8,l9,l10,l11,l12,l13,l14,l15,l16,l17,l18,l19,l20,l21,rfl,hI⟩ rfl ⟨rfl,rfl,rfl,rfl,rfl,rfl,rfl,-⟩ ⟨rfl,rfl,rfl,rfl,rfl,rfl,rfl,rfl,rfl,rfl,rfl,rfl,rfl,rfl,-⟩ Kc hK;simp only [sel_t,sel_f] at hI;obtain ⟨rfl,hb,hX⟩:=hI;refine lin_skip rfl ?_;exact hK.out _ _ ⟨true,true,true,true,true,true,true,true,false,false,false,false,false,false,false,false,false,false,false,false,false,false,by kernel_rfl,by kernel_rfl,hb,hX⟩
      refine lc [0,1,2,3,4,5,6,7] [9,10,11,12,13,14,15,16,17,18,19,20,21] ?_ ?_
      ·rintro L ac Wn ⟨l0,l1,l2,l3,l4,l5,l6,l7,l8,l9,l10,l11,l12,l13,l14,l15,l16,l17,l18,l19,l20,l21,rfl,hI⟩ rfl ⟨rfl,rfl,rfl,rfl,rfl,rfl,rfl,rfl,-⟩ ⟨rfl,rfl,rfl,rfl,rfl,rfl,rfl,rfl,rfl,rfl,rfl,rfl,rfl,-⟩ Kc hK;simp only [sel_t,sel_f] at hI;obtain ⟨rfl,hb,hX⟩:=hI;refine lin_skip rfl ?_;exact hK.out _ _ ⟨true,true,true,true,true,true,true,true,true,false,false,false,false,false,false,false,false,false,false,false,false,false,by kernel_rfl,by kernel_rfl,hb,hX⟩
      refine lc [0,1,2,3,4,5,6,7,8] [10,11,12,13,14,15,16,17,18,19,20,21] ?_ ?_
      ·rintro L ac Wn ⟨l0,l1,l2,l3,l4,l5,l6,l7,l8,l9,l10,l11,l12,l13,l14,l15,l16,l17,l18,l19,l20,l21,rfl,hI⟩ rfl ⟨rfl,rfl,rfl,rfl,rfl,rfl,rfl,rfl,rfl,-⟩ ⟨rfl,rfl,rfl,rfl,rfl,rfl,rfl,rfl,rfl,rfl,rfl,rfl,-⟩ Kc hK;simp only [sel_t,sel_f] at hI;obtain ⟨rfl,hb,hX⟩:=hI;refine lin_skip rfl ?_;exact hK.out _ _ ⟨true,true,true,true,true,true,true,true,true,true,false,false,false,false,false,false,false,false,false,false,false,false,by kernel_rfl,by kernel_rfl,hb,hX⟩
      refine lc [0,1,2,3,4,5,6,7,8,9] [11,12,13,14,15,16,17,18,19,20,21] ?_ ?_
      ·rintro L ac Wn ⟨l0,l1,l2,l3,l4,l5,l6,l7,l8,l9,l10,l11,l12,l13,l14,l15,l16,l17,l18,l19,l20,l21,rfl,hI⟩ rfl ⟨rfl,rfl,rfl,rfl,rfl,rfl,rfl,rfl,rfl,rfl,-⟩ ⟨rfl,rfl,rfl,rfl,rfl,rfl,rfl,rfl,rfl,rfl,rfl,-⟩ Kc hK;simp only [sel_t,sel_f] at hI;obtain ⟨rfl,hb,hX⟩:=hI;refine ly (.bool true) ?_;exact hK.out _ _ ⟨true,true,true,true,true,true,true,true,true,true,true,false,false,false,false,false,false,false,false,false,false,false,by kernel_rfl,by kernel_rfl,hb,hX⟩
      refine lc [0,1,2,3,4,5,6,7,8,9,10] [12,13,14,15,16,17,18,19,20,21] ?_ ?_
      ·rintro L ac Wn ⟨l0,l1,l2,l3,l4,l5,l6,l7,l8,l9,l10,l11,l12,l13,l14,l15,l16,l17,l18,l19,l20,l21,rfl,hI⟩ rfl ⟨rfl,rfl,rfl,rfl,rfl,rfl,rfl,rfl,rfl,rfl,rfl,-⟩ ⟨rfl,rfl,rfl,rfl,rfl,rfl,rfl,rfl,rfl,rfl,-⟩ Kc hK;simp only [sel_t,sel_f] at hI;obtain ⟨rfl,hb,hX⟩:=hI;refine ly (.bool true) ?_;exact hK.out _ _ ⟨true,true,true,true,true,true,true,true,true,true,true,true,false,false,false,false,false,false,false,false,false,false,by kernel_rfl,by kernel_rfl,hb,hX⟩
      refine lc [0,1,2,3,4,5,6,7,8,9,10,11] [13,15,16,17,18,19,20,21] ?_ ?_
      ·rintro L ac Wn ⟨l0,l1,l2,l3,l4,l5,l6,l7,l8,l9,l10,l11,l12,l13,l14,l15,l16,l17,l18,l19,l20,l21,rfl,hI⟩ rfl ⟨rfl,rfl,rfl,rfl,rfl,rfl,rfl,rfl,rfl,rfl,rfl,rfl,-⟩ ⟨rfl,rfl,rfl,rfl,rfl,rfl,rfl,rfl,-⟩ Kc hK;simp only [sel_t,sel_f] at hI;obtain ⟨rfl,hb,hX⟩:=hI;refine lin_skip rfl ?_;exact hK.out _ _ ⟨true,true,true,true,true,true,true,true,true,true,true,true,true,false,l14,false,false,false,false,false,false,false,by kernel_rfl,by kernel_rfl,hb,hX⟩
      refine lc [0,1,2,3,4,5,6,7,8,9,10,11,12] [15,16,17,18,19,20,21] ?_ ?_
      ·rintro L ac Wn ⟨l0,l1,l2,l3,l4,l5,l6,l7,l8,l9,l10,l11,l12,l13,l14,l15,l16,l17,l18,l19,l20,l21,rfl,hI⟩ rfl ⟨rfl,rfl,rfl,rfl,rfl,rfl,rfl,rfl,rfl,rfl,rfl,rfl,rfl,-⟩ ⟨rfl,rfl,rfl,rfl,rfl,rfl,rfl,-⟩ Kc hK;simp only [sel_t,sel_f] at hI;obtain ⟨rfl,hb,hX⟩:=hI;refine lin_skip rfl ?_;exact hK.out _ _ ⟨true,true,true,true,true,true,true,true,true,true,true,true,true,true,l14,false,false,false,false,false,false,false,by kernel_rfl,by kernel_rfl,hb,hX⟩
      refine lc [0,1,2,3,4,5,6,7,8,9,10,11] [15,16,17,18,19,20,21] ?_ ?_
      ·rintro L ac Wn ⟨l0,l1,l2,l3,l4,l5,l6,l7,l8,l9,l10,l11,l12,l13,l14,l15,l16,l17,l18,l19,l20,l21,rfl,hI⟩ rfl ⟨rfl,rfl,rfl,rfl,rfl,rfl,rfl,rfl,rfl,rfl,rfl,rfl,-⟩ ⟨rfl,rfl,rfl,rfl,rfl,rfl,rfl,-⟩ Kc hK;simp only [sel_t,sel_f] at hI;obtain ⟨rfl,hb,hX⟩:=hI;refine lin_skip rfl ?_;exact hK.out _ _ ⟨true,true,true,true,true,true,true,true,true,true,true,true,l12,l13,true,false,false,false,false,false,false,false,by kernel_rfl,by kernel_rfl,hb,hX⟩
      refine lc [0,1,2,3,4,5,6,7,8,9,10,11,12,13,14] [16,17,18,19,20,21] ?_ ?_
      ·rintro L ac Wn ⟨l0,l1,l2,l3,l4,l5,l6,l7,l8,l9,l10,l11,l12,l13,l14,l15,l16,l17,l18,l19,l20,l21,rfl,hI⟩ rfl ⟨rfl,rfl,rfl,rfl,rfl,rfl,rfl,rfl,rfl,rfl,rfl,rfl,rfl,rfl,rfl,-⟩ ⟨rfl,rfl,rfl,rfl,rfl,rfl,-⟩ Kc hK;simp only [sel_t,sel_f] at hI;obtain ⟨rfl,hb,hX⟩:=hI;refine lin_skip rfl ?_;exact hK.out _ _ ⟨true,true,true,true,true,true,true,true,true,true,true,true,true,true,true,true,false,false,false,false,false,false,by kernel_rfl,by kernel_rfl,hb,hX⟩
      refine lc [0,1,2,3,4,5,6,7,8,9,10,11,12,13,14,15] [17,18,19,20,21] ?_ ?_
      ·rintro L ac Wn ⟨l0,l1,l2,l3,l4,l5,l6,l7,l8,l9,l10,l11,l12,l13,l14,l15,l16,l17,l18,l19,l20,l21,rfl,hI⟩ rfl ⟨rfl,rfl,rfl,rfl,rfl,rfl,rfl,rfl,rfl,rfl,rfl,rfl,rfl,rfl,rfl,rfl,-⟩ ⟨rfl,rfl,rfl,rfl,rfl,-⟩ Kc hK;simp only [sel_t,sel_f] at hI;obtain ⟨rfl,hb,hX⟩:=hI;refine ly (.bool true) ?_;exact hK.out _ _ ⟨true,true,true,true,true,true,true,true,true,true,true,true,true,true,true,true,true,false,false,false,false,false,by kernel_rfl,by kernel_rfl,hb,hX⟩
      refine lc [0,1,2,3,4,5,6,7,8,9,10,11,12,13,14,15,16] [18,19,20,21] ?_ ?_
      ·rintro L ac Wn ⟨l0,l1,l2,l3,l4,l5,l6,l7,l8,l9,l10,l11,l12,l13,l14,l15,l16,l17,l18,l19,l20,l21,rfl,hI⟩ rfl ⟨rfl,rfl,rfl,rfl,rfl,rfl,rfl,rfl,rfl,rfl,rfl,rfl,rfl,rfl,rfl,rfl,rfl,-⟩ ⟨rfl,rfl,rfl,rfl,-⟩ Kc hK;simp only [sel_t,sel_f] at hI;obtain ⟨rfl,hb,hX⟩:=hI;refine ly (.bool true) ?_;exact hK.out _ _ ⟨true,true,true,true,true,true,true,true,true,true,true,true,true,true,true,true,true,true,false,false,false,false,by kernel_rfl,by kernel_rfl,hb,hX⟩
      refine lc [0,1,2,3,4,5,6,7,8,9,10,11,12,13,14,15,16,17] [19,20,21] ?_ ?_
      ·rintro L ac Wn ⟨l0,l1,l2,l3,l4,l5,l6,l7,l8,l9,l10,l11,l12,l13,l14,l15,l16,l17,l18,l19,l20,l21,rfl,hI⟩ rfl ⟨rfl,rfl,rfl,rfl,rfl,rfl,rfl,rfl,rfl,rfl,rfl,rfl,rfl,rfl,rfl,rfl,rfl,rfl,-⟩ ⟨rfl,rfl,rfl,-⟩ Kc hK;simp only [sel_t,sel_f] at hI;obtain ⟨rfl,hb,hX⟩:=hI;refine ly (.bool true) ?_;exact hK.out _ _ ⟨true,true,true,true,true,true,true,true,true,true,true,true,true,true,true,true,true,true,true,false,false,false,by kernel_rfl,by kernel_rfl,hb,hX⟩
      refine lc [0,1,2,3,4,5,6,7,8,9,10,11,12,13,14,15,16,17,18] [20,21] ?_ ?_
      ·rintro L ac Wn ⟨l0,l1,l2,l3,l4,l5,l6,l7,l8,l9,l10,l11,l12,l13,l14,l15,l16,l17,l18,l19,l20,l21,rfl,hI⟩ rfl ⟨rfl,rfl,rfl,rfl,rfl,rfl,rfl,rfl,rfl,rfl,rfl,rfl,rfl,rfl,rfl,rfl,rfl,rfl,rfl,-⟩ ⟨rfl,rfl,-⟩ Kc hK;simp only [sel_t,sel_f] at hI;obtain ⟨rfl,hb,hX⟩:=hI;go_simp;go_fit (lawake_any _ (tab_below htab hb));rintro e V ⟨rfl,hq⟩;exact hK.out _ _ ⟨true,true,true,true,true,true,true,true,true,true,true,true,true,true,true,true,true,true,true,true,false,false,by kernel_rfl,by kernel_rfl,(below_next hb hq),(hX.below hq)⟩
      refine lc [0,1,2,3,4,5,6,7,8,9,10,11,12,13,14,15,16,17,18,19] [21] ?_ ?_
      ·rintro L ac Wn ⟨l0,l1,l2,l3,l4,l5,l6,l7,l8,l9,l10,l11,l12,l13,l14,l15,l16,l17,l18,l19,l20,l21,rfl,hI⟩ rfl ⟨rfl,rfl,rfl,rfl,rfl,rfl,rfl,rfl,rfl,rfl,rfl,rfl,rfl,rfl,rfl,rfl,rfl,rfl,rfl,rfl,-⟩ ⟨rfl,-⟩ Kc hK;simp only [sel_t,sel_f] at hI;obtain ⟨rfl,hb,hX⟩:=hI;refine ly (.bool true) ?_;exact hK.out _ _ ⟨true,true,true,true,true,true,true,true,true,true,true,true,true,true,true,true,true,true,true,true,true,false,by kernel_rfl,by kernel_rfl,hb,hX⟩
      refine ln [0,1,2,3,4,5,6,7,8,9,10,11,12,13,14,15,16,17,18,19,20] [] ?_;rintro L ac Wn ⟨l0,l1,l2,l3,l4,l5,l6,l7,l8,l9,l10,l11,l12,l13,l14,l15,l16,l17,l18,l19,l20,l21,rfl,hI⟩ rfl ⟨rfl,rfl,rfl,rfl,rfl,rfl,rfl,rfl,rfl,rfl,rfl,rfl,rfl,rfl,rfl,rfl,rfl,rfl,rfl,rfl,rfl,-⟩ - Kc hK;simp only [sel_t,sel_f] at hI;obtain ⟨rfl,hb,hX⟩:=hI;refine ly (.bool true) ?_;exact hK.out _ _ ⟨true,true,true,true,true,true,true,true,true,true,true,true,true,true,true,true,true,true,true,true,true,true,by kernel_rfl,by kernel_rfl,hb,hX⟩
     ·intro L ac Wn hI hall;obtain ⟨l0,l1,l2,l3,l4,l5,l6,l7,l8,l9,l10,l11,l12,l13,l14,l15,l16,l17,l18,l19,l20,l21,rfl,hI⟩:=hI;obtain ⟨rfl,rfl,rfl,rfl,rfl,rfl,rfl,rfl,rfl,rfl,rfl,rfl,rfl,rfl,rfl,rfl,rfl,rfl,rfl,rfl,rfl,rfl,-⟩:l0=true∧l1=true∧l2=true∧l3=true∧l4=true∧l5=true∧l6=true∧l7=true∧l8=true∧l9=true∧l10=true∧l11=true∧l12=true∧l13=true∧l14=true∧l15=true∧l16=true∧l17=true∧l18=true∧l19=true∧l20=true∧l21=true∧True:=hall;simp only [sel_t] at hI;obtain ⟨rfl,hb,hX⟩:=hI;go_wp2;go_ret;exact ⟨rfl,hb⟩
    ·have d6:=of_decide_eq_true d5;clear hx1 hx2 d5;obtain ⟨hX0,hX1,hX2⟩:=hin
     go_region_with (go_at_call 6;refine (lawake_any _ (tab_below htab hb)).mono ?_;rintro e U ⟨rfl,hq⟩;replace hb:=below_next hb hq)
     all_goals
      go_wp2;go_ret;exact ⟨rfl,hb⟩
    ·have hde:-32768≤x∧x≤32768:=by
      simp only [decide_eq_false_iff_not] at d4 d5;omega
     have hdet:Det tx z o x 0 0:=det_own (x:=X) (by rw [← HY.out.2.1,HY.out.2.2.2.1,HY.out.2.2.2.2]) (by rw [← HY.out.2.2.2.2];exact hde) HY.out.2.2.1;have HE:=Lib.hid hdet;clear hdet hx1 hx2
     go_region_held3 (fun w'=>w'.cell? ⟨PX,0,none⟩=some (.bool z)∧w'.cell? ⟨PX,1,none⟩=some (.string o)∧w'.cell? ⟨PX,2,none⟩=some (.int .i64 x))
      (first|assumption|exact keepc hq (by assumption))
      (first
       | (go_at_call 8;go_fit (lprint_any _ (tab_below htab hb) z o x (by omega) (by omega) z o x HY.out.1 tx HY.out.2.1);rintro e U ⟨rfl,hq⟩;replace hb:=below_next hb hq)
       | (go_at_call 14;go_fit (lis_det _ tx hts z o x HE.out);rintro e U ⟨rfl,hq⟩;replace hb:=below_next hb hq)
       | (go_at_call 6;go_fit (lawake_any _ (tab_below htab hb));rintro e U ⟨rfl,hq⟩;replace hb:=below_next hb hq))
     all_goals
      go_wp2;go_ret;exact ⟨rfl,hb⟩
   ·rcases lit_kinds hL with h|⟨-,rfl,rfl,rfl⟩
    ·exact absurd h.1 hcc
    obtain ⟨hX0,hX1,hX2⟩:=hX.cells;clear hP hL;go_wp2_with fail;refine (lawake_any _ (tab_below htab hb)).mono ?_;rintro e U5 ⟨rfl,hq⟩;replace hb:=below_next hb hq;go_wp2;go_ret;exact ⟨rfl,hb⟩
end Go.Proofs.YtiddgplapodleaaGreatDoor
