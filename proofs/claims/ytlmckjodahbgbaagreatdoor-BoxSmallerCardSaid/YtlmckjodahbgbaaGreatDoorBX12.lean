/- BoxSmaller (package ogeelaw11). -/
import Derived.Test.YtlmckjodahbgbaaGreatDoorBX10
namespace Go.Proofs.YtlmckjodahbgbaaGreatDoor
set_option maxRecDepth 100000
set_option maxHeartbeats 6400000
open Go.RowKit Go.Shelf
theorem dhalf_rat (x:Dyadic):(dhalf x).toRat=x.toRat / 2:=by
 unfold dhalf;rw [Dyadic.toRat_mul,ofI_toRat];rw [show (2:Rat) ^ (-(1:Int))=1 / 2 by rw [Rat.zpow_neg,Rat.zpow_one];grind]
 grind
theorem nv_twice (m:Bool) (s:ByteArray) (e:Int):nv m s (e+1)=nv m s e+nv m s e:=by
 have h:=nv_halved m s (e+1);rw [show e+1+-1=e by omega] at h;have h2:(nv m s e).toRat=(nv m s (e+1)).toRat / 2:=by rw [h,dhalf_rat]
 rw [← Dyadic.toRat_inj,Dyadic.toRat_add]
 grind
theorem withB_self (l:List SV):withB l l=true:=by
 rw [withB_iff];refine ⟨rfl,fun i h1 h2=>?_⟩;have a:=dlo_spec (nvl l[i].1) (nvl l[i].2);have b:=dhi_spec (nvl l[i].1) (nvl l[i].2);rw [wiS_iff];exact ⟨⟨a.1,b.1⟩,a.2.1,b.2.1⟩
theorem boxsmaller_law (w:World) (ad:Option Addr) (l:List SV) (n c:Nat) (hn:l.length=n) (_hc:n≤c∧(ad=none→c=0)) (hl:SAt w ad l) (hm:n≤maxLen) (_hw:∀ x∈l,(x.1.2.1.size≤maxLen∧(Lit.int .i64 x.1.2.2).wf=true)∧(x.2.2.1.size≤maxLen∧(Lit.int .i64 x.2.2.2).wf=true))
  (z:Int) (_hz:(Lit.int .i64 z).wf=true) :
  Calls Tryz.prog 8 #[.slice ad n c,.int .i64 z] w (Ret (.bool true) w):=by
 have hv:=vast_any w ad none l [] n c 0 0 hn rfl hm (Nat.zero_le _) hl (fun i h=>absurd h (Nat.not_lt_zero _));obtain ⟨r,hr⟩:∃ r,vastB l []=r:=⟨_,rfl⟩;rw [hr] at hv;have HR:=Lib.hid hr;clear hr _hw hm _hc _hz;go_enter Tryz.func8,Tryz.ntmps8;go_wp2_with fail;refine hv.mono ?_;rintro e W ⟨rfl,hb⟩;clear hv
 cases r with
 | true =>
  have ha:=awake_any W;clear hl HR;go_wp2_with fail;refine ha.mono ?_;rintro e W2 ⟨rfl,hq⟩;go_wp2;go_ret;exact ⟨rfl,below_next hb hq⟩
 | false =>
  obtain ⟨h8,-,hs,-⟩:=vast_no HR.out;clear HR
  by_cases hn0:n=0
  ·subst hn0;have ha:=awake_any W;clear hl hs;go_wp2_with fail;refine ha.mono ?_;rintro e W2 ⟨rfl,hq⟩;go_wp2;go_ret;exact ⟨rfl,below_next hb hq⟩
  have hn1:¬(n:Int)=0:=by omega
  have hne:∀ m:List SV,m.length=n→m≠[]:=fun m h e=>by subst e;exact hn0 h.symm
  have hc:=bwidest_any W ad l n c hn (by omega) (hl.below hb) hs (by decide) (by decide);have HS:=Lib.hid (And.intro hs hne);clear hs hne hn0;go_wp2_with fail;refine hc.mono ?_;rintro e W2 ⟨r,rfl,hr,hq⟩;replace hb:=below_next hb hq;clear hc hq
  rcases hr with ⟨h0,-⟩|⟨a,ha,rfl,hmx,-⟩
  ·exact absurd h0 (HS.out.2 l hn)
  have ha1:¬(a:Int)<0:=by omega
  have ha2:¬(n:Int)≤a:=by omega
  have ha3:(a:Int)<n:=by omega
  obtain ⟨lb,lo,had,hlb,⟨c0,c1,c2⟩,c3,c4,c5⟩:=hl a ha;have hcw:=c_width W2 l[a] (HS.out.1 _ (List.getElem_mem ha)).o2.o3;have hwb:=(HS.out.1 _ (List.getElem_mem ha)).width.canon;obtain ⟨R,hR⟩:∃ R,(wS l[a]).toRat=R:=⟨_,rfl⟩;rw [hR] at hmx;have hR2:(nvl (canonN (wS l[a]))).toRat=R:=by rw [nvl_canon,hR]
  generalize canonN (wS l[a])=y at *;clear hR;generalize l[a]=x at *;obtain ⟨mw,sw,dw⟩:=y;obtain ⟨⟨m,s,d⟩,n1,t,e⟩:=x;simp only at c0 c1 c2 c3 c4 c5 hwb;replace hcw:Calls Tryz.prog 39 #[.agg #[.bool m,.string s,.int .i64 d,.bool n1,.string t,.int .i64 e]] W2 (Ret (.agg #[.bool mw,.string sw,.int .i64 dw]) W2):=hcw;rw [← hb.cell hlb] at c0 c1 c2 c3 c4 c5;have HM:=Lib.hid (And.intro hmx (And.intro hR2 hwb));clear hmx hR2 hwb;subst had;go_wp2_with fail;refine hcw.mono ?_;rintro e' W3 ⟨rfl,hq⟩;replace hb:=below_next hb hq;clear hcw hq c0 c1 c2 c3 c4 c5 ha1 ha2 ha3;have hN:=Nk.new W3 mw sw dw;have hq0:w.heap.size≤W3.heap.size:=hb.size;replace hb:=hb.alloc hb.size (.cells #[.bool mw,.string sw,.int .i64 dw] 36)
  go_upto_region 7 with fail
  generalize (W3.alloc (.cells #[.bool mw,.string sw,.int .i64 dw] 36))=W4 at *;obtain ⟨Q,hQ⟩:∃ Q,W3.heap.size=Q:=⟨_,rfl⟩;rw [hQ] at hN hq0 ⊢;clear hQ;have hct0:l.countP (wide R)≤n-0:=by rw [← hn];exact List.countP_le_length
  go_wp2
  go_loopw [7,8] (fun cv iv wr=>∃ (i:Nat) (cd:Option Addr) (cc:Nat) (k:List SV),iv=.int .i64 i∧i≤n∧cv=.slice cd n cc∧k.length=n∧SAt wr cd k∧(∀ x∈k,GS (80+i) (200+i) x)∧k.countP (wide R)≤n-i∧(∀ x∈k,(wS x).toRat≤R)∧withB k l=true∧Nk wr Q mw sw dw∧Below w.heap.size w wr) (fun _ iv _=>n-intY iv)
  case atStart=>exact ⟨0,some ⟨lb,lo,none⟩,c,l,rfl,Nat.zero_le _,rfl,hn,hl.below hb,HS.out.1,hct0,HM.out.1,withB_self l,hN,hb⟩
  case round =>
   clear hN hb hct0;obtain ⟨i,cd,cc,k,rfl,hi,rfl,hk,hK,hgs,hct,hall,hwi,hN,hb⟩:=hrel;have HK:=Lib.hid (And.intro hgs (And.intro hct (And.intro hall hwi)));clear hgs hct hall hwi
   by_cases hlt:i<n
   ·have hc:=bwidest_any wr cd k n cc hk (by omega) hK HK.out.1 (by omega) (by omega);go_wp2_with fail;refine hc.mono ?_;rintro e' V ⟨r,rfl,hr,hq⟩;replace hb:=below_next hb hq;replace hK:=hK.below hq;replace hN:=hN.below hq;clear hc hq
    rcases hr with ⟨h0,-⟩|⟨a2,ha2,rfl,hmx2,-⟩
    ·exact absurd h0 (HS.out.2 k hk)
    have hfs:∀ x∈k.map fS,GS (80+i) (200+i) x:=fun x hx=>by
     obtain ⟨y,hy,rfl⟩:=List.mem_map.1 hx;exact (HK.out.1 y hy).form (by omega) (by omega)
    have hnext:∀ up:Bool,(halfB up (k.map fS) a2).length=n∧(∀ x∈halfB up (k.map fS) a2,GS (80+(i+1)) (200+(i+1)) x)∧(halfB up (k.map fS) a2).countP (wide R)≤n-(i+1)∧(∀ x∈halfB up (k.map fS) a2,(wS x).toRat≤R)∧withB (halfB up (k.map fS) a2) l=true:=fun up=>by
     have h1:=half_count R up k a2 ha2 HK.out.2.2.1 hmx2;have h2:=HK.out.2.1;exact ⟨by rw [half_len,hk],half_small hfs up a2 (by rw [List.length_map];exact ha2) (by omega) (by omega),by omega,h1.2,half_inside up k l a2 HK.out.2.2.2⟩
    have hc:=bhalve_any V cd k n cc a2 hk (by omega) (by omega) hK (fun x h=>(HK.out.1 x h).o2);have HN:=Lib.hid (And.intro (hnext false) (hnext true));clear hnext hfs hmx2 HK;generalize halfB false (k.map fS) a2=lo1 at *;generalize halfB true (k.map fS) a2=up1 at *;go_wp2_with fail;refine hc.mono ?_;rintro e' V2 ⟨g1,g2,c1,c2,rfl,hg1,hg2,hc1,hc2,hX,hY,hq⟩;replace hb:=below_next hb hq;replace hN:=hN.below hq;clear hc hq hK
    by_cases hbit:bits BinOp.and IntKind.i64 (z / 2 ^ i) 1=1
    ·go_wp2;exact ⟨⟨i+1,_,c2,up1,rfl,hlt,rfl,HN.out.2.1,SAt.of_flat hY.nat,HN.out.2.2.1,HN.out.2.2.2.1,HN.out.2.2.2.2.1,HN.out.2.2.2.2.2,hN,hb⟩,by simp [intY];omega⟩
    ·go_wp2;exact ⟨⟨i+1,_,c1,lo1,rfl,hlt,rfl,HN.out.1.1,SAt.of_flat hX.nat,HN.out.1.2.1,HN.out.1.2.2.1,HN.out.1.2.2.2.1,HN.out.1.2.2.2.2,hN,hb⟩,by simp [intY];omega⟩
   ·obtain rfl:i=n:=by omega
    have hct:=HK.out.2.1;have hsm:=count_none (W:=R) (l:=k) (by omega);clear hct;go_wp2
    go_loopw [12] (fun iv wr=>∃ j:Nat,iv=.int .i64 j∧j≤i∧SAt wr cd k∧Nk wr Q mw sw dw∧Below w.heap.size w wr) (fun iv _=>i-intY iv)
    case atStart=>exact ⟨0,rfl,Nat.zero_le _,hK,hN,hb⟩
    case round =>
     clear hK hN hb;obtain ⟨j,rfl,hj,hK,hN,hb⟩:=hrel
     by_cases hjl:j<i
     ·have hjk:j<k.length:=by omega
      obtain ⟨kb,ko,rfl,hkb,⟨c0,c1,c2⟩,c3,c4,c5⟩:=hK j hjk;have hgx:=HK.out.1 _ (List.getElem_mem hjk);have hsx:=hsm _ (List.getElem_mem hjk);have hb1:=hgx.width;have hca:=hb1.canon;have hcb:=(hb1.add hb1).canon;have hcw:=fun W=>c_width W k[j] hgx.o2.o3;have hd2:df (nv (canonN (wS k[j])).1 (canonN (wS k[j])).2.1 ((canonN (wS k[j])).2.2+1))=nu (canonN (wS k[j]+wS k[j])).1 (canonN (wS k[j]+wS k[j])).2.1 (canonN (wS k[j]+wS k[j])).2.2:=by
       rw [nv_twice]
       have:nv (canonN (wS k[j])).1 (canonN (wS k[j])).2.1 (canonN (wS k[j])).2.2=wS k[j]:=nvl_canon _
       rw [this];exact canonN_df _
      have hle:¬ 0<dsg (nvl (canonN (wS k[j]+wS k[j]))-nvl (mw,sw,dw)):=by
       rw [dsg_sub_pos,HM.out.2.1,nvl_canon,Dyadic.toRat_add];intro h
       grind
      generalize canonN (wS k[j]+wS k[j])=y2 at *;generalize canonN (wS k[j])=y1 at *;clear hgx hsx hb1;generalize k[j]=x at *;obtain ⟨⟨m',s',d'⟩,n1',t',e'⟩:=x;obtain ⟨m1,s1,d1⟩:=y1;obtain ⟨m2,s2,d2⟩:=y2;obtain ⟨zc,hzc⟩:∃ zc,dsg (nvl (m2,s2,d2)-nvl (mw,sw,dw))=zc:=⟨_,rfl⟩;rw [hzc] at hle;have hwb:=HM.out.2.2;simp only at c0 c1 c2 c3 c4 c5 hca hcb hd2;have hcs:=fun W=>yshift_any W m1 s1 d1 1 (by omega) (by omega) (by omega) m2 s2 d2 hd2;have hcc:=fun W=>ycmp_any W m2 mw s2 sw d2 dw (by omega) (by omega) (by omega) (by omega) zc hzc;replace hcw:∀ W,Calls Tryz.prog 39 #[.agg #[.bool m',.string s',.int .i64 d',.bool n1',.string t',.int .i64 e']] W (Ret (.agg #[.bool m1,.string s1,.int .i64 d1]) W):=hcw;replace hcs:∀ W,Calls Tryz.prog 37 #[.agg #[.bool m1,.string s1,.int .i64 d1],.int .i64 1] W (Ret (.agg #[.bool m2,.string s2,.int .i64 d2]) W):=hcs;replace hcc:∀ W,Calls Tryz.prog 40 #[.agg #[.bool m2,.string s2,.int .i64 d2],.agg #[.bool mw,.string sw,.int .i64 dw]] W (Ret (.int .i64 zc) W):=hcc;have HX:=Lib.hid (And.intro hcw (And.intro hcs hcc));clear hcw hcs hcc hd2 hca hcb hwb hzc;obtain ⟨N0,N1,N2⟩:=hN.drew.cells;have hKd:=hK.drew;have hNd:=hN.drew;have hbd:=hb.drew;have hj0:(0:Int)≤(j:Int):=by omega
      have hj1:(j:Int)<i:=by omega
      have c0' : wr.drew.cell? ⟨kb,ko+j*6,none⟩=some (.bool m'):=c0;have c1' : wr.drew.cell? ⟨kb,ko+j*6+1,none⟩=some (.string s'):=c1;have c2' : wr.drew.cell? ⟨kb,ko+j*6+2,none⟩=some (.int .i64 d'):=c2;have c3' : wr.drew.cell? ⟨kb,ko+j*6+3,none⟩=some (.bool n1'):=c3;have c4' : wr.drew.cell? ⟨kb,ko+j*6+4,none⟩=some (.string t'):=c4;have c5' : wr.drew.cell? ⟨kb,ko+j*6+5,none⟩=some (.int .i64 e'):=c5;clear c0 c1 c2 c3 c4 c5 hK hN hb;go_wp2
      go_region_law (first
       | (go_simp;go_at_call 39;refine (HX.out.1 _).mono ?_;rintro ew V3 ⟨rfl,hq3⟩;obtain ⟨N3,N4,N5⟩:=(hNd.below hq3).cells)
       | (go_simp;go_at_call 37;refine (HX.out.2.1 _).mono ?_;rintro es V4 ⟨rfl,hq4⟩;obtain ⟨N6,N7,N8⟩:=((hNd.below hq3).below hq4).cells)
       | (go_simp;go_at_call 40;refine (HX.out.2.2 _).mono ?_;rintro ec V5 ⟨rfl,hq5⟩))
      all_goals
       have hb:=below_next (below_next (below_next hbd hq3) hq4) hq5;have hK:=((hKd.below hq3).below hq4).below hq5;have hN:=((hNd.below hq3).below hq4).below hq5;clear hbd hKd hNd hq3 hq4 hq5 HX;go_wp2;exact ⟨⟨j+1,rfl,hjl,hK,hN,hb⟩,by simp [intY];omega⟩
     ·obtain rfl:j=i:=by omega
      have hc:=bwithin_any wr cd (some ⟨lb,lo,none⟩) k l j cc j c hk hn (by omega) (by omega) hK (hl.below hb) (fun x h=>(HK.out.1 x h).o2.o3) (fun x h=>(HS.out.1 x h).o2.o3);rw [HK.out.2.2.2] at hc;clear hl hsm hK HK HS HM;go_wp2_with fail;refine hc.mono ?_;rintro e' V ⟨rfl,hq⟩;replace hb:=below_next hb hq;clear hc hq hN;have ha:=awake_any V;go_wp2_with fail;refine ha.mono ?_;rintro e' V2 ⟨rfl,hq⟩;go_wp2;go_ret;exact ⟨rfl,below_next hb hq⟩
end Go.Proofs.YtlmckjodahbgbaaGreatDoor
