/- gathered and Make (package poly) answer a row of their own; walked. -/
import Derived.Test.YtemedphcafgolaaGreatDoorPE
namespace Go.Proofs.YtemedphcafgolaaGreatDoor
set_option maxRecDepth 100000
set_option maxHeartbeats 3200000
open Go.RowKit Go.Shelf Go.Lib
theorem own_base {w:World} {B B' n:Nat} {e:TypeId} {size:Nat} {v:Value} {xs:List Value} (h:w.ownsRow B e size v n xs) (hB:B'≤B):w.ownsRow B' e size v n xs:=by
 refine ⟨h.1,?_⟩
 rcases h.2 with h2|⟨g,cap,cur,e1,hg,h3⟩
 ·exact .inl h2
 ·exact .inr ⟨g,cap,cur,e1,Nat.le_trans hB hg,h3⟩
def OwnOut (w w' : World) (e:Ending) (v:Int) (r:List TV):Prop:=
 ∃ (od:Option Addr) (oc:Nat),e=.returned (.tuple #[.agg #[.int .i64 v,.slice od r.length oc],.int .i64 0])∧r.length≤oc∧w'.ownsRow w.heap.size 58 4 (.slice od r.length oc) r.length (tcells r)∧Below w.heap.size w w'
theorem OwnOut.poly {w w' : World} {e:Ending} {v:Int} {r:List TV} (h:OwnOut w w' e v r):PolyOut w w' e v r:=by
 obtain ⟨od,oc,rfl,h1,h2,h3⟩:=h;obtain ⟨od',oc',e,h4,h5⟩:=own_tat rfl h2;simp only [Value.slice.injEq,true_and] at e;obtain ⟨rfl,rfl⟩:=e;refine ⟨od,oc,rfl,h1,h5,fun lb lo e=>?_,h3⟩
 have:=(h2.lt lb (by rw [e];rfl)).1
 exact this
theorem gatheredT_own (k N M:Nat) (hk:250≤k) (hk2:k≤5000) (hT:TogC k) (f:Nat) (caps:Array Value) (hgo:∀ (aa:Array Value) (W:World),Sem.run Tryz.prog (callFunc f aa) W=.ok (.enter f aa) W) (row:TV→List TD)
  (w:World) (v:Int) (ad:Option Addr) (n c:Nat) (parts:List TV) (hn:parts.length=n) (hc:n≤c) (hmax:n≤5000) (hN:n*N<256 ^ k) (hM:n*M≤4000) (hp:TAt w ad parts) (hf:∀ x∈parts,Fits N (row x)∧(row x).length≤M)
  (hms:∀ x∈parts,∀ y∈row x,y.1.length≤1000000) (hrow:∀ W,Below w.heap.size w W→∀ x∈parts,Calls Tryz.prog f (#[tagg x]++caps) W (fun e W'=>RowOut W W' k e (row x))) :
  Calls Tryz.prog 39 #[.int .i64 v,.slice ad n c,.func (.func f) #[] caps] w (fun e w'=>OwnOut w w' e v ((dropNought (halves (parts.map row))).map canonT)):=by
 have hlen:(halves (parts.map row)).length≤4000:=by
  have h1:=halves_len (M:=M) (parts.map row) fun r hr=>by obtain ⟨x,hx,rfl⟩:=List.mem_map.1 hr;exact (hf x hx).2
  rw [List.length_map,hn] at h1;omega
 have hR:=Rw.new w 31 [.int .i64 0,.slice none 0 0];have hb:=(Below.refl w.heap.size w).alloc (Nat.le_refl _) (.cells #[.int .i64 0,.slice none 0 0] 31);have hcall:=byhalvesT_any k N M hk hk2 hT f caps hgo row n (w.alloc (.cells #[.int .i64 0,.slice none 0 0] 31)) ad c parts hn hc hmax hN (by omega) (hp.alloc _) hf (fun W hq=>hrow W (below_next hb hq));have hHm:∀ z∈halves (parts.map row),z.1.length≤1000000:=fun z hz=>by
  obtain ⟨r,hr,y,hy,e⟩:=halves_mem _ z hz;obtain ⟨x,hx,rfl⟩:=List.mem_map.1 hr;rw [← e];exact hms x hx y hy
 generalize halves (parts.map row)=H at *;clear hf hrow hp hN hM hT hgo hms;generalize hRr:(dropNought H).map canonT=R at *;go_enter Tryz.func39,Tryz.ntmps39;go_wp2_with fail;refine hcall.mono ?_;rintro e W1 ⟨od,oc,L,rfl,hoc,hL,hLt,hLf,hq⟩;replace hR:=hR.below hq hR.lt;replace hb:=below_next hb hq;have hLl:L.length≤4000:=by rw [← hLt,List.length_map] at hlen;exact hlen
 have hO:outV L=R:=by rw [← hRr];unfold outV;rw [hLt]
 have hLs:∀ z∈L,z.1.size≤1000000:=fun z hz=>hHm (tdv z) (by rw [← hLt];exact List.mem_map_of_mem hz);clear hcall hq hLt hlen hRr hHm;go_wp2
 go_loopw [8,16] (fun vl iv wr=>∃ i:Nat,iv=.int .i64 i∧i≤L.length∧wr.ownsRow W1.heap.size 58 4 vl (outV (L.take i)).length (tcells (outV (L.take i)))∧Below W1.heap.size W1 wr) (fun _ iv _=>L.length-(RowKit.intOf iv).toNat)
 case atStart=>exact ⟨0,rfl,Nat.zero_le _,World.ownsRow_nil ..,Below.refl _ _⟩
 case round =>
  obtain ⟨i,rfl,hi,hown,hbw⟩:=hrel
  by_cases hik:i<L.length
  ·obtain ⟨lb,lo,rfl,hlb,c0,c1,c2,c3⟩:=hL.below hbw i hik;have hst:=outV_take hik;have hfx:=hLf _ (List.getElem_mem hik);have hxs:=hLs _ (List.getElem_mem hik);have hol:=outV_take_len L i;have hol2:=outV_len L;generalize L[i]=x at *;obtain ⟨xt,xm,xs,xd⟩:=x;rw [canonT_tdv] at hst;obtain ⟨hx1,hx2,hx3⟩:=hfx;simp only at c0 c1 c2 c3 hst hx1 hx2 hx3 hxs;have hz:=canonN_df (nvl (xm,xs,xd));generalize canonN (nvl (xm,xs,xd))=zz at *;obtain ⟨zm,zs,zd⟩:=zz;simp only at hz hst;have hzs:=(df_exp (show df (nv xm xs xd)=_ from hz) (show xs.size≤5000 by omega)).2;obtain ⟨cc,hcc⟩:∃ cc,sg (wv zm zs)=cc:=⟨_,rfl⟩;have hc0:=sg_form hz;rw [hcc] at hc0;have hT0:=Tk.new wr xt xm xs xd;have hb0:=(Below.refl wr.heap.size wr).alloc (Nat.le_refl _) (.cells #[.string xt,.bool xm,.string xs,.int .i64 xd] 58);go_wp2_with fail;refine (yform_any _ xm xs xd (by omega) (by omega) zm zs zd hz).mono ?_;rintro e V ⟨rfl,hq⟩;replace hb0:=below_next hb0 hq;replace hT0:=hT0.below hq;have hN0:=Nk.new V zm zs zd;replace hT0:=hT0.alloc (.cells #[.bool zm,.string zs,.int .i64 zd] 26);replace hb0:=hb0.alloc hb0.size (.cells #[.bool zm,.string zs,.int .i64 zd] 26);clear hq c0 c1 c2 c3;go_wp2_with fail;refine (ysign_any _ zm zs zd (by omega) cc hcc).mono ?_;rintro e V2 ⟨rfl,hq⟩;replace hb0:=below_next hb0 hq;replace hT0:=hT0.below hq;replace hN0:=hN0.below hq;have hbV:=below_next hbw hb0;have hownV:=ownsRow_below hown hb0;clear hq hown hcc
   by_cases h0:nvl (xm,xs,xd)=0
   ·obtain rfl:cc=0:=hc0.2 h0;rw [if_pos h0] at hst;rw [← hst] at hownV;clear hc0 hT0 hN0 hb0 hz hst;go_wp2;exact ⟨⟨i+1,rfl,hik,hownV,hbV⟩,by simp [RowKit.intOf];omega⟩
   ·have hc1:¬ cc=0:=fun h=>h0 (hc0.1 h);rw [if_neg h0] at hst;obtain ⟨td,tcp,rfl,htc,-⟩:=own_tat rfl hownV;have hl4:¬ (((outV (L.take i)).length:Nat):Int)=4096:=by omega
    have hT1:=hT0.drew.facts;have hN1:=hN0.drew.facts;obtain ⟨e0,e1,e2,e3,-⟩:=hT1;obtain ⟨g0,g1,g2,-⟩:=hN1;have hcl:=clone_any V2.drew xt (by omega);go_wp2
    go_region_law (first
     | (refine step_append_tat rfl (.tmp 30) (.tmp 36) rfl rfl hown5 hsz rfl hnew rfl (by omega) ?_;intro v' W4 hV4 hg4)
     | (go_simp;go_at_call 63;refine hcl.mono ?_;rintro e V3 ⟨rfl,hq3⟩;have hbV3:=below_next hbV.drew hq3;have hown5:=(ownsRow_below (ownsRow_below hownV (Below.refl _ _).drew) hq3).alloc (.cells #[.string xt,.bool zm,.string zs,.int .i64 zd] 58);have hnew:=TAt.new V3 58 [(xt,zm,zs,zd)] _ rfl;have hsz:W1.heap.size≤(V3.alloc (.cells #[.string xt,.bool zm,.string zs,.int .i64 zd] 58)).heap.size:=(hbV3.alloc hbV3.size _).size;obtain ⟨g3,g4,g5,_⟩:=(hN0.drew.below hq3).facts))
    all_goals
     have hb4:Below W1.heap.size W1 W4:=(hbV3.alloc hbV3.size _).grown hg4 hsz (fun g hg=>(hown5.lt g hg).1);have hV5:W4.ownsRow W1.heap.size 58 4 v' (outV (L.take (i+1))).length (tcells (outV (L.take (i+1)))):=by
      rw [hst,tcells_app,List.length_append];exact hV4
     clear hV4 hg4 hown5 hnew hsz hbV3 hq3 hcl hT0 hN0 hb0 e0 e1 e2 e3 g0 g1 g2;go_wp2;exact ⟨⟨i+1,rfl,hik,hV5,hb4⟩,by simp [RowKit.intOf];omega⟩
  ·obtain rfl:i=L.length:=by omega
   rw [List.take_of_length_le (Nat.le_refl _),hO] at hown;have hlt:w.heap.size<W1.heap.size:=hR.lt;obtain ⟨od',oc',rfl,hoc',hot⟩:=own_tat rfl hown;have hfar:∀ lb lo,od'=some ⟨lb,lo,none⟩→lb≠w.heap.size:=fun lb lo e=>by
    have:=hown.lt lb (by rw [e];rfl)
    omega
   have hnew:∀ lb lo,od'=some ⟨lb,lo,none⟩→w.heap.size≤lb:=fun lb lo e=>by
    have:=hown.lt lb (by rw [e];rfl)
    omega
   have hR2:=hR.below hbw hR.lt;obtain ⟨e0,e1,e2,e3⟩:=hR2.facts2;replace hb:=below_next hb hbw;have hW1:w.heap.size≤W1.heap.size:=Nat.le_of_lt hlt;clear hL hR hbw;go_wp2;exact ret_poly rfl rfl rfl (hR2.set2 _ _) ⟨od',oc',rfl,hoc',own_base (ownsRow_far2 hown hlt _ _ _ _) hW1,pbelow_set2 hb (Nat.le_refl _) _ _ _ _⟩
theorem make_own (w:World) (k N:Nat) (hk:250≤k) (hk2:k≤5000) (v:Int) (ad:Option Addr) (n c:Nat) (l:List TV) (hn:l.length=n) (hc:n≤c) (hmax:n≤4000) (hN:n*N<256 ^ k) (hp:TAt w ad l) (hf:∀ x∈l,Fits N [tdv x]∧fitsN k x.2∧x.1.size≤1000000) :
  Calls Tryz.prog 10 #[.int .i64 v,.slice ad n c] w
   (fun e w'=>((0≤v∧v≤12)∧(∀ x∈l,mayB x.1 v=true)∧OwnOut w w' e v ((polyOf (l.map tdv)).map canonT))∨(¬ ((0≤v∧v≤12)∧(∀ x∈l,mayB x.1 v=true))∧PolyErr w w' e 1)):=by
 have hV:=Rw.new w 3 [.int .i64 v];have hb:=(Below.refl w.heap.size w).alloc (Nat.le_refl _) (.cells #[.int .i64 v] 3);have hR:=Rw.new (w.alloc (.cells #[.int .i64 v] 3)) 31 [.int .i64 0,.slice none 0 0];simp only [World.size_alloc] at hR;replace hV:=hV.alloc (.cells #[.int .i64 0,.slice none 0 0] 31);replace hb:=hb.alloc hb.size (.cells #[.int .i64 0,.slice none 0 0] 31);have hv0:=hV.cell 0;simp only [List.getElem?_cons_zero] at hv0;obtain ⟨r0,r1,r2,r3⟩:=hR.facts2;obtain ⟨q,hq⟩:∃ q,decide (0≤v∧v≤12)=q:=⟨_,rfl⟩;go_enter Tryz.func10,Tryz.ntmps10;go_wp2_with fail;generalize (w.alloc (.cells #[.int .i64 v] 3)).alloc (.cells #[.int .i64 0,.slice none 0 0] 31)=W0 at *;refine (isvars_any W0 v q hq).mono ?_;rintro e W1 ⟨rfl,rfl⟩
 cases q with
 | false =>
  have hno:¬ ((0≤v∧v≤12)∧(∀ x∈l,mayB x.1 v=true)):=fun h=>by
   have:=of_decide_eq_false hq
   exact this h.1
  clear hq hp hf;go_wp2;exact ret_poly rfl rfl rfl (hR.set2 _ _) (.inr ⟨hno,rfl,pbelow_set2 hb (by omega) _ _ _ _⟩)
 | true =>
  have hv12:0≤v∧v≤12:=of_decide_eq_true hq;have hcon:=containsT_any (fun x=>!mayB x.1 v) 36 #[.pointer (some ⟨w.heap.size,0,none⟩)] (fun _ _=>by kernel_rfl) W0 ad n c l hn (by omega) (hp.below hb)
   (fun W hq' x hx=>by
    rw [show (#[tagg x]++#[.pointer (some ⟨w.heap.size,0,none⟩)]:Array Value)=#[tagg x,.pointer (some ⟨w.heap.size,0,none⟩)] from rfl];exact make1_any W w.heap.size x v (by have:=(hf x hx).2.2;omega) (cell_keep hq' hv0) _ rfl)
  clear hq;obtain ⟨qa,hqa⟩:∃ qa,(l.any fun x=>!mayB x.1 v)=qa:=⟨_,rfl⟩;rw [hqa] at hcon;go_wp2_with fail;refine hcon.mono ?_;rintro e W1 ⟨rfl,hq1⟩;have hV1:=hV.below hq1 hV.lt;have hR1:=hR.below hq1 hR.lt;have hb1:=below_next hb hq1;have hv1:=hV1.cell 0;simp only [List.getElem?_cons_zero] at hv1;obtain ⟨s0,s1,s2,s3⟩:=hR1.facts2;clear hcon hq1 hV hR hb r0 r1 r2 r3 hv0
  cases qa with
  | true =>
   have hno:¬ ((0≤v∧v≤12)∧(∀ x∈l,mayB x.1 v=true)):=fun h=>by
    obtain ⟨x,hx,hx2⟩:=List.any_eq_true.1 hqa;rw [h.2 x hx] at hx2
    cases hx2
   clear hqa hp hf;go_wp2;exact ret_poly rfl rfl rfl (hR1.set2 _ _) (.inr ⟨hno,rfl,pbelow_set2 hb1 (by omega) _ _ _ _⟩)
  | false =>
   have hall:∀ x∈l,mayB x.1 v=true:=fun x hx=>by
    have:=List.any_eq_false.1 hqa x hx
    simpa using this
   have hn65:¬ (65536:Int)<(n:Int):=by omega
   have hcall:=gatheredT_own k N 1 hk hk2 (togC k hk2) 40 #[] (fun _ _=>by kernel_rfl) (fun x=>[tdv x]) W1 v ad n c l hn hc (by omega) hN (by omega) (hp.below hb1) (fun x hx=>⟨(hf x hx).1,by simp⟩)
    (fun x hx y hy=>by obtain rfl:=List.mem_singleton.1 hy;exact (hf x hx).2.2) (fun W _ x hx=>alone_row W k x (hf x hx).2.1)
   rw [halves_poly (fun r hr2=>by obtain ⟨x,hx,rfl⟩:=List.mem_map.1 hr2;exact List.pairwise_singleton _ _),singles_flat] at hcall;clear hf hp hqa;have HA:=Lib.hid hall;clear hall;go_wp2_with fail;refine hcall.mono ?_;rintro e W2 ⟨od,oc,rfl,hoc,hot,hq⟩;have hRlt:=hR1.lt;replace hR1:=hR1.below hq hR1.lt;replace hb1:=below_next hb1 hq;obtain ⟨t0,t1,t2,t3⟩:=hR1.facts2;clear hcall hq s0 s1 s2 s3 hV1 hv1;go_wp2;have hW1:w.heap.size≤W1.heap.size:=by omega
   exact ret_poly rfl rfl rfl (hR1.set2 _ _) (.inl ⟨hv12,HA.out,od,oc,by rw [List.length_map];rfl,hoc,own_base (ownsRow_far2 hot hRlt _ _ _ _) hW1,pbelow_set2 hb1 (by omega) _ _ _ _⟩)
end Go.Proofs.YtemedphcafgolaaGreatDoor
