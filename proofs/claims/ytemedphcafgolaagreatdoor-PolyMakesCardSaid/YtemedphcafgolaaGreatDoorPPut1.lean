/- The document's put (package ogeeref08), walked. -/
import Derived.Test.YtemedphcafgolaaGreatDoorPC
import Derived.Test.YtemedphcafgolaaGreatDoorHQ
import Derived.Test.YtemedphcafgolaaGreatDoorYR5
import Derived.StillTailTactics
namespace Go.Proofs.YtemedphcafgolaaGreatDoor
set_option maxRecDepth 100000
set_option maxHeartbeats 6400000
open Go.RowKit Go.Shelf Go.Lib
def putV:List TV→TV→List TV
 | [],x=>[(x.1,canonN (nvl x.2))]
 | y::l,x=>if Op.bytesLess y.1.data.toList x.1.data.toList=true then y::putV l x else if y.1=x.1 then (x.1,canonN (nvl y.2+nvl x.2))::l else (x.1,canonN (nvl x.2))::y::l
theorem tdv_mk (s:ByteArray) (d:Dyadic):tdv (s,canonN d)=(s.data.toList,d):=by
 show (s.data.toList,nvl (canonN d))=_;rw [nvl_canon]
theorem data_inj {s t:ByteArray} (h:s.data.toList=t.data.toList):s=t:=by
 cases s
 cases t
 simp only [ByteArray.mk.injEq];exact Array.ext' h
theorem putV_tdv:∀ (l:List TV) (x:TV),(putV l x).map tdv=putT (l.map tdv) (tdv x)
 | [],x=>by
  show [tdv (x.1,canonN (nvl x.2))]=[tdv x];rw [tdv_mk];rfl
 | y::l,x=>by
  have h:=putV_tdv l x;unfold putV;rw [List.map_cons];unfold putT;show _=if Op.bytesLess y.1.data.toList x.1.data.toList=true then _ else _
  split
  ·rw [List.map_cons,h]
  ·show _=if y.1.data.toList=x.1.data.toList then _ else _
   by_cases e:y.1=x.1
   ·rw [if_pos e,if_pos (by rw [e]),List.map_cons,tdv_mk];rfl
   ·rw [if_neg e,if_neg (fun h=>e (data_inj h)),List.map_cons,List.map_cons,tdv_mk];rfl
theorem putV_at:∀ {l:List TV} {x:TV} {i:Nat},i≤l.length→(∀ j (h:j<l.length),j<i→Op.bytesLess l[j].1.data.toList x.1.data.toList=true)→putV l x=l.take i++putV (l.drop i) x
 | [],x,i,hi,_=>by
  obtain rfl:i=0:=by simpa using hi
  rfl
 | y::l,x,0,_,_=>rfl
 | y::l,x,i+1,hi,h=>by
  have h0:=h 0 (by simp) (by omega);simp only [List.getElem_cons_zero] at h0;have ih:=putV_at (l:=l) (x:=x) (i:=i) (by simpa using hi) fun j hj hji=>by
   have:=h (j+1) (by simpa using hj) (by omega)
   simpa using this
  rw [List.take_succ_cons,List.drop_succ_cons,List.cons_append,← ih]
  conv=>lhs;unfold putV
  rw [if_pos h0]
theorem putV_end {l:List TV} {x:TV} {i:Nat} (hi:i=l.length) (h:∀ j (h:j<l.length),j<i→Op.bytesLess l[j].1.data.toList x.1.data.toList=true):putV l x=l.take i++[(x.1,canonN (nvl x.2))]++l.drop i:=by
 rw [putV_at (Nat.le_of_eq hi) h,List.drop_of_length_le (Nat.le_of_eq hi.symm),List.append_nil];rfl
theorem putV_hit {l:List TV} {x:TV} {i:Nat} (hi:i<l.length) (h:∀ j (h:j<l.length),j<i→Op.bytesLess l[j].1.data.toList x.1.data.toList=true) (h1:Op.bytesLess l[i].1.data.toList x.1.data.toList=false) (h2:l[i].1=x.1) :
  putV l x=l.take i++[(x.1,canonN (nvl l[i].2+nvl x.2))]++l.drop (i+1):=by
 rw [putV_at (Nat.le_of_lt hi) h,List.drop_eq_getElem_cons hi,List.append_assoc]
 congr 1
 unfold putV;rw [if_neg (by rw [h1];decide),if_pos h2];rfl
theorem putV_miss {l:List TV} {x:TV} {i:Nat} (hi:i<l.length) (h:∀ j (h:j<l.length),j<i→Op.bytesLess l[j].1.data.toList x.1.data.toList=true) (h1:Op.bytesLess l[i].1.data.toList x.1.data.toList=false) (h2:¬ l[i].1=x.1) :
  putV l x=l.take i++[(x.1,canonN (nvl x.2))]++l.drop i:=by
 rw [putV_at (Nat.le_of_lt hi) h,List.append_assoc]
 congr 1
 rw [List.drop_eq_getElem_cons hi];unfold putV;rw [if_neg (by rw [h1];decide),if_neg h2];rfl
def RowV (w w' : World) (e:Ending) (l:List TV):Prop:=∃ (od:Option Addr) (oc:Nat),e=.returned (.slice od l.length oc)∧l.length≤oc∧TAt w' od l∧(∀ lb lo,od=some ⟨lb,lo,none⟩→w.heap.size≤lb)∧(od=none→oc=0)∧Below w.heap.size w w'
theorem own_fresh (W:World) (B:Nat) (hB:B≤W.heap.size):(W.alloc (.cells #[] 58)).ownsRow B 58 4 (.slice (some ⟨W.heap.size,0,none⟩) 0 0) 0 (tcells []):=
 World.ownsRow_made W #[] 0 hB (Nat.zero_le _) rfl
theorem own_rowv {w w' : World} {B:Nat} (hB:w.heap.size≤B) {v:Value} {n:Nat} {l:List TV} (hn:l.length=n) (h:w'.ownsRow B 58 4 v n (tcells l)) (hb:Below w.heap.size w w'):RowV w w' (.returned v) l:=by
 subst hn;have hlt:=h.lt;obtain ⟨od,oc,rfl,h1,h2⟩:=own_tat rfl h;refine ⟨od,oc,rfl,h1,h2,fun lb lo e=>?_,fun e=>?_,hb⟩
 ·subst e
  have:=(hlt lb rfl).1
  omega
 ·subst e
  rcases h.2 with ⟨e,-⟩|⟨g,cap,cur,e,hg,-⟩
  ·simp only [Value.slice.injEq] at e;exact e.2.2
  ·simp at e
theorem tat_if {w:World} {b o:Nat} {l:List TV} (h:TAt w (some ⟨b,o,none⟩) l) {c:Nat} (hl:l.length≤c) (i:Nat):TAt w (if c=i then some ⟨b,o,none⟩ else some ⟨b,o+i*4,none⟩) (l.drop i):=by
 split
 ·rename_i e
  rw [List.drop_of_length_le (by omega)];exact TAt.nil _ _
 ·exact h.drop i
theorem put_any (w:World) (ad:Option Addr) (n c:Nat) (L:List TV) (hn:L.length=n) (hc:n≤c) (had:ad=none→c=0) (hmax:n≤100000) (hL:TAt w ad L) (x:TV) (hf:∀ y∈L,fitsN 1000 y.2) (hx:fitsN 1000 x.2) :
  Calls Tryz.prog 64 #[.slice ad n c,tagg x] w (fun e w'=>RowV w w' e (putV L x)):=by
 obtain ⟨xt,xm,xs,xd⟩:=x;have hT:=Tk.new w xt xm xs xd;have hb:=(Below.refl w.heap.size w).alloc (Nat.le_refl _) (.cells #[.string xt,.bool xm,.string xs,.int .i64 xd] 58);unfold tagg;simp only;have HX:=Lib.hid (And.intro hf hx);clear hf hx;have hL0:=hL.below hb;have hB0:(w.alloc (.cells #[.string xt,.bool xm,.string xs,.int .i64 xd] 58)).heap.size=w.heap.size+1:=World.size_alloc _ _;go_enter Tryz.func64,Tryz.ntmps64;go_wp2;clear hL;generalize w.alloc (.cells #[.string xt,.bool xm,.string xs,.int .i64 xd] 58)=W0 at *;have HB0:=Lib.hid hB0;clear hB0
 go_loopw [5] (fun iv wr=>∃ i:Nat,iv=.int .i64 (i:Int)∧i≤n∧(∀ j (h:j<L.length),j<i→Op.bytesLess L[j].1.data.toList xt.data.toList=true)∧Below W0.heap.size W0 wr) (fun iv _=>n-(RowKit.intOf iv).toNat)
 case atStart=>exact ⟨0,rfl,Nat.zero_le _,fun j _ h=>by omega,Below.refl _ _⟩
 case round =>
  obtain ⟨i,rfl,hi,hall,hbw⟩:=hrel
  by_cases hik:i<n
  ·have hil:i<L.length:=by omega
   obtain ⟨lb,lo,rfl,hlb,c0,c1,c2,c3⟩:=hL0.below hbw i hil;have e1:decide ((i:Int)<(n:Int))=true:=decide_eq_true (by omega);obtain ⟨t0,t1,t2,t3⟩:=(hT.below hbw).drew.cells;have d0:wr.drew.cell? ⟨lb,lo+i*4,none⟩=some (.string L[i].1):=c0;have hh:=@putV_hit L (xt,xm,xs,xd) i hil hall;have hm:=@putV_miss L (xt,xm,xs,xd) i hil hall;have hst:Op.bytesLess L[i].1.data.toList xt.data.toList=true→∀ j (h:j<L.length),j<i+1→Op.bytesLess L[j].1.data.toList xt.data.toList=true:=fun h0 j h hj=>by
    rcases Nat.lt_or_ge j i with h3|h3
    ·exact hall j h h3
    ·obtain rfl:j=i:=by omega
     exact h0
   have hfi:=HX.out.1 _ (List.getElem_mem hil);generalize hy:L[i]=y at *;obtain ⟨yt,ym,ys,yd⟩:=y;have HE:=Lib.hid hy;clear hy;simp only at c0 c1 c2 c3 t0 t1 t2 t3 d0 hh hm hst hfi;obtain ⟨bl,hbl⟩:∃ bl,Op.bytesLess yt.data.toList xt.data.toList=bl:=⟨_,rfl⟩;rw [hbl] at hh hm hst;have HY:=Lib.hid (And.intro hh (And.intro hm (And.intro hst hfi)));clear hh hm hst hall hfi;have hbl2:Op.bytesLess yt.toList xt.toList=bl:=by rw [toListE,toListE];exact hbl
   go_wp2
   go_still (by kernel_rfl)
   all_goals
    cases bl with
    | true =>
     go_wp2;exact ⟨⟨i+1,by simp,hik,HY.out.2.2.1 rfl,hbw.drew⟩,by simp [RowKit.intOf];omega⟩
    | false =>
     have hown0:=own_fresh wr.drew W0.heap.size hbw.drew.size;have htk:=((hL0.below hbw.drew).take i).alloc (.cells #[] 58);have hb1:=hbw.drew.alloc hbw.drew.size (.cells #[] 58);have hsz:=hb1.size;have htl:(L.take i).length=i:=by rw [List.length_take];omega
     clear t0 t1 t2 t3 d0 c0 c1 c2 c3 hbl2;go_wp2_with (first|(at_builtin;refine wpList_append_tat (l:=L.take i) rfl (.tmp 23) (.tmp 26) rfl rfl hown0 hsz rfl htk htl (by omega) ?_));intro v1 W1 hV1 hg1;have hb2:Below W0.heap.size W0 W1:=hb1.grown hg1 hsz (fun g hg=>(hown0.lt g hg).1);rw [← tcells_app,List.nil_append] at hV1;clear hown0 htk hb1 hsz hg1;obtain ⟨t0,t1,t2,t3⟩:=(hT.below hb2).drew.cells;obtain ⟨eb,eo,ee,-,c0,c1,c2,c3⟩:=hL0.below hb2.drew i hil;simp only [Option.some.injEq,Addr.mk.injEq,and_true] at ee;obtain ⟨rfl,rfl⟩:=ee;rw [HE.out] at c0 c1 c2 c3;simp only at c0 c1 c2 c3;obtain ⟨be,hbe⟩:∃ be,(yt.toList == xt.toList)=be:=⟨_,rfl⟩;go_wp2
     go_still (by kernel_rfl)
     have hV2:W1.drew.drew.ownsRow W0.heap.size 58 4 v1 i (tcells (L.take i)):=hV1;have hb3:=hb2.drew.drew;replace t0:W1.drew.drew.cell? ⟨w.heap.size,0,none⟩=some (.string xt):=t0;replace t1:W1.drew.drew.cell? ⟨w.heap.size,1,none⟩=some (.bool xm):=t1;replace t2:W1.drew.drew.cell? ⟨w.heap.size,2,none⟩=some (.string xs):=t2;replace t3:W1.drew.drew.cell? ⟨w.heap.size,3,none⟩=some (.int .i64 xd):=t3;replace c0:W1.drew.drew.cell? ⟨lb,lo+i*4,none⟩=some (.string yt):=c0;replace c1:W1.drew.drew.cell? ⟨lb,lo+i*4+1,none⟩=some (.bool ym):=c1;replace c2:W1.drew.drew.cell? ⟨lb,lo+i*4+2,none⟩=some (.string ys):=c2;replace c3:W1.drew.drew.cell? ⟨lb,lo+i*4+3,none⟩=some (.int .i64 yd):=c3;clear hV1 hb2
     cases be with
     | true =>
      have e:yt=xt:=by
       have h:=eq_of_beq hbe;rw [toListE,toListE] at h;exact data_inj h
      have hfin:=HY.out.1 (by first|rfl|trivial) e;have hfy:=HY.out.2.2.2;have hz:=canonN_df (nvl (ym,ys,yd)+nvl (xm,xs,xd));generalize canonN (nvl (ym,ys,yd)+nvl (xm,xs,xd))=zz at *;obtain ⟨zm,zs,zd⟩:=zz;simp only at hz hfin;have hfx:=HX.out.2;unfold fitsN at hfy hfx;simp only at hfy hfx;have hpl:=ryplus_any W1.drew.drew ym xm ys xs yd xd (by omega) (by omega) (by omega) (by omega) zm zs zd hz;unfold nu at hpl;have HFN:=Lib.hid hfin;clear hz hfin e hbe hfy hfx;go_wp2
      go_region_law (first
       | (refine step_append_tat (l:=[(xt,zm,zs,zd)]) rfl (.tmp 42) (.tmp 54) rfl rfl hown5 hsz5 rfl hnew5 rfl (by omega) ?_;intro v2 W3 hV3 hg3)
       | (go_simp;go_at_call 91;refine hpl.mono ?_;rintro e W2 ⟨rfl,hq3⟩;have hown5:=(ownsRow_below hV2 hq3).alloc (.cells #[.string xt,.bool zm,.string zs,.int .i64 zd] 58);have hnew5:=TAt.new W2 58 [(xt,zm,zs,zd)] _ rfl;have hb5:=(below_next hb3 hq3).alloc (below_next hb3 hq3).size (.cells #[.string xt,.bool zm,.string zs,.int .i64 zd] 58);have hsz5:=hb5.size;have t0':=cell_keep hq3 t0))
      all_goals
       have hb6:=hb5.grown hg3 hsz5 (fun g hg=>(hown5.lt g hg).1);have hV4:W3.ownsRow W0.heap.size 58 4 v2 (i+1) (tcells (L.take i++[(xt,zm,zs,zd)])):=by rw [tcells_app];exact hV3
       have htl2:=hL0.below hb6;have hi1:(i:Int)+1≤(n:Int):=by omega
       have hi2:(0:Int)≤(i:Int)+1:=by omega
       have hi3:(n:Int)≤(c:Int):=by omega
       clear hown5 hsz5 hnew5 hg3 hV3 hV2 hb5 hb3 hpl t0 t1 t2 t3 c0 c1 c2 c3 t0';go_wp2_with (first|(at_builtin;refine wpList_append_tat (l:=L.drop (i+1)) rfl (.tmp 56) (.tmp 60) rfl rfl hV4 hb6.size rfl (by first|exact tat_if htl2 (by omega) (i+1)|exact htl2.drop (i+1)) (by rw [List.length_drop,hn]) (by omega) ?_))
       all_goals
        intro v3 W4 hV5 hg4;have hb7:=hb6.grown hg4 hb6.size (fun g hg=>(hV4.lt g hg).1);rw [← tcells_app] at hV5;go_wp2;go_ret;rw [HFN.out];exact own_rowv (B:=W0.heap.size) (by rw [HB0.out];omega) (by simp only [List.length_append,List.length_take,List.length_drop,List.length_singleton];omega) hV5 (below_next hb hb7)
     | false =>
      have e:¬ yt=xt:=by
       intro h;rw [h] at hbe;simp at hbe
      have hfin:=HY.out.2.1 (by first|rfl|trivial) e;have hz:=canonN_df (nvl (xm,xs,xd));generalize canonN (nvl (xm,xs,xd))=zz at *;obtain ⟨zm,zs,zd⟩:=zz;simp only at hz hfin;have hfx:=HX.out.2;unfold fitsN at hfx;simp only at hfx;have hpl:=ryform_any W1.drew.drew xm xs xd (by omega) (by omega) zm zs zd hz;unfold nu at hpl;have HFN:=Lib.hid hfin;clear hz hfin hfx;go_wp2
      go_region_law (first
       | (refine step_append_tat (l:=[(xt,zm,zs,zd)]) rfl (.tmp 62) (.tmp 69) rfl rfl hown5 hsz5 rfl hnew5 rfl (by omega) ?_;intro v2 W3 hV3 hg3)
       | (go_simp;go_at_call 46;refine hpl.mono ?_;rintro e W2 ⟨rfl,hq3⟩;have hown5:=(ownsRow_below hV2 hq3).alloc (.cells #[.string xt,.bool zm,.string zs,.int .i64 zd] 58);have hnew5:=TAt.new W2 58 [(xt,zm,zs,zd)] _ rfl;have hb5:=(below_next hb3 hq3).alloc (below_next hb3 hq3).size (.cells #[.string xt,.bool zm,.string zs,.int .i64 zd] 58);have hsz5:=hb5.size;have t0':=cell_keep hq3 t0))
      all_goals
       have hb6:=hb5.grown hg3 hsz5 (fun g hg=>(hown5.lt g hg).1);have hV4:W3.ownsRow W0.heap.size 58 4 v2 (i+1) (tcells (L.take i++[(xt,zm,zs,zd)])):=by rw [tcells_app];exact hV3
       have htl2:=hL0.below hb6;have hi3:(n:Int)≤(c:Int):=by omega
       clear hown5 hsz5 hnew5 hg3 hV3 hV2 hb5 hb3 hpl t0 t1 t2 t3 c0 c1 c2 c3 t0';go_wp2_with (first|(at_builtin;refine wpList_append_tat (l:=L.drop i) rfl (.tmp 71) (.tmp 74) rfl rfl hV4 hb6.size rfl (by first|exact tat_if htl2 (by omega) i|exact htl2.drop i) (by rw [List.length_drop,hn]) (by omega) ?_))
       all_goals
        intro v3 W4 hV5 hg4;have hb7:=hb6.grown hg4 hb6.size (fun g hg=>(hV4.lt g hg).1);rw [← tcells_app] at hV5;go_wp2;go_ret;rw [HFN.out];exact own_rowv (B:=W0.heap.size) (by rw [HB0.out];omega) (by simp only [List.length_append,List.length_take,List.length_drop,List.length_singleton];omega) hV5 (below_next hb hb7)
  ·have hfin:=@putV_end L (xt,xm,xs,xd) i (by omega) hall;have HIN:=Lib.hid (And.intro hi hik);have htl:(L.take i).length=i:=by rw [List.length_take];omega
   have htz:∀ (W:World) (q:Option Addr),TAt W q (L.drop i):=fun W q=>by
    rw [List.drop_of_length_le (by omega)];exact TAt.nil _ _
   have HTZ:=Lib.hid htz;clear hall hi hik htz;have hz:=canonN_df (nvl (xm,xs,xd));generalize canonN (nvl (xm,xs,xd))=zz at *;obtain ⟨zm,zs,zd⟩:=zz;simp only at hz hfin;have hfx:=HX.out.2;unfold fitsN at hfx;simp only at hfx;have HFN:=Lib.hid hfin;clear hfin;have hown0:=own_fresh wr.drew W0.heap.size hbw.drew.size;have htk:=((hL0.below hbw.drew).take i).alloc (.cells #[] 58);have hb1:=hbw.drew.alloc hbw.drew.size (.cells #[] 58);have hsz:=hb1.size;go_wp2;refine wp_region_still_lit (by kernel_rfl) (by kernel_rfl) ?_
   iterate 5 still_step
   iterate 8 (refine wpStill_step (fun K hK=>?_);go_simp;rw [if_neg HIN.out.2];refine hK _ ?_;clear hK K)
   refine wpStill_step (fun K hK=>?_);go_simp;rw [if_neg HIN.out.2];refine hK _ ?_;clear hK K;refine wpStill_nil ?_;have hi3:(i:Int)≤(c:Int):=by have:=HIN.out.1;omega
   clear had
   cases ad
   all_goals
    go_wp2_with (first|(at_builtin;refine wpList_append_tat (l:=L.take i) rfl (.tmp 23) (.tmp 26) rfl rfl hown0 hsz rfl htk htl (by have:=HIN.out.1;omega) ?_));intro v1 W1 hV1 hg1;have hb2:Below W0.heap.size W0 W1:=hb1.grown hg1 hsz (fun g hg=>(hown0.lt g hg).1);rw [← tcells_app,List.nil_append] at hV1;clear hown0 htk hb1 hsz hg1;go_wp2;refine wp_region_still_lit (by kernel_rfl) (by kernel_rfl) ?_
    iterate 5 still_step
    iterate 8 (refine wpStill_step (fun K hK=>?_);go_simp;rw [if_neg HIN.out.2];refine hK _ ?_;clear hK K)
    refine wpStill_step (fun K hK=>?_);go_simp;rw [if_neg HIN.out.2];refine hK _ ?_;clear hK K;refine wpStill_nil ?_;have hV2:W1.drew.drew.ownsRow W0.heap.size 58 4 v1 i (tcells (L.take i)):=hV1;have hb3:=hb2.drew.drew;obtain ⟨t0,t1,t2,t3⟩:=(hT.below hb2).drew.drew.cells;simp only at t0 t1 t2 t3;clear hV1 hb2;have hpl:=ryform_any W1.drew.drew xm xs xd (by omega) (by omega) zm zs zd hz;unfold nu at hpl;go_wp2
    go_region_law (first
     | (refine step_append_tat (l:=[(xt,zm,zs,zd)]) rfl (.tmp 62) (.tmp 69) rfl rfl hown5 hsz5 rfl hnew5 rfl (by have:=HIN.out.1;omega) ?_;intro v2 W3 hV3 hg3)
     | (go_simp;go_at_call 46;refine hpl.mono ?_;rintro e W2 ⟨rfl,hq3⟩;have hown5:=(ownsRow_below hV2 hq3).alloc (.cells #[.string xt,.bool zm,.string zs,.int .i64 zd] 58);have hnew5:=TAt.new W2 58 [(xt,zm,zs,zd)] _ rfl;have hb5:=(below_next hb3 hq3).alloc (below_next hb3 hq3).size (.cells #[.string xt,.bool zm,.string zs,.int .i64 zd] 58);have hsz5:=hb5.size;have t0':=cell_keep hq3 t0))
    all_goals
     have hb6:=hb5.grown hg3 hsz5 (fun g hg=>(hown5.lt g hg).1);have hV4:W3.ownsRow W0.heap.size 58 4 v2 (i+1) (tcells (L.take i++[(xt,zm,zs,zd)])):=by rw [tcells_app];exact hV3
     have hi4:(i:Int)≤(n:Int):=by have:=HIN.out.1;omega
     clear hown5 hsz5 hnew5 hg3 hV3 hV2 hb5 hb3 hpl t0 t1 t2 t3 t0';go_wp2_with (first|(at_builtin;refine wpList_append_tat (l:=L.drop i) rfl (.tmp 71) (.tmp 74) rfl rfl hV4 hb6.size rfl (HTZ.out _ _) (by rw [List.length_drop,hn]) (by have:=HIN.out.1;omega) ?_))
     all_goals
      intro v3 W4 hV5 hg4;have hb7:=hb6.grown hg4 hb6.size (fun g hg=>(hV4.lt g hg).1);rw [← tcells_app] at hV5;go_wp2;go_ret;rw [HFN.out];exact own_rowv (B:=W0.heap.size) (by rw [HB0.out];omega) (by simp only [List.length_append,List.length_take,List.length_drop,List.length_singleton];have:=HIN.out;omega) hV5 (below_next hb hb7)
end Go.Proofs.YtemedphcafgolaaGreatDoor
