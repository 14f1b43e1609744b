/- Layer 1, laid together: P12, P13, P14, P15, P16, P17, P18, PFresh, P19, P21, PAw0, PAw1, PRaw, PRing0, PRing1, PForm0, P20. -/
import Derived.Test.YtemedphcafgolaaGreatDoorPE
import Derived.Test.YtemedphcafgolaaGreatDoorP7
import Derived.Test.YtemedphcafgolaaGreatDoorHQ
/- Package poly: polynomials of one term;a number,a variable;walked. -/
namespace Go.Proofs.YtemedphcafgolaaGreatDoor
set_option maxRecDepth 100000
set_option maxHeartbeats 3200000
open Go.RowKit Go.Shelf Go.Lib
theorem cell_apart2 {w:World} {p:Addr} {x u v:Value} {r:Nat} (h:w.cell? p=some x) (hp:p.block≠r) (i j:Nat):((w.setCell ⟨r,i,none⟩ u).setCell ⟨r,j,none⟩ v).cell? p=some x:=
 (World.cell?_of_block (Below.heap_setCell _ _ v p.block hp)).trans ((World.cell?_of_block (Below.heap_setCell w _ u p.block hp)).trans h)
theorem s_c4 {w:World} {p0 p1 p2 p3:Addr} {x0 x1 x2 x3 u v:Value} {r i j:Nat} (h:w.cell? p0=some x0∧w.cell? p1=some x1∧w.cell? p2=some x2∧w.cell? p3=some x3) (h0:p0.block≠r) (h1:p1.block≠r) (h2:p2.block≠r) (h3:p3.block≠r) :
  ((w.setCell ⟨r,i,none⟩ u).setCell ⟨r,j,none⟩ v).cell? p0=some x0∧((w.setCell ⟨r,i,none⟩ u).setCell ⟨r,j,none⟩ v).cell? p1=some x1∧((w.setCell ⟨r,i,none⟩ u).setCell ⟨r,j,none⟩ v).cell? p2=some x2∧((w.setCell ⟨r,i,none⟩ u).setCell ⟨r,j,none⟩ v).cell? p3=some x3:=
 ⟨cell_apart2 h.1 h0 _ _,cell_apart2 h.2.1 h1 _ _,cell_apart2 h.2.2.1 h2 _ _,cell_apart2 h.2.2.2 h3 _ _⟩
theorem single_any (w:World) (k N:Nat) (hk:250≤k) (hk2:k≤5000) (m:Bool) (s:ByteArray) (d:Int) (ad:Option Addr) (n ec:Nat) (ns:List Int) (hn:ns.length=n) (hn12:n≤12) (hr:RI w ad ns) (o:ByteArray) (ho:ofS ns=o) (he:ofE ns=0) (hmay:mayB o (n:Int)=true)
  (hf:Fits N [tdv (o,m,s,d)]∧fitsN k (m,s,d)) (hN:N<256 ^ k) :
  Calls Tryz.prog 48 #[.agg #[.bool m,.string s,.int .i64 d],.slice ad n ec] w (fun e w'=>PolyOut w w' e n ((polyOf [tdv (o,m,s,d)]).map canonT)):=by
 have hC:=Nk.new w m s d;have hb:=(Below.refl w.heap.size w).alloc (Nat.le_refl _) (.cells #[.bool m,.string s,.int .i64 d] 26);have hR:=Rw.new (w.alloc (.cells #[.bool m,.string s,.int .i64 d] 26)) 31 [.int .i64 0,.slice none 0 0];simp only [World.size_alloc] at hR;replace hC:=hC.alloc (.cells #[.int .i64 0,.slice none 0 0] 31);replace hb:=hb.alloc hb.size (.cells #[.int .i64 0,.slice none 0 0] 31);have hos:=(may_parts hmay).1;generalize hRR:(polyOf [tdv (o,m,s,d)]).map canonT=R at *;go_enter Tryz.func48,Tryz.ntmps48;go_wp2_with fail;generalize (w.alloc (.cells #[.bool m,.string s,.int .i64 d] 26)).alloc (.cells #[.int .i64 0,.slice none 0 0] 31)=W0 at *;refine (pm_of_any W0 ad ns n ec hn (by omega) (hr.next (by exact hb)) o 0 ho he).mono ?_;rintro e W1 ⟨rfl,hq⟩;replace hC:=hC.below hq;replace hR:=hR.below hq hR.lt;replace hb:=below_next hb hq;obtain ⟨c0,c1,c2,-⟩:=hC.facts;have hmk:=make_any (W1.alloc (.cells #[.string o,.bool m,.string s,.int .i64 d] 58)) k N hk hk2 (n:Int) (some ⟨W1.heap.size,0,none⟩) 1 1 [(o,m,s,d)] rfl (Nat.le_refl _) (by omega) (by omega) (TAt.new W1 58 [(o,m,s,d)] _ rfl)
  (fun x hx=>by obtain rfl:=List.mem_singleton.1 hx;exact ⟨hf.1,hf.2,by show o.size≤1000000;omega⟩)
 replace hR:=hR.alloc (.cells #[.string o,.bool m,.string s,.int .i64 d] 58);replace hb:=hb.alloc hb.size (.cells #[.string o,.bool m,.string s,.int .i64 d] 58);rw [show [(o,m,s,d)].map tdv=[tdv (o,m,s,d)] from rfl,hRR] at hmk;have HM:=Lib.hid hmay;clear hq hr ho he hf hRR hmay;go_wp2_with fail;refine hmk.mono ?_;rintro e W2 hor
 rcases hor with ⟨-,-,od,oc,rfl,hoc,hot,hnew,hq⟩|⟨hno,-⟩
 ·have hRlt:=hR.lt;replace hR:=hR.below hq hR.lt;replace hb:=below_next hb hq;obtain ⟨r0,r1,r2,r3⟩:=hR.facts2;clear hmk hq c0 c1 c2 hC;go_wp2;exact ret_poly rfl rfl rfl (hR.set2 _ _) ⟨od,oc,rfl,hoc,hot.far2 (r:=w.heap.size+1) (fun lb lo h=>by have:=hnew lb lo h;omega) _ _ _ _,fun lb lo h=>by have:=hnew lb lo h;omega,pbelow_set2 hb (by omega) _ _ _ _⟩
 ·exact absurd ⟨⟨by omega,by omega⟩,fun x hx=>by obtain rfl:=List.mem_singleton.1 hx;exact HM.out⟩ hno
theorem zeros_of (n:Nat):ofS (List.replicate n 0)=⟨(List.replicate n (0:UInt8)).toArray⟩∧ofE (List.replicate n 0)=0∧mayB ⟨(List.replicate n (0:UInt8)).toArray⟩ (n:Int)=true:=by
 have h1:okE (List.replicate n 0)=true:=by
  unfold okE;rw [List.all_eq_true];intro z hz;obtain ⟨-,rfl⟩:=List.mem_replicate.1 hz
  decide
 refine ⟨?_,by unfold ofE;rw [h1];rfl,?_⟩
 ·unfold ofS;rw [h1,if_pos rfl];unfold bytesE;rw [List.map_replicate];rfl
 ·unfold mayB;have e:(⟨(List.replicate n (0:UInt8)).toArray⟩:ByteArray).size=n:=by
   show (List.replicate n (0:UInt8)).toArray.size=n;simp
  rw [e];simp
def oneB (n:Nat):ByteArray:=⟨(List.replicate n (0:UInt8)).toArray⟩
theorem ri_zeros (W:World) (n:Nat):RI (W.alloc (.cells (List.replicate n (Value.int .i64 0)).toArray 3)) (some ⟨W.heap.size,0,none⟩) (List.replicate n 0):=by
 have h:=Rw.new W 3 (List.replicate n (Value.int .i64 0));exact RI.of_rw (pre:=[]) (post:=[]) (off:=0) (ns:=List.replicate n 0) (by rw [List.map_replicate,List.append_nil,List.nil_append];exact h) rfl
theorem const_any (w:World) (k N:Nat) (hk:250≤k) (hk2:k≤5000) (v:Int) (m:Bool) (s:ByteArray) (d:Int) (hf:∀ n:Nat,n≤12→Fits N [tdv (oneB n,m,s,d)]) (hf2:fitsN k (m,s,d)) (hN:N<256 ^ k) :
  Calls Tryz.prog 18 #[.int .i64 v,.agg #[.bool m,.string s,.int .i64 d]] w
   (fun e w'=>(∃ n:Nat,v=n∧n≤12∧PolyOut w w' e n ((polyOf [tdv (oneB n,m,s,d)]).map canonT))∨(¬ (0≤v∧v≤12)∧PolyErr w w' e 1)):=by
 have hC:=Nk.new w m s d;have hb:=(Below.refl w.heap.size w).alloc (Nat.le_refl _) (.cells #[.bool m,.string s,.int .i64 d] 26);have hR:=Rw.new (w.alloc (.cells #[.bool m,.string s,.int .i64 d] 26)) 31 [.int .i64 0,.slice none 0 0];simp only [World.size_alloc] at hR;replace hC:=hC.alloc (.cells #[.int .i64 0,.slice none 0 0] 31);replace hb:=hb.alloc hb.size (.cells #[.int .i64 0,.slice none 0 0] 31);obtain ⟨q,hq⟩:∃ q,decide (0≤v∧v≤12)=q:=⟨_,rfl⟩;go_enter Tryz.func18,Tryz.ntmps18;go_wp2_with fail;generalize (w.alloc (.cells #[.bool m,.string s,.int .i64 d] 26)).alloc (.cells #[.int .i64 0,.slice none 0 0] 31)=W0 at *;refine (isvars_any W0 v q hq).mono ?_;rintro e W1 ⟨rfl,rfl⟩
 cases q with
 | false =>
  have hno:¬ (0≤v∧v≤12):=of_decide_eq_false hq;obtain ⟨r0,r1,r2,r3⟩:=hR.facts2;clear hq hf;go_wp2;exact ret_poly rfl rfl rfl (hR.set2 _ _) (.inr ⟨hno,rfl,pbelow_set2 hb (by omega) _ _ _ _⟩)
 | true =>
  have hv12:0≤v∧v≤12:=of_decide_eq_true hq;obtain ⟨n,rfl⟩:∃ n:Nat,v=n:=⟨v.toNat,by omega⟩;have hn12:n≤12:=by omega
  obtain ⟨z1,z2,z3⟩:=zeros_of n;have hmk:=pm_make_ints n (by omega);have hs:=single_any (W0.drew.alloc (.cells (List.replicate n (Value.int .i64 0)).toArray 3)) k N hk hk2 m s d (some ⟨W0.heap.size,0,none⟩) n n (List.replicate n 0) (by simp) hn12 (ri_zeros W0.drew n) (oneB n) z1 z2 z3 ⟨hf n hn12,hf2⟩ hN;have hb2:Below w.heap.size w (W0.drew.alloc (.cells (List.replicate n (Value.int .i64 0)).toArray 3)):=hb.drew.alloc hb.size _;have hR2:Rw (W0.drew.alloc (.cells (List.replicate n (Value.int .i64 0)).toArray 3)) (w.heap.size+1) 31 [.int .i64 0,.slice none 0 0]:=hR.alloc _;obtain ⟨c0,c1,c2,-⟩:=hC.drew.facts;have hin:=And.intro c0 (And.intro c1 (And.intro c2 c0));generalize hRR:(polyOf [tdv (oneB n,m,s,d)]).map canonT=R at *;have HRR:=Lib.hid hRR;clear hRR hq hf hf2 z1 z2 z3 hv12 c0 c1 c2;go_wp2
  go_region_held3 (fun w'=>w'.cell? ⟨w.heap.size,0,none⟩=some (.bool m)∧w'.cell? ⟨w.heap.size,1,none⟩=some (.string s)∧w'.cell? ⟨w.heap.size,2,none⟩=some (.int .i64 d)∧w'.cell? ⟨w.heap.size,0,none⟩=some (.bool m))
   (first|assumption|exact h_c4 (by assumption) (by assumption)|exact h_c4 (by assumption) ((Below.refl _ _).alloc (Nat.le_refl _) _)|exact s_c4 (by assumption) (by simp) (by simp) (by simp) (by simp))
   (first|(go_at_call 48;refine hs.mono ?_;rintro e V ⟨od,oc,rfl,hoc,hot,hnew,hq⟩;have hb3:=below_next hb2 hq;have hRlt:=hR2.lt;have hR3:=hR2.below hq hR2.lt;obtain ⟨r0,r1,r2,r3⟩:=hR3.facts2))
  all_goals
   go_wp2;exact ret_poly rfl rfl rfl (hR3.set2 _ _) (.inl ⟨n,rfl,hn12,by rw [HRR.out];exact ⟨od,oc,rfl,hoc,hot.far2 (r:=w.heap.size+1) (fun lb lo h=>by have:=hnew lb lo h;omega) _ _ _ _,fun lb lo h=>by have:=hnew lb lo h;omega,pbelow_set2 hb3 (by omega) _ _ _ _⟩⟩)
theorem indexP_any (p:PV→Bool) (f:Nat) (caps:Array Value) (hgo:∀ (aa:Array Value) (W:World),Sem.run Tryz.prog (callFunc f aa) W=.ok (.enter f aa) W) (w:World) (ad:Option Addr) (n c:Nat) (l:List PV) (hl:l.length=n) (hmax:n≤1000000) (hp:PAt w ad l)
  (hcall:∀ W,Below w.heap.size w W→∀ x∈l,∀ (td:Option Addr) (tc:Nat),Calls Tryz.prog f (#[.agg #[.int .i64 x.1,.slice td x.2.length tc]]++caps) W (Ret (.bool (p x)) W)) :
  Calls Tryz.prog 106 #[.slice ad n c,.func (.func f) #[] caps] w (fun e w'=>∃ r:Int,e=.returned (.int .i64 r)∧decide (0≤r)=l.any p∧Below w.heap.size w w'):=by
 go_enter Tryz.func106,Tryz.ntmps106;go_wp2
 go_loopw [8] (fun iv wr=>∃ i:Nat,iv=.int .i64 i∧i≤n∧(l.take i).any p=false∧Below w.heap.size w wr) (fun iv _=>n-(RowKit.intOf iv).toNat)
 case atStart=>exact ⟨0,rfl,Nat.zero_le _,rfl,Below.refl _ _⟩
 case round =>
  obtain ⟨i,rfl,hi,hno,hb⟩:=hrel
  by_cases hik:i<n
  ·have hil:i<l.length:=by omega
   obtain ⟨lb,lo,td,tc,rfl,hlb,c0,c1,-⟩:=hp.below hb i hil;have hc:=hcall wr hb l[i] (List.getElem_mem hil) td tc;have hst:=any_take hil hno;have hany:p l[i]=true→l.any p=true:=fun h=>List.any_eq_true.2 ⟨l[i],List.getElem_mem hil,h⟩;generalize l[i]=x at *;obtain ⟨q,hq⟩:∃ q,p x=q:=⟨_,rfl⟩;rw [hq] at hc hany hst;obtain ⟨xv,xl⟩:=x;simp only at c0 c1 hc;clear hcall hp;go_wp2_with fail;refine hc.mono ?_;rintro e W1 ⟨rfl,hq1⟩;have hb1:=below_next hb hq1;clear hc hq1 c0 c1
   cases q with
   | true =>
    have HA:=Lib.hid (hany rfl);clear hany hst;go_wp2;go_ret;exact ⟨(i:Int),rfl,by rw [HA.out];simp,hb1⟩
   | false =>
    have HS:=Lib.hid (hst rfl);clear hany hst;go_wp2;exact ⟨⟨i+1,rfl,hik,HS.out,hb1⟩,by simp [RowKit.intOf];omega⟩
  ·obtain rfl:i=n:=by omega
   rw [List.take_of_length_le (by omega)] at hno;have HN:=Lib.hid hno;clear hno hcall hp;go_wp2;go_ret;exact ⟨-1,rfl,by rw [HN.out];decide,hb⟩
theorem containsP_any (p:PV→Bool) (f:Nat) (caps:Array Value) (hgo:∀ (aa:Array Value) (W:World),Sem.run Tryz.prog (callFunc f aa) W=.ok (.enter f aa) W) (w:World) (ad:Option Addr) (n c:Nat) (l:List PV) (hl:l.length=n) (hmax:n≤1000000) (hp:PAt w ad l)
  (hcall:∀ W,Below w.heap.size w W→∀ x∈l,∀ (td:Option Addr) (tc:Nat),Calls Tryz.prog f (#[.agg #[.int .i64 x.1,.slice td x.2.length tc]]++caps) W (Ret (.bool (p x)) W)) :
  Calls Tryz.prog 75 #[.slice ad n c,.func (.func f) #[] caps] w (Ret (.bool (l.any p)) w):=by
 have hc:=indexP_any p f caps hgo w ad n c l hl hmax hp hcall;clear hcall hgo;go_enter Tryz.func75,Tryz.ntmps75;go_wp2_with fail;refine hc.mono ?_;rintro e W1 ⟨r,rfl,hr,hq⟩;go_wp2;go_ret;exact ⟨rfl,hq⟩
theorem unlike_any (w:World) (P lb lo n c:Nat) (v v0:Int) (td:Option Addr) (tn tc:Nat) (hn:(0:Int)<(n:Int)) (hP:w.cell? ⟨P,0,none⟩=some (.slice (some ⟨lb,lo,none⟩) n c)) (h0:w.cell? ⟨lb,lo,none⟩=some (.int .i64 v0)) (o:Bool) (ho:(!(v == v0))=o) :
  Calls Tryz.prog 74 #[.agg #[.int .i64 v,.slice td tn tc],.pointer (some ⟨P,0,none⟩)] w (Ret (.bool o) w):=by
 have hT:=Rw.new w 31 [.int .i64 v,.slice td tn tc];have hb:=(Below.refl w.heap.size w).alloc (Nat.le_refl _) (.cells #[.int .i64 v,.slice td tn tc] 31);have t0:=hT.drew.cell 0;simp only [List.getElem?_cons_zero] at t0;have p0:=cell_keep hb.drew hP;have c0:=cell_keep hb.drew h0;have hin:=And.intro t0 (And.intro p0 (And.intro c0 t0));subst ho;have hn1:(1:Int)≤n:=by omega
 have hn0:0<n:=by omega
 clear hT hP h0;go_enter Tryz.func74,Tryz.ntmps74;go_wp2
 go_region_held3 (fun w'=>w'.cell? ⟨w.heap.size,0,none⟩=some (.int .i64 v)∧w'.cell? ⟨P,0,none⟩=some (.slice (some ⟨lb,lo,none⟩) n c)∧w'.cell? ⟨lb,lo,none⟩=some (.int .i64 v0)∧w'.cell? ⟨w.heap.size,0,none⟩=some (.int .i64 v))
  (first|assumption|exact h_c4 (by assumption) (by assumption))
  (first|fail)
 all_goals
  go_wp2;go_ret;exact ⟨rfl,hb.drew⟩
def likeE (l:List PV):Int:=
 match l.find? (fun x=>!(checkE x.1 x.2 == 0)) with
 | some x=>checkE x.1 x.2
 | none=>match l with
  | []=>1
  | y::_=>if l.any (fun x=>!(x.1 == y.1)) then 1 else 0
theorem like_bad {l:List PV} {i:Nat} (h:i<l.length) (h1:∀ j (hj:j<l.length),j<i→checkE l[j].1 l[j].2=0) (h2:¬ checkE l[i].1 l[i].2=0):likeE l=checkE l[i].1 l[i].2:=by
 have e:l.find? (fun x=>!(checkE x.1 x.2 == 0))=some l[i]:=by
  rw [List.find?_eq_some_iff_getElem];refine ⟨by simpa using h2,i,h,rfl,fun j hj=>?_⟩
  have:=h1 j (by omega) hj
  simp [this]
 unfold likeE;rw [e]
theorem like_good {l:List PV} {y:PV} {t:List PV} (hl:l=y::t) (h1:∀ j (hj:j<l.length),checkE l[j].1 l[j].2=0):likeE l=if l.any (fun x=>!(x.1 == y.1)) then 1 else 0:=by
 have e:l.find? (fun x=>!(checkE x.1 x.2 == 0))=none:=by
  rw [List.find?_eq_none];intro x hx;obtain ⟨j,hj,rfl⟩:=List.getElem_of_mem hx;simp [h1 j hj]
 unfold likeE;rw [e,hl]
theorem checkall_any (w:World) (ad:Option Addr) (n c:Nat) (l:List PV) (hl:l.length=n) (hmax:n≤1000) (hp:PAt w ad l) (hs:∀ y∈l,y.2.length≤1000000∧∀ x∈y.2,x.1.size≤1000000∧x.2.2.1.size≤1000000∧-10000000≤x.2.2.2∧x.2.2.2≤10000000) (o:Int) (ho:likeE l=o) :
  Calls Tryz.prog 51 #[.slice ad n c] w (Ret (.int .i64 o) w):=by
 have hB:=Rw.new w 45 [.slice ad n c];have hb:=(Below.refl w.heap.size w).alloc (Nat.le_refl _) (.cells #[.slice ad n c] 45);have b0:=hB.cell 0;simp only [List.getElem?_cons_zero] at b0;have HO:=Lib.hid (And.intro ho hl);clear ho hl;go_enter Tryz.func51,Tryz.ntmps51;go_wp2;generalize w.alloc (.cells #[.slice ad n c] 45)=W0 at *
 go_loopw [9] (fun iv wr=>∃ i:Nat,iv=.int .i64 i∧i≤n∧(∀ j (hj:j<l.length),j<i→checkE l[j].1 l[j].2=0)∧Below W0.heap.size W0 wr) (fun iv _=>n-(RowKit.intOf iv).toNat)
 case atStart=>exact ⟨0,rfl,Nat.zero_le _,fun _ _ h=>absurd h (by omega),Below.refl _ _⟩
 case round =>
  obtain ⟨i,rfl,hi,hok,hbw⟩:=hrel;have hbb:=below_next hb hbw
  by_cases hik:i<n
  ·have hil:i<l.length:=by have:=HO.out.2;omega
   obtain ⟨lb,lo,td,tc,rfl,hlb,c0,c1,ht,htc⟩:=hp.below hbb i hil;obtain ⟨hx1,hx2⟩:=hs _ (List.getElem_mem hil);have hbad:=like_bad hil hok;have hnx:checkE l[i].1 l[i].2=0→∀ j (hj:j<l.length),j<i+1→checkE l[j].1 l[j].2=0:=fun h j hj hji=>by
    by_cases e:j<i
    ·exact hok j hj e
    ·obtain rfl:j=i:=by omega
     exact h
   generalize l[i]=x at *;obtain ⟨xv,xl⟩:=x;simp only at c0 c1 ht htc hx1 hx2 hbad hnx;obtain ⟨e0,he0⟩:∃ e0,checkE xv xl=e0:=⟨_,rfl⟩;rw [he0] at hbad hnx;have hbx:=(Below.refl wr.heap.size wr).alloc (Nat.le_refl _) (.cells #[.int .i64 xv,.slice td xl.length tc] 31);have hch:=check_any (wr.alloc (.cells #[.int .i64 xv,.slice td xl.length tc] 31)) xv td xl.length tc xl rfl hx1 (ht.alloc _) hx2 e0 he0;clear hs hp he0 hx1 hx2;go_wp2_with fail;refine hch.mono ?_;rintro e V ⟨rfl,hq⟩;have hbV:=below_next hbx hq;have hbV2:=below_next hbw hbV;have hbV3:=below_next hb hbV2;clear hch hq c0 c1 ht hbx hbV
   by_cases h0:e0=0
   ·subst h0;have HN:=Lib.hid (hnx rfl);clear hbad hnx hok;go_wp2;exact ⟨⟨i+1,rfl,hik,HN.out,hbV2⟩,by simp [RowKit.intOf];omega⟩
   ·have e1:o=e0:=by rw [← HO.out.1];exact hbad h0
    subst e1;clear hbad hnx hok HO;go_wp2;go_ret;exact ⟨rfl,hbV3⟩
  ·obtain rfl:i=n:=by omega
   have hB2:=hB.below hbw hB.lt;have b1:=hB2.cell 0;simp only [List.getElem?_cons_zero] at b1
   cases hll:l with
   | nil =>
    have e0:i=0:=by rw [← HO.out.2,hll];rfl
    have e1:o=1:=by rw [← HO.out.1,hll];rfl
    subst e1;subst e0;clear HO hok hs hp hB2 b0;go_wp2;go_ret;exact ⟨rfl,hbb⟩
   | cons y t =>
    have hin:(0:Int)<(i:Int):=by
     have:=HO.out.2
     rw [hll] at this;simp only [List.length_cons] at this;omega
    have hi0:¬ (i:Int)=0:=by omega
    obtain ⟨lb,lo,td,tc,rfl,hlb,c0,c1,-⟩:=hp.below hbb 0 (by rw [hll];simp);have hlik:=like_good hll (fun j hj=>hok j hj (by have:=HO.out.2;omega));have hpb:=hp.below hbb;have y0:l[0]'(by rw [hll];simp)=y:=by simp [hll]
    rw [y0] at c0;simp only [Nat.zero_mul,Nat.add_zero] at c0;have hcon:=containsP_any (fun x=>!(x.1 == y.1)) 74 #[.pointer (some ⟨w.heap.size,0,none⟩)] (fun _ _=>by kernel_rfl) wr (some ⟨lb,lo,none⟩) i c l HO.out.2 (by omega) hpb
     (fun W hq' x _ td' tc'=>by
      rw [show (#[.agg #[.int .i64 x.1,.slice td' x.2.length tc']]++#[.pointer (some ⟨w.heap.size,0,none⟩)]:Array Value)=#[.agg #[.int .i64 x.1,.slice td' x.2.length tc'],.pointer (some ⟨w.heap.size,0,none⟩)] from rfl];exact unlike_any W w.heap.size lb lo i c x.1 y.1 td' x.2.length tc' hin (cell_keep hq' b1) (cell_keep hq' c0) _ rfl)
    obtain ⟨qa,hqa⟩:∃ qa,(l.any fun x=>!(x.1 == y.1))=qa:=⟨_,rfl⟩;rw [hqa] at hcon hlik;have HL:=Lib.hid hlik;clear hlik hok hs hp hqa hpb y0 hll c0 c1;go_wp2_with fail;refine hcon.mono ?_;rintro e V ⟨rfl,hq⟩;have hbV:=below_next hbb hq;clear hcon hq b1 hB2
    cases qa with
    | true =>
     have e1:o=1:=by rw [← HO.out.1,HL.out];rfl
     subst e1;clear HO HL;go_wp2;go_ret;exact ⟨rfl,hbV⟩
    | false =>
     have e1:o=0:=by rw [← HO.out.1,HL.out];rfl
     subst e1;clear HO HL;go_wp2;go_ret;exact ⟨rfl,hbV⟩
theorem find_good {l:List PV} (h:likeE l=0):∃ y t,l=y::t∧(∀ x∈l,checkE x.1 x.2=0)∧∀ x∈l,x.1=y.1:=by
 unfold likeE at h
 cases hf:l.find? (fun x=>!(checkE x.1 x.2 == 0)) with
 | some x =>
  try rw [hf] at h
  have h1:=List.find?_some hf;simp only [Bool.not_eq_true',beq_eq_false_iff_ne] at h1;exact absurd h h1
 | none =>
  try rw [hf] at h
  have hall:∀ x∈l,checkE x.1 x.2=0:=fun x hx=>by
   have:=List.find?_eq_none.1 hf x hx
   simpa using this
  cases l with
  | nil=>cases h
  | cons y t =>
   refine ⟨y,t,rfl,hall,fun x hx=>?_⟩;simp only at h
   split at h
   ·cases h
   ·rename_i h2
    have h3:((y::t).any fun x=>!(x.1 == y.1))=false:=by simpa using h2
    have h4:=List.any_eq_false.1 h3 x hx;simpa using h4
def rawOK (l:List PV):Prop:=∀ y∈l,y.2.length≤1000000∧∀ x∈y.2,x.1.size≤1000000∧x.2.2.1.size≤1000000∧-10000000≤x.2.2.2∧x.2.2.2≤10000000
theorem padd_any (w:World) (k N M:Nat) (hk:250≤k) (hk2:k≤5000) (ad:Option Addr) (n c:Nat) (l:List PV) (hn:l.length=n) (hc:n≤c) (hmax:n≤1000) (hN:n*N<256 ^ k) (hM:n*M≤4000) (hp:PAt w ad l) (hraw:rawOK l)
  (hf:likeE l=0→∀ x∈l,Fits N (x.2.map tdv)∧x.2.length≤M∧∀ z∈x.2,fitsN k z.2) :
  Calls Tryz.prog 29 #[.slice ad n c] w
   (fun e w'=>(∃ y t,l=y::t∧likeE l=0∧PolyOut w w' e y.1 ((polyOf ((l.map fun x=>x.2.map tdv).flatten)).map canonT))∨(likeE l≠0∧PolyErr w w' e (likeE l))):=by
 have hR:=Rw.new w 31 [.int .i64 0,.slice none 0 0];have hb:=(Below.refl w.heap.size w).alloc (Nat.le_refl _) (.cells #[.int .i64 0,.slice none 0 0] 31);go_enter Tryz.func29,Tryz.ntmps29;go_wp2_with fail;generalize w.alloc (.cells #[.int .i64 0,.slice none 0 0] 31)=W0 at *;obtain ⟨o,ho⟩:∃ o,likeE l=o:=⟨_,rfl⟩;refine (checkall_any W0 ad n c l hn hmax (hp.below hb) hraw o ho).mono ?_;rintro e W1 ⟨rfl,hq⟩;replace hR:=hR.below hq hR.lt;replace hb:=below_next hb hq
 by_cases h0:o=0
 ·subst h0;obtain ⟨⟨v,t⟩,l',rfl,hall,hsame⟩:=find_good ho;have hf2:=hf ho;have hsum:=sum_any W1 k N M hk hk2 ad n c v t l' hn hc (by omega) hN hM (hp.below hb) (fun x hx=>⟨(hf2 x hx).1,(hf2 x hx).2.1⟩) (fun x hx=>(check_ok (hall x hx)).2.2.2.1) (fun x hx z hz=>⟨(hf2 x hx).2.2 z hz,((hraw x hx).2 z hz).1⟩);have HO:=Lib.hid ho;clear ho hf hf2 hall hsame hraw hq;go_wp2_with fail;refine hsum.mono ?_;rintro e W2 ⟨od,oc,rfl,hoc,hot,hnew,hq⟩;have hRlt:=hR.lt;replace hR:=hR.below hq hR.lt;replace hb:=below_next hb hq;obtain ⟨r0,r1,r2,r3⟩:=hR.facts2;clear hsum hq hp;go_wp2;exact ret_poly rfl rfl rfl (hR.set2 _ _) (.inl ⟨_,_,rfl,HO.out,od,oc,by rw [List.length_map];rfl,hoc,hot.far2 (r:=w.heap.size) (fun lb lo h=>by have:=hnew lb lo h;omega) _ _ _ _,fun lb lo h=>by have:=hnew lb lo h;omega,pbelow_set2 hb (Nat.le_refl _) _ _ _ _⟩)
 ·obtain ⟨r0,r1,r2,r3⟩:=hR.facts2;have HO:=Lib.hid (And.intro h0 ho);clear ho hf hraw hq hp;go_wp2;exact ret_poly rfl rfl rfl (hR.set2 _ _) (.inr ⟨by rw [HO.out.2];exact HO.out.1,by rw [HO.out.2];exact ⟨rfl,pbelow_set2 hb (Nat.le_refl _) _ _ _ _⟩⟩)
theorem pdegs_any (w:World) (v:Int) (td:Option Addr) (n c:Nat) (l:List TV) (hl:l.length=n) (hmax:n≤1000000) (hp:TAt w td l) (hs:∀ x∈l,x.1.size≤1000000∧x.2.2.1.size≤1000000∧-10000000≤x.2.2.2∧x.2.2.2≤10000000) (ns:List Int) (hns:(if checkE v l=0 then (gl v.toNat l).map (fun n:Nat=>(n:Int)) else [])=ns) :
  Calls Tryz.prog 16 #[.agg #[.int .i64 v,.slice td n c]] w (RetI ns w):=by
 have hP:=Rw.new w 31 [.int .i64 v,.slice td n c];have hb:=(Below.refl w.heap.size w).alloc (Nat.le_refl _) (.cells #[.int .i64 v,.slice td n c] 31);obtain ⟨o,ho⟩:∃ o,checkE v l=o:=⟨_,rfl⟩;have hch:=check_any (w.alloc (.cells #[.int .i64 v,.slice td n c] 31)) v td n c l hl hmax (hp.alloc _) hs o ho;go_enter Tryz.func16,Tryz.ntmps16;go_wp2_with fail;refine hch.mono ?_;rintro e W1 ⟨rfl,hq⟩;replace hb:=below_next hb hq;have hP1:=(hP.below hq hP.lt).facts2;obtain ⟨p0,p1,-⟩:=hP1;rw [ho] at hns
 by_cases h0:o=0
 ·subst h0;obtain ⟨hv,-,hg,-⟩:=check_ok ho;obtain ⟨m,rfl⟩:∃ m:Nat,v=m:=⟨v.toNat,by omega⟩;rw [if_pos rfl,Int.toNat_natCast] at hns;have hgr:=greatest_any W1 m td n c l hl hmax (by omega) (hp.below hb) (fun x hx=>(good_form (hg x hx)).2.2);rw [hns] at hgr;clear hch hq hs ho hg hns hP hl;go_wp2_with fail;refine hgr.mono ?_;rintro e W2 ⟨a2,c2,rfl,hri,-,hq⟩;go_wp2;go_ret;exact ⟨a2,c2,rfl,hri,below_next hb hq⟩
 ·rw [if_neg h0] at hns;subst hns;clear hch hq hs ho hP hp;go_wp2;go_ret;exact ⟨none,0,rfl,RI.nil _ _,hb⟩
def mulV (p q:List TV):List TV:=(polyOf (prodTD mulM (p.map tdv) (q.map tdv))).map canonT
theorem times_good (w:World) (a A b B v:Nat) (hv:v≤1000) (pd qd:Option Addr) (pc qc:Nat) (p q:List TV) (hpc:p.length≤pc) (hqc:q.length≤qc) (hn4:p.length≤4000) (hm4:q.length≤4000) (hnm:p.length*q.length≤4000) (hpt:TAt w pd p) (hqt:TAt w qd q)
  (hp:Good a A v p) (hq:Good b B v q) (hab:a+b≤2000) (hA:A*2 ^ (2000-a)<256 ^ 1000) (hB:B*2 ^ (2000-b)<256 ^ 1000) (hAB:4000*(A*B*2 ^ (2000-(a+b)))<256 ^ 1000) :
  Calls Tryz.prog 53 #[.agg #[.int .i64 (v:Int),.slice pd p.length pc],.agg #[.int .i64 (v:Int),.slice qd q.length qc]] w
   (fun e w'=>(okAll p q∧PolyOut w w' e v (mulV p q))∨(¬ okAll p q∧PolyErr w w' e 3)):=by
 have op:=hp.okN (k:=1000) (by decide) (by decide) (by omega) hA;have oq:=hq.okN (k:=1000) (by decide) (by decide) (by omega) hB;refine times_any w 1000 (A*B*2 ^ (2000-(a+b))) v (by decide) (by decide) hv pd qd p.length q.length pc qc p q rfl rfl hpc hqc hn4 hm4 hnm hpt hqt (fun x hx=>⟨(op x hx).2,(hp.1 x hx).1⟩) (fun x hx=>⟨(oq x hx).2,(hq.1 x hx).1⟩) hp.2.1 hq.2.1 (fun x hx=>?_) (fun y hy=>?_) hAB
 ·obtain ⟨z,h1,h2⟩:=hp.2.2.2.mem (List.mem_map_of_mem (f:=tdv) hx);have h3:=GF.fits (u:=a+b) hab (GF.scale h1 hq.2.2.2);exact h3.mono (Nat.mul_le_mul_right _ (Nat.mul_le_mul_right _ h2))
 ·obtain ⟨z,h1,h2⟩:=hq.2.2.2.mem (List.mem_map_of_mem (f:=tdv) hy);have h3:=GF.fits (u:=b+a) (by omega) (GF.scale h1 hp.2.2.2);rw [Nat.add_comm b a] at h3;refine h3.mono (Nat.mul_le_mul_right _ ?_);rw [Nat.mul_comm];exact Nat.mul_le_mul_left _ h2
theorem merge2_one_len (x:TD) (l:List TD):(merge2 [x] l).length≤l.length+1:=by
 have:=merge2_len [x] l
 simp at this;omega
theorem gath_len:∀ l:List TD,(gath l).length≤l.length
 | []=>Nat.le_refl _
 | x::l=>by
  have h1:=merge2_one_len x (gath l);have h2:=gath_len l;show (merge2 [x] (gath l)).length≤l.length+1;omega
theorem polyOf_len (l:List TD):(polyOf l).length≤l.length:=Nat.le_trans (List.length_filter_le _ _) (gath_len l)
theorem prod_len (q:List TD):∀ p:List TD,(prodTD mulM p q).length=p.length*q.length
 | []=>by simp [prodTD]
 | x::p=>by
  show (scaleT mulM x q++prodTD mulM p q).length=_;rw [List.length_append,prod_len q p];simp only [scaleT,List.length_map,List.length_cons];rw [Nat.add_mul,Nat.one_mul,Nat.add_comm]
theorem mulV_len (p q:List TV):(mulV p q).length≤p.length*q.length:=by
 unfold mulV;rw [List.length_map]
 have:=polyOf_len (prodTD mulM (p.map tdv) (q.map tdv))
 rw [prod_len,List.length_map,List.length_map] at this;exact this
theorem good_self {u A v:Nat} {p:List TV} (h:Good u A v p):(polyOf (p.map tdv)).map canonT=p:=by
 have e:polyOf (p.map tdv)=p.map tdv:=rising_one (polyOf_rising _) h.2.1 (polyOf_none _) h.2.2.1 (polyOf_coef _);rw [e,List.map_map]
 conv=>rhs;rw [← List.map_id p]
 exact List.map_congr_left fun x hx=>canon_of (h.1 x hx).2
open Classical in
noncomputable def mulAll:List TV→List (List TV)→Option (List TV)
 | p,[]=>some p
 | p,q::l=>if okAll p q then mulAll (mulV p q) l else none
theorem mulAll_snoc:∀ (p:List TV) (l:List (List TV)) (q r:List TV),mulAll p l=some r→(okAll r q→mulAll p (l++[q])=some (mulV r q))∧(¬ okAll r q→∀ t,mulAll p (l++q::t)=none)
 | p,[],q,r,h=>by
  have e:p=r:=by
   unfold mulAll at h;exact Option.some.inj h
  subst e;refine ⟨fun h1=>?_,fun h1 t=>?_⟩
  ·show mulAll p [q]=_;unfold mulAll;rw [if_pos h1];rfl
  ·show mulAll p (q::t)=_;unfold mulAll;rw [if_neg h1]
 | p,x::l,q,r,h=>by
  unfold mulAll at h
  split at h
  ·rename_i h1
   obtain ⟨g1,g2⟩:=mulAll_snoc (mulV p x) l q r h;refine ⟨fun h2=>?_,fun h2 t=>?_⟩
   ·show mulAll p (x::(l++[q]))=_;unfold mulAll;rw [if_pos h1];exact g1 h2
   ·show mulAll p (x::(l++q::t))=_;unfold mulAll;rw [if_pos h1];exact g2 h2 t
  ·cases h
def MuI (u A M v:Nat) (p:List TV) (t:List PV) (w W2 wr:World) (i:Nat):Prop:=
 ∃ (cur:List TV) (od:Option Addr) (oc:Nat),mulAll p ((t.take i).map Prod.snd)=some cur∧Good ((i+1)*u) (A ^ (i+1)) v cur∧cur.length≤M ^ (i+1)∧Rw wr W2.heap.size 31 [.int .i64 (v:Int),.slice od cur.length oc]∧cur.length≤oc∧TAt wr od cur ∧
  (∀ lb lo,od=some ⟨lb,lo,none⟩→w.heap.size<lb∧(0<cur.length→lb≠W2.heap.size))∧Rw wr w.heap.size 31 [.int .i64 0,.slice none 0 0]∧Below w.heap.size w wr
theorem pmul_any (w:World) (u A M:Nat) (hA1:1≤A) (hM1:1≤M) (ad:Option Addr) (n c:Nat) (l:List PV) (hn:l.length=n) (hc:n≤c) (hmax:n≤10) (hu:n*u≤2000) (hMn:M ^ n≤4000) (hMM:M≤4000) (hA:4000*(A ^ n*2 ^ 2000)<256 ^ 1000) (hp:PAt w ad l) (hraw:rawOK l)
  (hg:likeE l=0→∀ x∈l,Good u A x.1.toNat x.2∧x.2.length≤M) :
  Calls Tryz.prog 25 #[.slice ad n c] w
   (fun e w'=>(∃ v p t R,l=(v,p)::t∧likeE l=0∧mulAll p (t.map Prod.snd)=some R∧PolyOut w w' e v R)∨(likeE l≠0∧PolyErr w w' e (likeE l))∨(∃ v p t,l=(v,p)::t∧likeE l=0∧mulAll p (t.map Prod.snd)=none∧PolyErr w w' e 3)):=by
 have HA:=Lib.hid hA;clear hA;have hR:=Rw.new w 31 [.int .i64 0,.slice none 0 0];have hb:=(Below.refl w.heap.size w).alloc (Nat.le_refl _) (.cells #[.int .i64 0,.slice none 0 0] 31);go_enter Tryz.func25,Tryz.ntmps25;go_wp2_with fail;generalize w.alloc (.cells #[.int .i64 0,.slice none 0 0] 31)=W0 at *;obtain ⟨o,ho⟩:∃ o,likeE l=o:=⟨_,rfl⟩;refine (checkall_any W0 ad n c l hn (by omega) (hp.below hb) hraw o ho).mono ?_;rintro e W1 ⟨rfl,hq⟩;replace hR:=hR.below hq hR.lt;replace hb:=below_next hb hq
 by_cases h0:o=0
 ·subst h0;obtain ⟨⟨vi,p⟩,t,rfl,hall,hsame⟩:=find_good ho;have hg2:=hg ho;have hv12:=(check_ok (hall _ List.mem_cons_self)).1;simp only at hv12 hsame;obtain ⟨v,rfl⟩:∃ v:Nat,vi=v:=⟨vi.toNat,by omega⟩;have hgp:=hg2 _ List.mem_cons_self;simp only [Int.toNat_natCast] at hgp;have hgt:∀ x∈t,x.1=(v:Int)∧Good u A v x.2∧x.2.length≤M:=fun x hx=>by
   have h1:=hsame x (List.mem_cons_of_mem _ hx);have h2:=hg2 x (List.mem_cons_of_mem _ hx);rw [h1,Int.toNat_natCast] at h2;exact ⟨h1,h2⟩
  have hn1:t.length+1=n:=hn;have h1n:1≤n:=by omega
  have hA2:∀ i,i≤n→4000*(A ^ i*2 ^ 2000)<256 ^ 1000:=fun i hi=>Nat.lt_of_le_of_lt (Nat.mul_le_mul_left _ (Nat.mul_le_mul_right _ (Nat.pow_le_pow_right hA1 hi))) HA.out;have hA4:∀ i y,i≤n→4000*(A ^ i*2 ^ (2000-y))<256 ^ 1000:=fun i y hi=>Nat.lt_of_le_of_lt (Nat.mul_le_mul_left _ (Nat.mul_le_mul_left _ (Nat.pow_le_pow_right (by decide) (Nat.sub_le _ _)))) (hA2 i hi);have hA1b:=Lib.hid (show A*2 ^ (2000-u)<256 ^ 1000 from Nat.lt_of_le_of_lt (Nat.le_trans (Nat.mul_le_mul_left _ (Nat.pow_le_pow_right (by decide) (Nat.sub_le _ _))) (Nat.le_mul_of_pos_left (n:=4000) _ (by decide))) (by have h1:=hA2 1 h1n;rwa [Nat.pow_one] at h1));have hf1:Fits (A*2 ^ (2000-u)) (p.map tdv):=GF.fits (Nat.le_trans (Nat.le_mul_of_pos_left u (by omega)) hu) hgp.1.2.2.2;have hok1:=hgp.1.okN (k:=1000) (by decide) (by decide) (Nat.le_trans (Nat.le_mul_of_pos_left u (by omega)) hu) hA1b.out;have hsum:=sum_any W1 1000 (A*2 ^ (2000-u)) M (by decide) (by decide) ad 1 c (v:Int) p [] rfl (by omega) (by omega) (by rw [Nat.one_mul];exact hA1b.out) (by omega) ((hp.below hb).take 1) (fun x hx=>by obtain rfl:=List.mem_singleton.1 hx;exact ⟨hf1,hgp.2⟩) (fun x hx=>by obtain rfl:=List.mem_singleton.1 hx;exact hgp.1.2.1)
   (fun x hx z hz=>by obtain rfl:=List.mem_singleton.1 hx;exact ⟨(hok1 z hz).1,by have:=(may_parts (hgp.1.1 z hz).1).1;omega⟩)
  rw [show ([((v:Int),p)].map fun x=>x.2.map tdv).flatten=p.map tdv by simp,good_self hgp.1] at hsum;have hc1:(1:Int)≤c:=by omega
  have hn1i:(1:Int)≤n:=by omega
  have htl:n-1=t.length:=by omega
  have hpt:∀ W,Below w.heap.size w W→∃ lb lo,ad=some ⟨lb,lo,none⟩∧PAt W (some ⟨lb,lo+2,none⟩) t:=fun W hW=>by
   obtain ⟨lb,lo,_,_,e,-⟩:=hp 0 (by simp);subst e;exact ⟨lb,lo,rfl,by simpa using (hp.below hW).drop 1⟩
  have hHid:=Lib.hid (And.intro ho (And.intro hgt (And.intro hA4 hgp)));clear ho hg hg2 hall hsame hgt hA2 hA4 hf1 hok1 hraw hq hgp;go_wp2_with fail;refine hsum.mono ?_;rintro e W2 ⟨od,oc,rfl,hoc,hot,hnew,hq⟩;have hRlt:=hR.lt;replace hR:=(hR.below hq hR.lt).alloc (.cells #[.int .i64 (v:Int),.slice od p.length oc] 31);have hb2:=below_next hb hq;have hB:=Rw.new W2 31 [.int .i64 (v:Int),.slice od p.length oc];have hb3:=hb2.alloc hb2.size (.cells #[.int .i64 (v:Int),.slice od p.length oc] 31);have hot2:=hot.alloc (.cells #[.int .i64 (v:Int),.slice od p.length oc] 31);have hB5:w.heap.size<W2.heap.size:=by have:=hq.size;omega
  obtain ⟨lb,lo,rfl,-⟩:=hpt w (Below.refl _ _);have hPt:∀ W,Below w.heap.size w W→PAt W (some ⟨lb,lo+2,none⟩) t:=fun W hW=>by
   obtain ⟨lb',lo',e,h⟩:=hpt W hW;simp only [Option.some.injEq,Addr.mk.injEq,and_true] at e;obtain ⟨rfl,rfl⟩:=e;exact h
  have hfr:∀ lb lo,od=some ⟨lb,lo,none⟩→w.heap.size<lb∧(0<p.length→lb≠W2.heap.size):=fun lb lo e=>by
   have h1:=hnew lb lo e;refine ⟨by omega,fun h2=>?_⟩;obtain ⟨lb',lo',e',hl,-⟩:=hot 0 h2;rw [e] at e';simp only [Option.some.injEq,Addr.mk.injEq,and_true] at e';omega
  have hI0:MuI u A M v p t w W2 (W2.alloc (.cells #[.int .i64 (v:Int),.slice od p.length oc] 31)) 0:=⟨p,od,oc,rfl,by rw [Nat.one_mul,Nat.pow_one];exact hHid.out.2.2.2.1,by rw [Nat.pow_one];exact hHid.out.2.2.2.2,hB,hoc,hot2,hfr,hR,hb3⟩;clear hsum hot hq hb hA1b hp hpt hB hot2 hfr hR hb3 hnew hoc;go_wp2
  all_goals
   go_loopw [6,24] (fun ev iv wr=>∃ i:Nat,ev=.int .i64 0∧iv=.int .i64 i∧i≤t.length∧MuI u A M v p t w W2 wr i) (fun _ iv _=>t.length-(RowKit.intOf iv).toNat)
   case atStart=>exact ⟨0,rfl,rfl,Nat.zero_le _,hI0⟩
   case round =>
    clear hI0;obtain ⟨i,rfl,rfl,hi,cur,od',oc',hcur,hgc,hlc,hB,hoc,hot,hfr,hR,hb⟩:=hrel
    by_cases hik:i<t.length
    ·first
     | (exfalso;omega)
     | skip
     all_goals
      obtain ⟨hxv,hxg,hxl⟩:=hHid.out.2.1 _ (List.getElem_mem hik);obtain ⟨lb',lo',td,tc,e',hl',c0,c1,ht,htc⟩:=hPt wr hb i hik;simp only [Option.some.injEq,Addr.mk.injEq,and_true] at e';obtain ⟨rfl,rfl⟩:=e';have hs1:(t.take (i+1)).map Prod.snd=(t.take i).map Prod.snd++[t[i].2]:=map_take_succ Prod.snd hik;have hs2:t.map Prod.snd=(t.take i).map Prod.snd++t[i].2::(t.drop (i+1)).map Prod.snd:=by
       conv=>lhs;rw [← List.take_append_drop i t,List.drop_eq_getElem_cons hik]
       rw [List.map_append,List.map_cons]
      have hg1:=(mulAll_snoc p ((t.take i).map Prod.snd) t[i].2 cur hcur).1;have hg2:¬ okAll cur t[i].2→mulAll p ((t.take i).map Prod.snd++t[i].2::(t.drop (i+1)).map Prod.snd)=none:=fun h=>(mulAll_snoc p ((t.take i).map Prod.snd) t[i].2 cur hcur).2 h ((t.drop (i+1)).map Prod.snd);rw [← hs1] at hg1;rw [← hs2] at hg2;generalize t[i]=x at *;obtain ⟨xv,xl⟩:=x;simp only at hxv hxg hxl c0 c1 ht htc hg1 hg2;subst hxv;have hi2:i+2≤n:=by omega
      have hM2:M ^ (i+2)≤4000:=Nat.le_trans (Nat.pow_le_pow_right hM1 hi2) hMn;have hM3:M ^ (i+1)≤4000:=Nat.le_trans (Nat.pow_le_pow_right hM1 (by omega)) hMn;have hprod:cur.length*xl.length≤M ^ (i+2):=Nat.le_trans (Nat.mul_le_mul hlc hxl) (Nat.le_refl _);have hu2:(i+1)*u+u≤2000:=by
       have h1:(i+2)*u≤n*u:=Nat.mul_le_mul_right _ hi2;have h2:(i+1)*u+u=(i+2)*u:=by rw [← Nat.succ_mul]
       omega
      have hbx:=hb.alloc hb.size (.cells #[.int .i64 (v:Int),.slice td xl.length tc] 31);have hgood:=good_prod hgc hxg;have htg:=times_good (wr.alloc (.cells #[.int .i64 (v:Int),.slice td xl.length tc] 31)) ((i+1)*u) (A ^ (i+1)) u A v (by omega) od' td oc' tc cur xl hoc htc (by omega) (by omega) (by omega) (hot.alloc _) (ht.alloc _) hgc hxg hu2
       (Nat.lt_of_le_of_lt (Nat.le_mul_of_pos_left (n:=4000) _ (by decide)) (hHid.out.2.2.1 (i+1) _ (by omega))) (by have h1:=Nat.lt_of_le_of_lt (Nat.le_mul_of_pos_left (n:=4000) _ (by decide)) (hHid.out.2.2.1 1 u (by omega));rwa [Nat.pow_one] at h1) (hHid.out.2.2.1 (i+2) _ hi2)
      have hB2:=hB.alloc (.cells #[.int .i64 (v:Int),.slice td xl.length tc] 31);have hR2:=hR.alloc (.cells #[.int .i64 (v:Int),.slice td xl.length tc] 31);obtain ⟨b0,b1,-⟩:=hB2.facts2;clear hcur hot ht hB hR hb hgc hxg;go_wp2_with fail;refine htg.mono ?_;rintro e V hor
      rcases hor with ⟨hok,od2,oc2,rfl,hoc2,hot3,hnew2,hq⟩|⟨hno,rfl,hq⟩
      ·have hBl:=hB2.lt;have hB3:=hB2.below hq hB2.lt;have hR3:=hR2.below hq hR2.lt;have hb3:=below_next hbx hq;obtain ⟨d0,d1,d2,d3⟩:=hB3.facts2;have hR4:=hR3.far2 (g:=W2.heap.size) (by omega) 0 1 (.int .i64 (v:Int)) (.slice od2 (mulV cur xl).length oc2);have hB4:=hB3.set2 (.int .i64 (v:Int)) (.slice od2 (mulV cur xl).length oc2);have hb4:=pbelow_set2 hb3 (b:=W2.heap.size) (by omega) 0 1 (.int .i64 (v:Int)) (.slice od2 (mulV cur xl).length oc2);have hot4:=hot3.far2 (r:=W2.heap.size) (fun lb lo h=>by have:=hnew2 lb lo h;omega) 0 1 (.int .i64 (v:Int)) (.slice od2 (mulV cur xl).length oc2);have hI:MuI u A M v p t w W2 ((V.setCell ⟨W2.heap.size,0,none⟩ (.int .i64 (v:Int))).setCell ⟨W2.heap.size,1,none⟩ (.slice od2 (mulV cur xl).length oc2)) (i+1):=
        ⟨mulV cur xl,od2,oc2,hg1 hok,by rw [show (i+1+1)*u=(i+1)*u+u by rw [Nat.succ_mul],Nat.pow_succ];exact hgood hok,by
         have h1:=mulV_len cur xl;rw [show i+1+1=i+2 from rfl];omega,hB4,hoc2,hot4,fun lb lo h=>by have:=hnew2 lb lo h;exact ⟨by omega,fun _=>by omega⟩,hR4,hb4⟩
       clear htg hq hB2 hR2 hB3 hR3 hb3 hot3 hot4 hB4 hR4 hb4 hg1 hg2 hgood hnew2 hfr hs1 hs2 b0 b1;go_wp2
       first
        | exact ⟨⟨i+1,rfl,rfl,hik,hI⟩,by simp [RowKit.intOf];omega⟩
        | exact ⟨⟨i+1,rfl,hik,hI⟩,by simp [RowKit.intOf];omega⟩
        | exact ⟨⟨_,⟨i+1,rfl,rfl,hik,hI⟩,rfl⟩,by simp [RowKit.intOf];omega⟩
      ·have hBl:=hB2.lt;have hB3:=hB2.below hq hB2.lt;have hR3:=hR2.below hq hR2.lt;have hb3:=below_next hbx hq;obtain ⟨d0,d1,d2,d3⟩:=hB3.facts2;have hR4:=hR3.far2 (g:=W2.heap.size) (by omega) 0 1 (.int .i64 0) (.slice none 0 0);have hb4:=pbelow_set2 hb3 (b:=W2.heap.size) (by omega) 0 1 (.int .i64 0) (.slice none 0 0);obtain ⟨r0,r1,r2,r3⟩:=hR4.facts2;have HN:=Lib.hid (hg2 hno);clear htg hq hB2 hR2 hB3 hR3 hb3 hg1 hg2 hgood hfr hs1 hs2 b0 b1;go_wp2;exact ret_poly rfl rfl rfl (hR4.set2 _ _) (.inr (.inr ⟨_,_,_,rfl,hHid.out.1,HN.out,rfl,pbelow_set2 hb4 (Nat.le_refl _) _ _ _ _⟩))
    ·obtain rfl:i=t.length:=by omega
     rw [List.take_of_length_le (Nat.le_refl _)] at hcur;obtain ⟨b0,b1,-⟩:=hB.facts2;obtain ⟨r0,r1,r2,r3⟩:=hR.facts2;have HC:=Lib.hid hcur;clear hcur hB hPt hgc;go_wp2;exact ret_poly rfl rfl rfl (hR.set2 _ _) (.inl ⟨_,_,_,_,rfl,hHid.out.1,HC.out,od',oc',rfl,hoc,hot.far2 (r:=w.heap.size) (fun lb lo h=>by have:=(hfr lb lo h).1;omega) _ _ _ _,fun lb lo h=>by have:=(hfr lb lo h).1;omega,pbelow_set2 hb (Nat.le_refl _) _ _ _ _⟩)
 ·obtain ⟨r0,r1,r2,r3⟩:=hR.facts2;have HO:=Lib.hid (And.intro h0 ho);clear ho hg hraw hq hp;go_wp2;exact ret_poly rfl rfl rfl (hR.set2 _ _) (.inr (.inl ⟨by rw [HO.out.2];exact HO.out.1,by rw [HO.out.2];exact ⟨rfl,pbelow_set2 hb (Nat.le_refl _) _ _ _ _⟩⟩))
def constV (n:Nat) (c:NV):List TV:=(polyOf [tdv (oneB n,c)]).map canonT
theorem oneB_ok (n:Nat):okM (oneB n).data.toList=true∧(oneB n).data.toList.length=n:=by
 unfold oneB okM;refine ⟨?_,by simp⟩;rw [List.all_eq_true];intro b hb
 have:b=0:=by
  have h1:b∈List.replicate n (0:UInt8):=by simpa using hb
  exact (List.mem_replicate.1 h1).2
 subst this
 decide
theorem const_good {a C n:Nat} {c:NV} {z:Int} (hz:nvl c=gD a z) (hC:z.natAbs≤C):Good a C n (constV n c):=
 good_canon (fun x hx=>by obtain rfl:=List.mem_singleton.1 hx;exact oneB_ok n) ⟨z,0,hz,by omega,trivial⟩
theorem const_len (n:Nat) (c:NV):(constV n c).length≤1:=by
 unfold constV;rw [List.length_map];exact polyOf_len _
theorem const_ok {n:Nat} {c:NV} {p:List TV} (hp:∀ x∈p,mayB x.1 (n:Int)=true):okAll (constV n c) p:=by
 intro x hx y hy;obtain ⟨q,hq,rfl⟩:=List.mem_map.1 hx;obtain ⟨w,hw,e⟩:=polyOf_mem hq;obtain rfl:=List.mem_singleton.1 hw;refine okE_zip.2 fun k ha hb=>?_;have e1:(canonT q).1.data.toList=(oneB n).data.toList:=e.symm;have e2:((canonT q).1.data.toList[k]).toNat=0:=by
  have h1:∀ b∈(canonT q).1.data.toList,b=0:=fun b hb2=>by
   rw [e1] at hb2;have h2:b∈List.replicate n (0:UInt8):=by simpa [oneB] using hb2
   exact (List.mem_replicate.1 h2).2
  rw [h1 _ (List.getElem_mem hb)];rfl
 have h4:=okM_get (may_parts (hp y hy)).2 (k:=k) ha;omega
theorem scale_any (w:World) (u A a C:Nat) (v:Int) (td:Option Addr) (pc:Nat) (p:List TV) (hpc:p.length≤pc) (hn4:p.length≤4000) (hp:TAt w td p) (hraw:∀ x∈p,x.1.size≤1000000∧x.2.2.1.size≤1000000∧-10000000≤x.2.2.2∧x.2.2.2≤10000000)
  (m:Bool) (s:ByteArray) (d:Int) (z:Int) (hz:nvl (m,s,d)=gD a z) (hC:z.natAbs≤C) (hcf:fitsN 1000 (m,s,d)) (hau:a+u≤2000) (hC1:4000*(C*2 ^ 2000)<256 ^ 1000) (hA1:4000*(A*2 ^ 2000)<256 ^ 1000) (hCA:4000*(C*A*2 ^ 2000)<256 ^ 1000)
  (hg:checkE v p=0→Good u A v.toNat p) :
  Calls Tryz.prog 31 #[.agg #[.int .i64 v,.slice td p.length pc],.agg #[.bool m,.string s,.int .i64 d]] w
   (fun e w'=>(checkE v p=0∧PolyOut w w' e v (mulV (constV v.toNat (m,s,d)) p))∨(checkE v p≠0∧PolyErr w w' e (checkE v p))):=by
 have hcap:∀ X y,4000*(X*2 ^ 2000)<256 ^ 1000→4000*(X*2 ^ (2000-y))<256 ^ 1000:=fun X y h=>Nat.lt_of_le_of_lt (Nat.mul_le_mul_left _ (Nat.mul_le_mul_left _ (Nat.pow_le_pow_right (by decide) (Nat.sub_le _ _)))) h;have hcap1:∀ X y,4000*(X*2 ^ 2000)<256 ^ 1000→X*2 ^ (2000-y)<256 ^ 1000:=fun X y h=>Nat.lt_of_le_of_lt (Nat.le_mul_of_pos_left (n:=4000) _ (by decide)) (hcap X y h);have hfit:∀ n:Nat,n≤12→Fits (C*2 ^ (2000-a)) [tdv (oneB n,m,s,d)]:=fun n _=>GF.fits (u:=a) (Nat.le_trans (Nat.le_add_right _ _) hau) ⟨z,0,hz,hC,trivial⟩;have HCap:=Lib.hid (And.intro (hcap1 C a hC1) (And.intro (hcap1 A u hA1) (hcap (C*A) (a+u) hCA)));clear hC1 hA1 hCA hcap hcap1;have hP:=Rw.new w 31 [.int .i64 v,.slice td p.length pc];have hb:=(Below.refl w.heap.size w).alloc (Nat.le_refl _) (.cells #[.int .i64 v,.slice td p.length pc] 31);have hN:=Nk.new (w.alloc (.cells #[.int .i64 v,.slice td p.length pc] 31)) m s d;simp only [World.size_alloc] at hN;replace hP:=hP.alloc (.cells #[.bool m,.string s,.int .i64 d] 26);replace hb:=hb.alloc hb.size (.cells #[.bool m,.string s,.int .i64 d] 26);have hR:=Rw.new ((w.alloc (.cells #[.int .i64 v,.slice td p.length pc] 31)).alloc (.cells #[.bool m,.string s,.int .i64 d] 26)) 31 [.int .i64 0,.slice none 0 0];simp only [World.size_alloc] at hR;replace hP:=hP.alloc (.cells #[.int .i64 0,.slice none 0 0] 31);replace hN:=hN.alloc (.cells #[.int .i64 0,.slice none 0 0] 31);replace hb:=hb.alloc hb.size (.cells #[.int .i64 0,.slice none 0 0] 31)
 obtain ⟨o,ho⟩:∃ o,checkE v p=o:=⟨_,rfl⟩;obtain ⟨p0,p1,-⟩:=hP.facts2;go_enter Tryz.func31,Tryz.ntmps31;go_wp2_with fail;generalize ((w.alloc (.cells #[.int .i64 v,.slice td p.length pc] 31)).alloc (.cells #[.bool m,.string s,.int .i64 d] 26)).alloc (.cells #[.int .i64 0,.slice none 0 0] 31)=W0 at *;refine (check_any W0 v td p.length pc p rfl (by omega) (hp.below hb) hraw o ho).mono ?_;rintro e W1 ⟨rfl,hq⟩;replace hP:=hP.below hq hP.lt;replace hN:=hN.below hq;replace hR:=hR.below hq hR.lt;replace hb:=below_next hb hq;clear p0 p1 hq
 by_cases h0:o=0
 ·subst h0;obtain ⟨hv12,-,hgood,-⟩:=check_ok ho;have hg2:=hg ho;obtain ⟨n,rfl⟩:∃ n:Nat,v=n:=⟨v.toNat,by omega⟩;rw [Int.toNat_natCast] at hg2;have hcon:Calls Tryz.prog 18 #[.int .i64 (n:Int),.agg #[.bool m,.string s,.int .i64 d]] W1
   (fun e w'=>(∃ n' : Nat,(n:Int)=n'∧n'≤12∧PolyOut W1 w' e n' (constV n' (m,s,d)))∨(¬ (0≤(n:Int)∧(n:Int)≤12)∧PolyErr W1 w' e 1)):=const_any W1 1000 (C*2 ^ (2000-a)) (by decide) (by decide) (n:Int) m s d hfit hcf HCap.out.1
  obtain ⟨p0,p1,-⟩:=hP.facts2;obtain ⟨n0,n1,n2,-⟩:=hN.facts;have hpm:∀ x∈p,mayB x.1 (n:Int)=true:=fun x hx=>(hg2.1 x hx).1;have hokc:=const_ok (c:=(m,s,d)) hpm;have HO:=Lib.hid (And.intro ho (And.intro hg2 hokc));have hcg:=const_good (n:=n) hz hC;have hcl:=const_len n (m,s,d);clear ho hg hg2 hraw hgood hfit hokc hpm hz;go_wp2_with fail;refine hcon.mono ?_;rintro e W2 hor
  rcases hor with ⟨n',hnn,-,od,oc,rfl,hoc,hot,hnew,hq⟩|⟨hno,-⟩
  ·obtain rfl:n=n':=by omega
   have hP2:=hP.below hq hP.lt;have hR2:=hR.below hq hR.lt;have hb2:=below_next hb hq;have hF:=Rw.new W2 31 [.int .i64 (n:Int),.slice od (constV n (m,s,d)).length oc];have hP3:=hP2.alloc (.cells #[.int .i64 (n:Int),.slice od (constV n (m,s,d)).length oc] 31);have hR3:=hR2.alloc (.cells #[.int .i64 (n:Int),.slice od (constV n (m,s,d)).length oc] 31);have hb3:=hb2.alloc hb2.size (.cells #[.int .i64 (n:Int),.slice od (constV n (m,s,d)).length oc] 31);have hot3:=hot.alloc (.cells #[.int .i64 (n:Int),.slice od (constV n (m,s,d)).length oc] 31);have htg:=times_good (W2.alloc (.cells #[.int .i64 (n:Int),.slice od (constV n (m,s,d)).length oc] 31)) a C u A n (by omega) od td oc pc (constV n (m,s,d)) p hoc hpc (by omega) hn4 (Nat.le_trans (Nat.mul_le_mul_right _ hcl) (by omega)) hot3 (hp.below hb3) hcg HO.out.2.1 hau HCap.out.1 HCap.out.2.1 HCap.out.2.2;clear hcon hq hot hP2 hR2 hP hR hN hb hcg p0 p1;obtain ⟨p0,p1,-⟩:=hP3.facts2;obtain ⟨f0,f1,-⟩:=hF.facts2;go_wp2_with fail;refine htg.mono ?_;rintro e W3 hor
   rcases hor with ⟨-,od2,oc2,rfl,hoc2,hot2,hnew2,hq⟩|⟨hno,-⟩
   ·have hRlt:=hR3.lt;replace hR3:=hR3.below hq hR3.lt;replace hb3:=below_next hb3 hq;obtain ⟨r0,r1,r2,r3⟩:=hR3.facts2;clear htg hq hP3 hF p0 p1 f0 f1 hot3 n0 n1 n2;go_wp2;exact ret_poly rfl rfl rfl (hR3.set2 _ _) (.inl ⟨HO.out.1,by
     rw [Int.toNat_natCast];exact ⟨od2,oc2,rfl,hoc2,hot2.far2 (r:=w.heap.size+1+1) (fun lb lo h=>by have:=hnew2 lb lo h;omega) _ _ _ _,fun lb lo h=>by have:=hnew2 lb lo h;omega,pbelow_set2 hb3 (by omega) _ _ _ _⟩⟩)
   ·exact absurd HO.out.2.2 hno
  ·exact absurd hv12 hno
 ·obtain ⟨r0,r1,r2,r3⟩:=hR.facts2;have HO:=Lib.hid (And.intro h0 ho);clear ho hg hraw hp;go_wp2;exact ret_poly rfl rfl rfl (hR.set2 _ _) (.inr ⟨by rw [HO.out.2];exact HO.out.1,by rw [HO.out.2];exact ⟨rfl,pbelow_set2 hb (by omega) _ _ _ _⟩⟩)
def oneN:NV:=(false,fb 1,0)
theorem oneN_val:nvl oneN=gD 0 1∧fitsN 1000 oneN:=by
 have h1:(fb 1).size≤1:=by decide
 refine ⟨?_,?_⟩
 ·show nv false (fb 1) 0=gD 0 1;have e:wv false (fb 1)=1:=by decide
  unfold nv gD;rw [e];rfl
 ·unfold fitsN oneN;simp only;omega
open Classical in
noncomputable def powV (v:Nat) (p:List TV):Nat→Option (List TV)
 | 0=>some (constV v oneN)
 | i+1=>match powV v p i with
  | some c=>if okAll c p then some (mulV c p) else none
  | none=>none
open Classical in
theorem powV_some {v:Nat} {p c:List TV} {i:Nat} (h:powV v p i=some c):(okAll c p→powV v p (i+1)=some (mulV c p))∧(¬ okAll c p→∀ j,i<j→powV v p j=none):=by
 refine ⟨fun h1=>?_,fun h1 j hj=>?_⟩
 ·show (match powV v p i with|some c=>if okAll c p then some (mulV c p) else none|none=>none)=_;rw [h];simp only;rw [if_pos h1]
 ·induction j with
  | zero=>omega
  | succ j ih =>
   show (match powV v p j with|some c=>if okAll c p then some (mulV c p) else none|none=>none)=_
   by_cases e:j=i
   ·rw [e,h];simp only;rw [if_neg h1]
   ·rw [ih (by omega)]
theorem df_one:df (.ofIntWithPrec 1 0)=nu false (fb 1) 0:=by
 have h:=df_of (z:=1) 0 (by decide);exact h
theorem constV_one (n:Nat):0<(constV n oneN).length:=by
 have e:constV n oneN=[canonT (tdv (oneB n,oneN))]:=by
  have h1:nvl oneN≠0:=by
   rw [oneN_val.1];intro h;have h2:=congrArg Dyadic.toRat h;rw [gD_rat] at h2;simp at h2
  unfold constV polyOf gath gath;rw [merge2_nil];unfold dropNought;rw [List.filter_cons,if_pos (by show (!(nvl oneN == 0))=true;simpa using h1)];rfl
 rw [e];simp
def FreshT (W W1:World) (lb lo oc:Nat) (l:List TV):Prop:=TAt W (some ⟨lb,lo,none⟩) l∧l.length≤oc∧W1.heap.size≤lb∧lb<W.heap.size
theorem FreshT.below {W W' W1:World} {lb lo oc:Nat} {l:List TV} (h:FreshT W W1 lb lo oc l) (hq:Below W.heap.size W W'):FreshT W' W1 lb lo oc l:=⟨h.1.below hq,h.2.1,h.2.2.1,Nat.lt_of_lt_of_le h.2.2.2 hq.size⟩
theorem FreshT.alloc {W W1:World} {lb lo oc:Nat} {l:List TV} (h:FreshT W W1 lb lo oc l) (o:Obj):FreshT (W.alloc o) W1 lb lo oc l:=h.below ((Below.refl _ _).alloc (Nat.le_refl _) _)
theorem FreshT.lt {W W1:World} {lb lo oc:Nat} {l:List TV} (h:FreshT W W1 lb lo oc l):lb<W.heap.size:=h.2.2.2
theorem FreshT.drew {W W1:World} {lb lo oc:Nat} {l:List TV} (h:FreshT W W1 lb lo oc l):FreshT W.drew W1 lb lo oc l:=h
theorem FreshT.far {W W1:World} {lb lo oc:Nat} {l:List TV} (h:FreshT W W1 lb lo oc l) {p:Addr} (hp:lb≠p.block) (u:Value):FreshT (W.setCell p u) W1 lb lo oc l:=by
 refine ⟨fun k hk=>?_,h.2.1,h.2.2.1,by simpa using h.2.2.2⟩;obtain ⟨b,o,e,hl,h1,h2,h3,h4⟩:=h.1 k hk;simp only [Option.some.injEq,Addr.mk.injEq,and_true] at e;obtain ⟨rfl,rfl⟩:=e;have hc:∀ (q:Nat) (x:Value),W.cell? ⟨lb,q,none⟩=some x→(W.setCell p u).cell? ⟨lb,q,none⟩=some x:=fun q x hx=>(World.cell?_of_block (Below.heap_setCell W _ u lb hp)).trans hx;exact ⟨lb,lo,rfl,by simpa using hl,hc _ _ h1,hc _ _ h2,hc _ _ h3,hc _ _ h4⟩
theorem FreshT.fr {W W1:World} {lb lo oc:Nat} {l:List TV} (h:FreshT W W1 lb lo oc l) (A k:Nat) (u:Value) (hp:lb≠A:=by omega):FreshT (W.setCell ⟨A,k,none⟩ u) W1 lb lo oc l:=h.far (p:=⟨A,k,none⟩) hp u
theorem fresh_of {W V W1:World} {od:Option Addr} {oc n:Nat} (hs:W1.heap.size≤W.heap.size) (h1:(constV n oneN).length≤oc) (h2:TAt V od (constV n oneN)) (h3:∀ lb lo,od=some ⟨lb,lo,none⟩→W.heap.size≤lb):∃ lb lo,od=some ⟨lb,lo,none⟩∧W.heap.size≤lb∧FreshT V W1 lb lo oc (constV n oneN):=by
 obtain ⟨lb,lo,e,hl,-⟩:=h2 0 (constV_one n);subst e;exact ⟨lb,lo,rfl,h3 lb lo rfl,h2,h1,Nat.le_trans hs (h3 lb lo rfl),hl⟩
def PwI (u A M v:Nat) (p:List TV) (w:World) (P:Nat) (td:Option Addr) (pc:Nat) (wr:World) (i:Nat):Prop:=
 ∃ (cur:List TV) (od:Option Addr) (oc:Nat),powV v p i=some cur∧Good (i*u) (A ^ i) v cur∧cur.length≤M ^ i∧Rw wr P 31 [.int .i64 (v:Int),.slice od cur.length oc]∧cur.length≤oc∧TAt wr od cur ∧
  (∀ lb lo,od=some ⟨lb,lo,none⟩→w.heap.size+1<lb∧(0<cur.length→lb≠P))∧Rw wr (w.heap.size+1) 31 [.int .i64 0,.slice none 0 0]∧Rw wr w.heap.size 31 [.int .i64 (v:Int),.slice td p.length pc]∧Below w.heap.size w wr
theorem pow_any (w:World) (u A M K:Nat) (hA1:1≤A) (hM1:1≤M) (hK:K≤100) (hu:(K+1)*u≤2000) (hMn:M ^ (K+1)≤4000) (hA:4000*(A ^ (K+1)*2 ^ 2000)<256 ^ 1000) (v:Int) (td:Option Addr) (pc:Nat) (p:List TV) (hpc:p.length≤pc) (hpM:p.length≤M) (hM4:M≤4000) (hp:TAt w td p)
  (hraw:∀ x∈p,x.1.size≤1000000∧x.2.2.1.size≤1000000∧-10000000≤x.2.2.2∧x.2.2.2≤10000000) (n:Int) (hn:n≤K∨127<n) (hg:checkE v p=0→Good u A v.toNat p) :
  Calls Tryz.prog 27 #[.agg #[.int .i64 v,.slice td p.length pc],.int .i64 n] w
   (fun e w'=>(∃ R,checkE v p=0∧0≤n∧n≤127∧powV v.toNat p n.toNat=some R∧PolyOut w w' e v R)∨(checkE v p≠0∧PolyErr w w' e (checkE v p))∨(checkE v p=0∧¬ (0≤n∧n≤127)∧PolyErr w w' e 1)∨(checkE v p=0∧0≤n∧n≤127∧powV v.toNat p n.toNat=none∧PolyErr w w' e 3)):=by
 have hA4:∀ i y,i≤K+1→4000*(A ^ i*2 ^ (2000-y))<256 ^ 1000:=fun i y hi=>Nat.lt_of_le_of_lt (Nat.mul_le_mul_left _ (Nat.mul_le_mul (Nat.pow_le_pow_right hA1 hi) (Nat.pow_le_pow_right (by decide) (Nat.sub_le _ _)))) hA;have HCap:=Lib.hid hA4;clear hA hA4;have hP:=Rw.new w 31 [.int .i64 v,.slice td p.length pc];have hb:=(Below.refl w.heap.size w).alloc (Nat.le_refl _) (.cells #[.int .i64 v,.slice td p.length pc] 31);have hR:=Rw.new (w.alloc (.cells #[.int .i64 v,.slice td p.length pc] 31)) 31 [.int .i64 0,.slice none 0 0];simp only [World.size_alloc] at hR;replace hP:=hP.alloc (.cells #[.int .i64 0,.slice none 0 0] 31);replace hb:=hb.alloc hb.size (.cells #[.int .i64 0,.slice none 0 0] 31);obtain ⟨o,ho⟩:∃ o,checkE v p=o:=⟨_,rfl⟩;obtain ⟨p0,p1,-⟩:=hP.facts2;go_enter Tryz.func27,Tryz.ntmps27;go_wp2_with fail;generalize (w.alloc (.cells #[.int .i64 v,.slice td p.length pc] 31)).alloc (.cells #[.int .i64 0,.slice none 0 0] 31)=W0 at *;refine (check_any W0 v td p.length pc p rfl (by omega) (hp.below hb) hraw o ho).mono ?_;rintro e W1 ⟨rfl,hq⟩;replace hP:=hP.below hq hP.lt;replace hR:=hR.below hq hR.lt;replace hb:=below_next hb hq;clear p0 p1 hq;obtain ⟨p0,p1,-⟩:=hP.facts2
 by_cases h0:o=0
 ·subst h0;obtain ⟨hv12,-,-,-⟩:=check_ok ho;have hg2:=hg ho;obtain ⟨m,rfl⟩:∃ m:Nat,v=m:=⟨v.toNat,by omega⟩;rw [Int.toNat_natCast] at hg2;have HO:=Lib.hid (And.intro ho hg2);clear ho hg hg2 hraw
  by_cases hlo:n<0
  ·obtain ⟨r0,r1,r2,r3⟩:=hR.facts2;clear hp;go_wp2;exact ret_poly rfl rfl rfl (hR.set2 _ _) (.inr (.inr (.inl ⟨HO.out.1,by omega,rfl,pbelow_set2 hb (by omega) _ _ _ _⟩)))
  ·by_cases hhi:127<n
   ·obtain ⟨r0,r1,r2,r3⟩:=hR.facts2;clear hp;go_wp2;exact ret_poly rfl rfl rfl (hR.set2 _ _) (.inr (.inr (.inl ⟨HO.out.1,by omega,rfl,pbelow_set2 hb (by omega) _ _ _ _⟩)))
   ·obtain ⟨N,rfl⟩:∃ N:Nat,n=N:=⟨n.toNat,by omega⟩;have hNK:N≤K:=by omega
    have hN127:N≤127:=by omega
    have hcon:∀ W,Calls Tryz.prog 18 #[.int .i64 (m:Int),.agg #[.bool false,.string (fb 1),.int .i64 0]] W
     (fun e w'=>(∃ n' : Nat,(m:Int)=n'∧n'≤12∧PolyOut W w' e n' (constV n' oneN))∨(¬ (0≤(m:Int)∧(m:Int)≤12)∧PolyErr W w' e 1)):=fun W=>const_any W 1000 (1*2 ^ (2000-0)) (by decide) (by decide) (m:Int) false (fb 1) 0 (fun n _=>GF.fits (u:=0) (by decide) ⟨1,0,oneN_val.1,by decide,trivial⟩) oneN_val.2 (by
      have h1:=Nat.lt_of_le_of_lt (Nat.le_mul_of_pos_left (n:=4000) _ (by decide)) (HCap.out 0 0 (Nat.zero_le _))
      rwa [Nat.pow_zero] at h1)
    have hdf1:=df_one;have hlod:decide ((N:Int)<0)=false:=decide_eq_false hlo;have hhid:decide ((127:Int)<(N:Int))=false:=decide_eq_false hhi;have hb00:=hb;have hR0:=hR;go_wp2;refine region_segs (n:=10) #[false,false,false,false,false,false,false,false,false,false] (by kernel_rfl) (by kernel_rfl) (by kernel_rfl) ?_;intro fu hf
    refine ls 10 [0,1,2,3,4,5,6,7,8,9] 9 (fun L ac Wn=>∃ l0 l1 l2 l3 l4 l5 l6 l7 l8:Bool,L=#[l0,l1,l2,l3,l4,l5,l6,l7,l8,false]∧∃ p7 p26 lo26 oc26:Nat,ac={tmps:=#[.agg #[.int .i64 ↑m,.slice td p.length pc],.int .i64 ↑N,.pointer (some ⟨w.heap.size,0,none⟩),undef,.pointer (some ⟨w.heap.size+1,0,none⟩),.int .i64 0,.int .i64 0,sel l7 (.pointer (some ⟨p7,0,none⟩)) (undef),undef,.agg #[.int .i64 ↑m,.slice td p.length pc],.int .i64 0,.int .i64 0,.bool false,undef,undef,.int .i64 ↑N,.bool false,.bool false,.int .i64 ↑N,.bool false,.bool false,undef,sel l4 (.tuple #[.agg #[.int .i64 ↑m,.slice (some { block:=p26,off:=lo26 }) (constV m oneN).length oc26],.int .i64 0]) (undef),sel l0 (.pointer (some ⟨w.heap.size,0,none⟩)) (undef),sel l1 (.int .i64 ↑m) (undef),sel l2 (.agg #[.bool false,.string (fb 1),.int .i64 0]) (undef),sel l3 (.tuple #[.agg #[.int .i64 ↑m,.slice (some { block:=p26,off:=lo26 }) (constV m oneN).length oc26],.int .i64 0]) (undef),sel l5 (.agg #[.int .i64 ↑m,.slice (some { block:=p26,off:=lo26 }) (constV m oneN).length oc26]) (undef),sel l6 (.int .i64 0) (undef),undef,undef,undef,undef,undef,undef,undef,undef,undef,undef,undef,undef,undef,undef,undef,undef],defers:=[] }∧Below (W1.heap.size) W1 Wn∧(Rw Wn (w.heap.size) 31 [.int .i64 ↑m,.slice td p.length pc])∧(Rw Wn (w.heap.size+1) 31 [.int .i64 0,.slice none 0 0])∧(On l7→Off l8→Rw Wn p7 31 [.int .i64 0,.slice none 0 0])∧(On l8→Rw Wn p7 31 [.int .i64 ↑m,.slice (some { block:=p26,off:=lo26 }) (constV m oneN).length oc26])∧(On l3→FreshT Wn W1 p26 lo26 oc26 (constV m oneN))∧(On l7→W1.heap.size≤p7)∧(On l3→W1.heap.size≤p26)∧(On l7→w.heap.size≠p7)∧(On l7→w.heap.size+1≠p7)∧(On l7→On l3→p26≠p7)) hf ?_ ?_ ?_ ?_
    ·exact ⟨false,false,false,false,false,false,false,false,false,by kernel_rfl,0,0,0,0,by kernel_rfl,(Below.refl W1.heap.size W1).drew,hP.drew,hR.drew,(fun h _=>not_ft h),(fun h=>not_ft h),(fun h=>not_ft h),(fun h=>not_ft h),(fun h=>not_ft h),(fun h=>not_ft h),(fun h=>not_ft h),(fun h _=>not_ft h)⟩
    ·rintro L ac Wn ⟨l0,l1,l2,l3,l4,l5,l6,l7,l8,rfl,_⟩
     kernel_rfl
    ·refine (seg_all (b:=9) [0,1,2,3,4,5,6,7,8] ?_:∀ j∈[0,1,2,3,4,5,6,7,8,9],j≠9→_);refine lc [] [1,3,4,5,6,8] ?_ ?_
     ·rintro L ac Wn ⟨l0,l1,l2,l3,l4,l5,l6,l7,l8,rfl,hI⟩ rfl - ⟨rfl,rfl,rfl,rfl,rfl,rfl,-⟩ Kc hK;simp only [sel_f] at hI;obtain ⟨p7,p26,lo26,oc26,rfl,hb,hP,hR,hF,hF',hT,dF,dT,nFP,nFR,nFT⟩:=hI;refine ly (.pointer (some ⟨w.heap.size,0,none⟩)) ?_;exact hK.out _ _ ⟨true,false,l2,false,false,false,false,l7,false,by kernel_rfl,p7,p26,lo26,oc26,by kernel_rfl,hb,hP,hR,(fun z0 z1=>(hF z0 z1)),(fun h=>not_ft h),(fun h=>not_ft h),(fun z0=>(dF z0)),(fun h=>not_ft h),(fun z0=>(nFP z0)),(fun z0=>(nFR z0)),(fun _ h=>not_ft h)⟩
     refine lc [0] [3,4,5,6,8] ?_ ?_
     ·rintro L ac Wn ⟨l0,l1,l2,l3,l4,l5,l6,l7,l8,rfl,hI⟩ rfl ⟨rfl,-⟩ ⟨rfl,rfl,rfl,rfl,rfl,-⟩ Kc hK;simp only [sel_t,sel_f] at hI;obtain ⟨p7,p26,lo26,oc26,rfl,hb,hP,hR,hF,hF',hT,dF,dT,nFP,nFR,nFT⟩:=hI;have q0:=(hP).cell 0;have f0:=(hP).frozen 0;have q1:=(hP).cell 1;have f1:=(hP).frozen 1;simp only [List.getElem?_cons_zero,List.getElem?_cons_succ] at q0 q1;refine ly (.int .i64 ↑m) ?_;exact hK.out _ _ ⟨true,true,l2,false,false,false,false,l7,false,by kernel_rfl,p7,p26,lo26,oc26,by kernel_rfl,hb,hP,hR,(fun z0 z1=>(hF z0 z1)),(fun h=>not_ft h),(fun h=>not_ft h),(fun z0=>(dF z0)),(fun h=>not_ft h),(fun z0=>(nFP z0)),(fun z0=>(nFR z0)),(fun _ h=>not_ft h)⟩
     refine lc [] [3,4,5,6,8] ?_ ?_
     ·rintro L ac Wn ⟨l0,l1,l2,l3,l4,l5,l6,l7,l8,rfl,hI⟩ rfl - ⟨rfl,rfl,rfl,rfl,rfl,-⟩ Kc hK;simp only [sel_f] at hI;obtain ⟨p7,p26,lo26,oc26,rfl,hb,hP,hR,hF,hF',hT,dF,dT,nFP,nFR,nFT⟩:=hI;go_simp;go_fit (yof_any _ 1 (by omega) (by omega) false (fb 1) 0 hdf1);rintro e V ⟨rfl,hq⟩;exact hK.out _ _ ⟨l0,l1,true,false,false,false,false,l7,false,by kernel_rfl,p7,p26,lo26,oc26,by kernel_rfl,(below_next hb hq),(hP.below hq (hP).lt),(hR.below hq (hR).lt),(fun z0 z1=>(hF z0 z1).below hq ((hF z0 z1)).lt),(fun h=>not_ft h),(fun h=>not_ft h),(fun z0=>(dF z0)),(fun h=>not_ft h),(fun z0=>(nFP z0)),(fun z0=>(nFR z0)),(fun _ h=>not_ft h)⟩
     refine lc [0,1,2] [4,5,6,8] ?_ ?_
     ·rintro L ac Wn ⟨l0,l1,l2,l3,l4,l5,l6,l7,l8,rfl,hI⟩ rfl ⟨rfl,rfl,rfl,-⟩ ⟨rfl,rfl,rfl,rfl,-⟩ Kc hK;simp only [sel_t,sel_f] at hI;obtain ⟨p7,p26,lo26,oc26,rfl,hb,hP,hR,hF,hF',hT,dF,dT,nFP,nFR,nFT⟩:=hI;go_simp;go_fit (hcon Wn);rintro e V hor
      rcases hor with ⟨n',hnn,-,od,oc,rfl,hoc,hot,hnew,hq⟩|⟨hno,-⟩
      case inr=>exact absurd hv12 hno
      obtain rfl:m=n':=by omega
      obtain ⟨lbx,lox,rfl,hlbx,hft⟩:=fresh_of hb.size hoc hot hnew;exact hK.out _ _ ⟨true,true,true,true,false,false,false,l7,false,by kernel_rfl,p7,lbx,lox,oc,by kernel_rfl,(below_next hb hq),(hP.below hq (hP).lt),(hR.below hq (hR).lt),(fun z0 z1=>(hF z0 z1).below hq ((hF z0 z1)).lt),(fun h=>not_ft h),(fun _=>hft),(fun z0=>(dF z0)),(fun _=>hft.2.2.1),(fun z0=>(nFP z0)),(fun z0=>(nFR z0)),(fun z0 _=>Nat.ne_of_gt (Nat.lt_of_lt_of_le (hF z0 rfl).lt hlbx))⟩
     refine lc [0,1,2,3] [5,6,8] ?_ ?_
     ·rintro L ac Wn ⟨l0,l1,l2,l3,l4,l5,l6,l7,l8,rfl,hI⟩ rfl ⟨rfl,rfl,rfl,rfl,-⟩ ⟨rfl,rfl,rfl,-⟩ Kc hK;simp only [sel_t,sel_f] at hI;obtain ⟨p7,p26,lo26,oc26,rfl,hb,hP,hR,hF,hF',hT,dF,dT,nFP,nFR,nFT⟩:=hI;refine ly (.tuple #[.agg #[.int .i64 ↑m,.slice (some { block:=p26,off:=lo26 }) (constV m oneN).length oc26],.int .i64 0]) ?_;exact hK.out _ _ ⟨true,true,true,true,true,false,false,l7,false,by kernel_rfl,p7,p26,lo26,oc26,by kernel_rfl,hb,hP,hR,(fun z0 z1=>(hF z0 z1)),(fun h=>not_ft h),(fun z0=>(hT z0)),(fun z0=>(dF z0)),(fun z0=>(dT z0)),(fun z0=>(nFP z0)),(fun z0=>(nFR z0)),(fun z0 z1=>(nFT z0 z1))⟩
     refine lc [0,1,2,3,4] [8] ?_ ?_
     ·rintro L ac Wn ⟨l0,l1,l2,l3,l4,l5,l6,l7,l8,rfl,hI⟩ rfl ⟨rfl,rfl,rfl,rfl,rfl,-⟩ ⟨rfl,-⟩ Kc hK;simp only [sel_t,sel_f] at hI;obtain ⟨p7,p26,lo26,oc26,rfl,hb,hP,hR,hF,hF',hT,dF,dT,nFP,nFR,nFT⟩:=hI;refine ly (.agg #[.int .i64 ↑m,.slice (some { block:=p26,off:=lo26 }) (constV m oneN).length oc26]) ?_;exact hK.out _ _ ⟨true,true,true,true,true,true,l6,l7,false,by kernel_rfl,p7,p26,lo26,oc26,by kernel_rfl,hb,hP,hR,(fun z0 z1=>(hF z0 z1)),(fun h=>not_ft h),(fun z0=>(hT z0)),(fun z0=>(dF z0)),(fun z0=>(dT z0)),(fun z0=>(nFP z0)),(fun z0=>(nFR z0)),(fun z0 z1=>(nFT z0 z1))⟩
     refine lc [0,1,2,3,4] [] ?_ ?_
     ·rintro L ac Wn ⟨l0,l1,l2,l3,l4,l5,l6,l7,l8,rfl,hI⟩ rfl ⟨rfl,rfl,rfl,rfl,rfl,-⟩ - Kc hK;simp only [sel_t,sel_f] at hI;obtain ⟨p7,p26,lo26,oc26,rfl,hb,hP,hR,hF,hF',hT,dF,dT,nFP,nFR,nFT⟩:=hI;refine ly (.int .i64 0) ?_;exact hK.out _ _ ⟨true,true,true,true,true,l5,true,l7,l8,by kernel_rfl,p7,p26,lo26,oc26,by kernel_rfl,hb,hP,hR,(fun z0 z1=>(hF z0 z1)),(fun z0=>(hF' z0)),(fun z0=>(hT z0)),(fun z0=>(dF z0)),(fun z0=>(dT z0)),(fun z0=>(nFP z0)),(fun z0=>(nFR z0)),(fun z0 z1=>(nFT z0 z1))⟩
     refine lc [] [8] ?_ ?_
     ·rintro L ac Wn ⟨l0,l1,l2,l3,l4,l5,l6,l7,l8,rfl,hI⟩ rfl - ⟨rfl,-⟩ Kc hK;simp only [sel_f] at hI;obtain ⟨p7,p26,lo26,oc26,rfl,hb,hP,hR,hF,hF',hT,dF,dT,nFP,nFR,nFT⟩:=hI;go_simp;exact hK.out _ _ ⟨l0,l1,l2,l3,l4,l5,l6,true,false,by kernel_rfl,_,p26,lo26,oc26,by kernel_rfl,(hb.alloc hb.size _),(hP.alloc _),(hR.alloc _),(fun z0 z1=>Rw.new _ _ _),(fun h=>not_ft h),(fun z0=>(hT z0).alloc _),(fun z0=>hb.size),(fun z0=>(dT z0)),(fun z0=>Nat.ne_of_lt ((hP).lt)),(fun z0=>Nat.ne_of_lt ((hR).lt)),(fun z0 z1=>Nat.ne_of_lt ((hT z1).lt))⟩
     refine ln [0,1,2,3,4,5,7] [] ?_;rintro L ac Wn ⟨l0,l1,l2,l3,l4,l5,l6,l7,l8,rfl,hI⟩ rfl ⟨rfl,rfl,rfl,rfl,rfl,rfl,rfl,-⟩ - Kc hK;simp only [sel_t] at hI;obtain ⟨p7,p26,lo26,oc26,rfl,hb,hP,hR,hF,hF',hT,dF,dT,nFP,nFR,nFT⟩:=hI;have q0:=(hF rfl rfl).cell 0;have f0:=(hF rfl rfl).frozen 0;have q1:=(hF rfl rfl).cell 1;have f1:=(hF rfl rfl).frozen 1;simp only [List.getElem?_cons_zero,List.getElem?_cons_succ] at q0 q1;have edF:=dF rfl;have edT:=dT rfl;have enFP:=nFP rfl;have enFR:=nFR rfl;have enFT:=nFT rfl rfl;go_simp;exact hK.out _ _ ⟨true,true,true,true,true,true,l6,true,true,by kernel_rfl,p7,p26,lo26,oc26,by kernel_rfl,((hb.setCell (p:=⟨p7,0,none⟩) (by show W1.heap.size≤p7;omega) (.int .i64 ↑m)).setCell (p:=⟨p7,1,none⟩) (by show W1.heap.size≤p7;omega) (.slice (some { block:=p26,off:=lo26 }) (constV m oneN).length oc26)),(((hP).fr p7 0 (.int .i64 ↑m)).fr p7 1 (.slice (some { block:=p26,off:=lo26 }) (constV m oneN).length oc26)),(((hR).fr p7 0 (.int .i64 ↑m)).fr p7 1 (.slice (some { block:=p26,off:=lo26 }) (constV m oneN).length oc26)),(fun _ h=>not_tf h),(fun _=>((hF rfl rfl).set_ 0 (.int .i64 ↑m)).set_ 1 (.slice (some { block:=p26,off:=lo26 }) (constV m oneN).length oc26)),(fun z0=>(((hT z0)).fr p7 0 (.int .i64 ↑m)).fr p7 1 (.slice (some { block:=p26,off:=lo26 }) (constV m oneN).length oc26)),(fun z0=>(dF z0)),(fun z0=>(dT z0)),(fun z0=>(nFP z0)),(fun z0=>(nFR z0)),(fun z0 z1=>(nFT z0 z1))⟩
    refine bo [0,1,2,3,4,5,6,7,8] ?_;rintro L ac Wn ⟨l0,l1,l2,l3,l4,l5,l6,l7,l8,rfl,hI⟩ ⟨rfl,rfl,rfl,rfl,rfl,rfl,rfl,rfl,rfl,-⟩ Kc hK;simp only [sel_t] at hI;obtain ⟨p7,p26,lo26,oc26,rfl,hb,hP,hR,hF,hF',hT,dF,dT,nFP,nFR,nFT⟩:=hI;clear hF;replace hF':=hF' rfl;replace hT:=hT rfl;replace dF:=dF rfl;replace dT:=dT rfl;replace nFP:=nFP rfl;replace nFR:=nFR rfl;replace nFT:=nFT rfl rfl;have hF:=hF';clear hF';refine ly (.int .i64 0) ?_;refine hK.out _ _ (fun fu hf=>wpAnyH_done (by kernel_rfl) ?_ _);clear hK Kc hf
    skip
    have hI0:PwI u A M m p w p7 td pc Wn 0:=⟨constV m oneN,some ⟨p26,lo26,none⟩,oc26,rfl,by rw [Nat.zero_mul,Nat.pow_zero];exact const_good oneN_val.1 (by decide),by rw [Nat.pow_zero];exact const_len m oneN,hF,hT.2.1,hT.1,fun lb lo e=>by
     simp only [Option.some.injEq,Addr.mk.injEq,and_true] at e;obtain ⟨rfl,rfl⟩:=e
     have:=hR0.lt
     exact ⟨by omega,fun _=>nFT⟩,hR,hP,below_next hb00 hb⟩
    clear hF hT hR hP hb nFT hcon hdf1 hlod hhid p0 p1;have hp7:w.heap.size+1<p7:=by have:=hR0.lt;omega
    clear hR0 hb00 dF dT;go_wp2
    go_loopw [8,30] (fun ev iv wr=>∃ i:Nat,ev=.int .i64 0∧iv=.int .i64 i∧i≤N∧PwI u A M m p w p7 td pc wr i) (fun _ iv _=>N-(RowKit.intOf iv).toNat)
    case atStart=>exact ⟨0,rfl,rfl,Nat.zero_le _,hI0⟩
    case round =>
     clear hI0;obtain ⟨i,rfl,rfl,hi,cur,od',oc',hcur,hgc,hlc,hB,hoc,hot,hfr,hR,hP,hb⟩:=hrel
     by_cases hik:i<N
     ·obtain ⟨hg1,hg2⟩:=powV_some hcur;have hi2:i+1≤K+1:=by omega
      have hM2:M ^ (i+1)≤4000:=Nat.le_trans (Nat.pow_le_pow_right hM1 hi2) hMn;have hM3:M ^ i≤4000:=Nat.le_trans (Nat.pow_le_pow_right hM1 (by omega)) hMn;have hprod:cur.length*p.length≤M ^ (i+1):=by rw [Nat.pow_succ];exact Nat.mul_le_mul hlc hpM
      have hu2:i*u+u≤2000:=by
       have h1:(i+1)*u≤(K+1)*u:=Nat.mul_le_mul_right _ hi2;have h2:i*u+u=(i+1)*u:=by rw [← Nat.succ_mul]
       omega
      have hgood:=good_prod hgc HO.out.2;have htg:=times_good wr (i*u) (A ^ i) u A m (by omega) od' td oc' pc cur p hoc hpc (by omega) (by omega) (by omega) hot (hp.below hb) hgc HO.out.2 hu2
       (Nat.lt_of_le_of_lt (Nat.le_mul_of_pos_left (n:=4000) _ (by decide)) (HCap.out i _ (by omega))) (by have h1:=Nat.lt_of_le_of_lt (Nat.le_mul_of_pos_left (n:=4000) _ (by decide)) (HCap.out 1 u (by omega));rwa [Nat.pow_one] at h1) (HCap.out (i+1) _ hi2)
      obtain ⟨b0,b1,-⟩:=hB.facts2;obtain ⟨p0,p1,-⟩:=hP.facts2;clear hcur hot hgc;go_wp2_with fail;refine htg.mono ?_;rintro e V hor
      rcases hor with ⟨hok,od2,oc2,rfl,hoc2,hot3,hnew2,hq⟩|⟨hno,rfl,hq⟩
      ·have hBl:=hB.lt;have hB3:=hB.below hq hB.lt;have hR3:=hR.below hq hR.lt;have hP3:=hP.below hq hP.lt;have hb3:=below_next hb hq;obtain ⟨d0,d1,d2,d3⟩:=hB3.facts2;have hR4:=hR3.far2 (g:=p7) (by omega) 0 1 (.int .i64 (m:Int)) (.slice od2 (mulV cur p).length oc2);have hP4:=hP3.far2 (g:=p7) (by omega) 0 1 (.int .i64 (m:Int)) (.slice od2 (mulV cur p).length oc2);have hB4:=hB3.set2 (.int .i64 (m:Int)) (.slice od2 (mulV cur p).length oc2);have hb4:=pbelow_set2 hb3 (b:=p7) (by omega) 0 1 (.int .i64 (m:Int)) (.slice od2 (mulV cur p).length oc2);have hot4:=hot3.far2 (r:=p7) (fun lb lo h=>by have:=hnew2 lb lo h;omega) 0 1 (.int .i64 (m:Int)) (.slice od2 (mulV cur p).length oc2);have hI:PwI u A M m p w p7 td pc ((V.setCell ⟨p7,0,none⟩ (.int .i64 (m:Int))).setCell ⟨p7,1,none⟩ (.slice od2 (mulV cur p).length oc2)) (i+1):=
        ⟨mulV cur p,od2,oc2,hg1 hok,by rw [show (i+1)*u=i*u+u by rw [Nat.succ_mul],Nat.pow_succ];exact hgood hok,by
         have h1:=mulV_len cur p;omega,hB4,hoc2,hot4,fun lb lo h=>by have:=hnew2 lb lo h;exact ⟨by omega,fun _=>by omega⟩,hR4,hP4,hb4⟩
       clear htg hq hB hR hP hB3 hR3 hP3 hb3 hot3 hot4 hB4 hR4 hP4 hb4 hg1 hg2 hgood hnew2 hfr b0 b1 p0 p1;go_wp2
       first
        | exact ⟨⟨i+1,rfl,hik,hI⟩,by simp [RowKit.intOf];omega⟩
        | exact ⟨⟨i+1,rfl,rfl,hik,hI⟩,by simp [RowKit.intOf];omega⟩
      ·have hB3:=hB.below hq hB.lt;have hR3:=hR.below hq hR.lt;have hb3:=below_next hb hq;obtain ⟨d0,d1,d2,d3⟩:=hB3.facts2;have hR4:=hR3.far2 (g:=p7) (by omega) 0 1 (.int .i64 0) (.slice none 0 0);have hb4:=pbelow_set2 hb3 (b:=p7) (by omega) 0 1 (.int .i64 0) (.slice none 0 0);obtain ⟨r0,r1,r2,r3⟩:=hR4.facts2;have HN:=Lib.hid (hg2 hno N hik);clear htg hq hB hR hP hB3 hR3 hb3 hg1 hg2 hgood hfr b0 b1 p0 p1;go_wp2;exact ret_poly rfl rfl rfl (hR4.set2 _ _) (.inr (.inr (.inr ⟨HO.out.1,by omega,by omega,by rw [Int.toNat_natCast,Int.toNat_natCast];exact HN.out,rfl,pbelow_set2 hb4 (by omega) _ _ _ _⟩)))
     ·obtain rfl:i=N:=by omega
      obtain ⟨b0,b1,-⟩:=hB.facts2;obtain ⟨r0,r1,r2,r3⟩:=hR.facts2;have HC:=Lib.hid hcur;clear hcur hB hP hgc hp;go_wp2;exact ret_poly rfl rfl rfl (hR.set2 _ _) (.inl ⟨cur,HO.out.1,by omega,by omega,by rw [Int.toNat_natCast,Int.toNat_natCast];exact HC.out,od',oc',rfl,hoc,hot.far2 (r:=w.heap.size+1) (fun lb lo h=>by have:=(hfr lb lo h).1;omega) _ _ _ _,fun lb lo h=>by have:=(hfr lb lo h).1;omega,pbelow_set2 hb (by omega) _ _ _ _⟩)
 ·obtain ⟨r0,r1,r2,r3⟩:=hR.facts2;have HO:=Lib.hid (And.intro h0 ho);clear ho hg hraw hp;go_wp2;exact ret_poly rfl rfl rfl (hR.set2 _ _) (.inr (.inl ⟨by rw [HO.out.2];exact HO.out.1,by rw [HO.out.2];exact ⟨rfl,pbelow_set2 hb (by omega) _ _ _ _⟩⟩))
instance:OfNat (Option Addr) 0:=⟨none⟩
def FreshO (W W1:World) (lb:Nat) (od:Option Addr) (oc:Nat) (l:List TV):Prop:=TAt W od l∧l.length≤oc∧(∀ b lo,od=some ⟨b,lo,none⟩→W1.heap.size≤b)∧lb<W.heap.size∧(∀ b lo,od=some ⟨b,lo,none⟩→0<l.length→b=lb)
theorem FreshO.below {W W' W1:World} {lb:Nat} {od:Option Addr} {oc:Nat} {l:List TV} (h:FreshO W W1 lb od oc l) (hq:Below W.heap.size W W'):FreshO W' W1 lb od oc l:=⟨h.1.below hq,h.2.1,h.2.2.1,Nat.lt_of_lt_of_le h.2.2.2.1 hq.size,h.2.2.2.2⟩
theorem FreshO.alloc {W W1:World} {lb:Nat} {od:Option Addr} {oc:Nat} {l:List TV} (h:FreshO W W1 lb od oc l) (o:Obj):FreshO (W.alloc o) W1 lb od oc l:=h.below ((Below.refl _ _).alloc (Nat.le_refl _) _)
theorem FreshO.lt {W W1:World} {lb:Nat} {od:Option Addr} {oc:Nat} {l:List TV} (h:FreshO W W1 lb od oc l):lb<W.heap.size:=h.2.2.2.1
theorem FreshO.drew {W W1:World} {lb:Nat} {od:Option Addr} {oc:Nat} {l:List TV} (h:FreshO W W1 lb od oc l):FreshO W.drew W1 lb od oc l:=h
theorem FreshO.far {W W1:World} {lb:Nat} {od:Option Addr} {oc:Nat} {l:List TV} (h:FreshO W W1 lb od oc l) {p:Addr} (hp:lb≠p.block) (u:Value):FreshO (W.setCell p u) W1 lb od oc l:=by
 refine ⟨fun k hk=>?_,h.2.1,h.2.2.1,by simpa using h.2.2.2.1,h.2.2.2.2⟩;obtain ⟨b,o,e,hl,h1,h2,h3,h4⟩:=h.1 k hk;obtain rfl:b=lb:=h.2.2.2.2 b o e (by omega);have hc:∀ (q:Nat) (x:Value),W.cell? ⟨b,q,none⟩=some x→(W.setCell p u).cell? ⟨b,q,none⟩=some x:=fun q x hx=>(World.cell?_of_block (Below.heap_setCell W _ u b hp)).trans hx;exact ⟨b,o,e,by simpa using hl,hc _ _ h1,hc _ _ h2,hc _ _ h3,hc _ _ h4⟩
theorem FreshO.fr {W W1:World} {lb:Nat} {od:Option Addr} {oc:Nat} {l:List TV} (h:FreshO W W1 lb od oc l) (A k:Nat) (u:Value) (hp:lb≠A:=by omega):FreshO (W.setCell ⟨A,k,none⟩ u) W1 lb od oc l:=h.far (p:=⟨A,k,none⟩) hp u
theorem fresh_o {W V W1:World} {od:Option Addr} {oc:Nat} {l:List TV} (L0:Nat) (hL:L0<W1.heap.size) (hs:W1.heap.size≤W.heap.size) (hV:W.heap.size≤V.heap.size) (h1:l.length≤oc) (h2:TAt V od l) (h3:∀ b lo,od=some ⟨b,lo,none⟩→W.heap.size≤b) :
  ∃ lb,(L0=lb∨W.heap.size≤lb)∧FreshO V W1 lb od oc l:=by
 by_cases hl:0<l.length
 ·obtain ⟨b,lo,e,hlt,-⟩:=h2 0 hl;refine ⟨b,.inr (h3 b lo e),h2,h1,fun b' lo' e'=>Nat.le_trans hs (h3 b' lo' e'),hlt,fun b' lo' e' _=>?_⟩;rw [e] at e';simp only [Option.some.injEq,Addr.mk.injEq] at e';exact e'.1.symm
 ·exact ⟨L0,.inl rfl,h2,h1,fun b' lo' e'=>Nat.le_trans hs (h3 b' lo' e'),by omega,fun _ _ _ h=>absurd h hl⟩
theorem fresh_ne {W1 W:World} {L0 lb f:Nat} (hL:L0<W1.heap.size) (hf:W1.heap.size≤f) (hfl:f<W.heap.size) (h:L0=lb∨W.heap.size≤lb):lb≠f:=by
 rcases h with h|h <;> omega
theorem pat_twov (W:World) (v1 v2:Int) (a b:Option Addr) (l1 l2:List TV) (n1 c1 n2 c2:Nat) (e1:l1.length=n1) (e2:l2.length=n2) (k1:n1≤c1) (k2:n2≤c2) (h1:TAt W a l1) (h2:TAt W b l2) :
  PAt (W.alloc (.cells #[.int .i64 v1,.slice a n1 c1,.int .i64 v2,.slice b n2 c2] 31)) (some ⟨W.heap.size,0,none⟩) [(v1,l1),(v2,l2)]:=by
 subst e1 e2;have hR:=Rw.new W 31 [.int .i64 v1,.slice a l1.length c1,.int .i64 v2,.slice b l2.length c2];intro i hi
 match i,hi with
 | 0,_=>exact ⟨W.heap.size,0,a,c1,rfl,by rw [World.size_alloc];omega,hR.cell 0,hR.cell 1,h1.alloc _,k1⟩
 | 1,_=>exact ⟨W.heap.size,0,b,c2,rfl,by rw [World.size_alloc];omega,hR.cell 2,hR.cell 3,h2.alloc _,k2⟩
def pfarB (x:NV):Bool:=decide (24<x.2.1.size) || decide (x.2.2 < -300) || decide (300<x.2.2)
theorem pfar_any (w:World) (m:Bool) (s:ByteArray) (d:Int) (o:Bool) (ho:pfarB (m,s,d)=o):Calls Tryz.prog 8 #[.agg #[.bool m,.string s,.int .i64 d]] w (Ret (.bool o) w):=by
 have hb:=(Below.refl w.heap.size w).alloc (Nat.le_refl _) (.cells #[.bool m,.string s,.int .i64 d] 26);unfold pfarB at ho;simp only at ho;have HO:=Lib.hid ho;clear ho;go_enter Tryz.func8,Tryz.ntmps8
 by_cases h1:24<s.size
 ·have e1:o=true:=by rw [← HO.out];simp [h1]
  subst e1;have h1i:(24:Int)<s.size:=by omega
  go_wp2;go_ret;exact ⟨rfl,hb⟩
 ·have h1i:¬ (24:Int)<s.size:=by omega
  by_cases h2:d < -300
  ·have e1:o=true:=by rw [← HO.out];simp [h2]
   subst e1;go_wp2;go_ret;exact ⟨rfl,hb⟩
  ·by_cases h3:300<d
   ·have e1:o=true:=by rw [← HO.out];simp [h3]
    subst e1;go_wp2;go_ret;exact ⟨rfl,hb⟩
   ·have e1:o=false:=by rw [← HO.out];simp [h1,h2,h3]
    subst e1;go_wp2;go_ret;exact ⟨rfl,hb⟩
def pheavyB (l:List TV):Bool:=decide (12<l.length) || l.any fun x=>pfarB x.2 || decide (50<x.1.size)
theorem pheavy_any (w:World) (td:Option Addr) (n c:Nat) (l:List TV) (hl:l.length=n) (hp:TAt w td l) (o:Bool) (ho:pheavyB l=o):Calls Tryz.prog 7 #[.slice td n c] w (Ret (.bool o) w):=by
 have HO:=Lib.hid ho;clear ho;go_enter Tryz.func7,Tryz.ntmps7
 by_cases h12:12<n
 ·have e1:o=true:=by rw [← HO.out];simp [pheavyB,hl,h12]
  subst e1;have h12i:(12:Int)<n:=by omega
  go_wp2;go_ret;exact ⟨rfl,Below.refl _ _⟩
 ·have h12i:¬ (12:Int)<n:=by omega
  go_wp2
  go_loopw [3] (fun iv wr=>∃ i:Nat,iv=.int .i64 i∧i≤n∧((l.take i).any fun x=>pfarB x.2 || decide (50<x.1.size))=false∧Below w.heap.size w wr) (fun iv _=>n-(RowKit.intOf iv).toNat)
  case atStart=>exact ⟨0,rfl,Nat.zero_le _,rfl,Below.refl _ _⟩
  case round =>
   obtain ⟨i,rfl,hi,hno,hb⟩:=hrel
   by_cases hik:i<n
   ·have hil:i<l.length:=by omega
    obtain ⟨lb,lo,rfl,hlb,c0,c1,c2,c3⟩:=hp.below hb i hil;have hst:=any_take (p:=fun x:TV=>pfarB x.2 || decide (50<x.1.size)) hil hno;have hany:(pfarB l[i].2 || decide (50<l[i].1.size))=true→o=true:=fun h=>by
     rw [← HO.out];unfold pheavyB;rw [Bool.or_eq_true];exact .inr (List.any_eq_true.2 ⟨l[i],List.getElem_mem hil,h⟩)
    generalize l[i]=x at *;obtain ⟨xt,xm,xs,xd⟩:=x;simp only at c0 c1 c2 c3 hst hany;obtain ⟨q,hq⟩:∃ q,pfarB (xm,xs,xd)=q:=⟨_,rfl⟩;have hcall:=pfar_any wr xm xs xd q hq;rw [hq] at hst hany;have hwi:IntKind.i64.wrap ((i:Int)+1)=(i:Int)+1:=by rw [IntKind.wrap_i64];omega
    clear hq hno hp;go_wp2_with fail;refine hcall.mono ?_;rintro e W1 ⟨rfl,hq⟩;have c4:=cell_keep hq c0;have hb1:=below_next hb hq;clear hcall hq c0 c1 c2 c3 hb
    cases q with
    | true =>
     have e1:o=true:=hany rfl;subst e1;clear HO hany hst;go_wp2;go_ret;exact ⟨rfl,hb1⟩
    | false =>
     by_cases h50:50<xt.size
     ·have e1:o=true:=hany (by simp [h50]);subst e1;have h50i:(50:Int)<xt.size:=by omega
      clear HO hany hst;go_wp2;go_ret;exact ⟨rfl,hb1⟩
     ·have h50i:¬ (50:Int)<xt.size:=by omega
      have HS:=Lib.hid (hst (by simp [h50]));clear hany hst;go_wp2;exact ⟨⟨i+1,rfl,hik,HS.out,hb1⟩,by simp [RowKit.intOf];omega⟩
   ·obtain rfl:i=n:=by omega
    rw [List.take_of_length_le (by omega)] at hno;have e1:o=false:=by rw [← HO.out];unfold pheavyB;rw [hno,hl,decide_eq_false h12];rfl
    subst e1;clear HO hno hp;go_wp2;go_ret;exact ⟨rfl,hb⟩
def pmanyB (l:List PV):Bool:=decide (3<l.length) || l.any fun x=>pheavyB x.2
theorem pmany_any (w:World) (td:Option Addr) (n c:Nat) (l:List PV) (hl:l.length=n) (hp:PAt w td l) (o:Bool) (ho:pmanyB l=o):Calls Tryz.prog 23 #[.slice td n c] w (Ret (.bool o) w):=by
 have HO:=Lib.hid ho;clear ho;go_enter Tryz.func23,Tryz.ntmps23
 by_cases h3:3<n
 ·have e1:o=true:=by rw [← HO.out];simp [pmanyB,hl,h3]
  subst e1;have h3i:(3:Int)<n:=by omega
  go_wp2;go_ret;exact ⟨rfl,Below.refl _ _⟩
 ·have h3i:¬ (3:Int)<n:=by omega
  go_wp2
  go_loopw [3] (fun iv wr=>∃ i:Nat,iv=.int .i64 i∧i≤n∧((l.take i).any fun x=>pheavyB x.2)=false∧Below w.heap.size w wr) (fun iv _=>n-(RowKit.intOf iv).toNat)
  case atStart=>exact ⟨0,rfl,Nat.zero_le _,rfl,Below.refl _ _⟩
  case round =>
   obtain ⟨i,rfl,hi,hno,hb⟩:=hrel
   by_cases hik:i<n
   ·have hil:i<l.length:=by omega
    obtain ⟨lb,lo,td',tc,rfl,hlb,c0,c1,ht,htc⟩:=hp.below hb i hil;have hst:=any_take (p:=fun x:PV=>pheavyB x.2) hil hno;have hany:pheavyB l[i].2=true→o=true:=fun h=>by
     rw [← HO.out];unfold pmanyB;rw [Bool.or_eq_true];exact .inr (List.any_eq_true.2 ⟨l[i],List.getElem_mem hil,h⟩)
    generalize l[i]=x at *;obtain ⟨xv,xl⟩:=x;simp only at c0 c1 ht hst hany;obtain ⟨q,hq⟩:∃ q,pheavyB xl=q:=⟨_,rfl⟩;have hcall:=pheavy_any wr td' xl.length tc xl rfl ht q hq;rw [hq] at hst hany;have hwi:IntKind.i64.wrap ((i:Int)+1)=(i:Int)+1:=by rw [IntKind.wrap_i64];omega
    clear hq hno hp ht;go_wp2_with fail;refine hcall.mono ?_;rintro e W1 ⟨rfl,hq⟩;have hb1:=below_next hb hq;clear hcall hq c0 c1 hb
    cases q with
    | true =>
     have e1:o=true:=hany rfl;subst e1;clear HO hany hst;go_wp2;go_ret;exact ⟨rfl,hb1⟩
    | false =>
     have HS:=Lib.hid (hst rfl);clear hany hst;go_wp2;exact ⟨⟨i+1,rfl,hik,HS.out,hb1⟩,by simp [RowKit.intOf];omega⟩
   ·obtain rfl:i=n:=by omega
    rw [List.take_of_length_le (by omega)] at hno;have e1:o=false:=by rw [← HO.out];unfold pmanyB;rw [hno,hl,decide_eq_false h3];rfl
    subst e1;clear HO hno hp;go_wp2;go_ret;exact ⟨rfl,hb⟩
theorem rterms_any (w:World) (ad bd:Option Addr) (n c d:Nat) (l:List TV) (hl:l.length=n) (hmax:n≤1000000) (ha:TAt w ad l) (hb' : TAt w bd l):Calls Tryz.prog 22 #[.slice ad n c,.slice bd n d] w (Ret (.bool true) w):=by
 go_enter Tryz.func22,Tryz.ntmps22;go_wp2
 go_loopw [5] (fun iv wr=>∃ i:Nat,iv=.int .i64 i∧i≤n∧Below w.heap.size w wr) (fun iv _=>n-(RowKit.intOf iv).toNat)
 case atStart=>exact ⟨0,rfl,Nat.zero_le _,Below.refl _ _⟩
 case round =>
  obtain ⟨i,rfl,hi,hb⟩:=hrel
  by_cases hik:i<n
  ·have hil:i<l.length:=by omega
   obtain ⟨la,oa,rfl,hla,c0,c1,c2,c3⟩:=ha.below hb i hil;obtain ⟨lb,ob,rfl,hlb,d0,d1,d2,d3⟩:=hb'.below hb i hil;generalize l[i]=x at *;obtain ⟨xt,xm,xs,xd⟩:=x;simp only at c0 c1 c2 c3 d0 d1 d2 d3;have hin:(wr.drew.cell? ⟨la,oa+i*4,none⟩=some (.string xt)∧wr.drew.cell? ⟨la,oa+i*4+1,none⟩=some (.bool xm)∧wr.drew.cell? ⟨la,oa+i*4+2,none⟩=some (.string xs)∧wr.drew.cell? ⟨la,oa+i*4+3,none⟩=some (.int .i64 xd))∧(wr.drew.cell? ⟨lb,ob+i*4,none⟩=some (.string xt)∧wr.drew.cell? ⟨lb,ob+i*4+1,none⟩=some (.bool xm)∧wr.drew.cell? ⟨lb,ob+i*4+2,none⟩=some (.string xs)∧wr.drew.cell? ⟨lb,ob+i*4+3,none⟩=some (.int .i64 xd)):=⟨⟨c0,c1,c2,c3⟩,d0,d1,d2,d3⟩;have hwi:IntKind.i64.wrap ((i:Int)+1)=(i:Int)+1:=by rw [IntKind.wrap_i64];omega
   have hi0:(0:Int)≤(i:Int):=by omega
   have hin2:(i:Int)<n:=by omega
   have hin3:(i:Int)≤n:=by omega
   clear ha hb' c0 c1 c2 c3 d0 d1 d2 d3;go_wp2
   go_region_held3 (fun w'=>(w'.cell? ⟨la,oa+i*4,none⟩=some (.string xt)∧w'.cell? ⟨la,oa+i*4+1,none⟩=some (.bool xm)∧w'.cell? ⟨la,oa+i*4+2,none⟩=some (.string xs)∧w'.cell? ⟨la,oa+i*4+3,none⟩=some (.int .i64 xd))∧(w'.cell? ⟨lb,ob+i*4,none⟩=some (.string xt)∧w'.cell? ⟨lb,ob+i*4+1,none⟩=some (.bool xm)∧w'.cell? ⟨lb,ob+i*4+2,none⟩=some (.string xs)∧w'.cell? ⟨lb,ob+i*4+3,none⟩=some (.int .i64 xd)))
    (first|assumption|exact h_c8 (by assumption) (by assumption))
    (first|fail)
   all_goals
    go_wp2;exact ⟨⟨i+1,rfl,hik,hb.drew⟩,by simp [RowKit.intOf];omega⟩
  ·obtain rfl:i=n:=by omega
   clear ha hb';go_wp2;go_ret;exact ⟨rfl,hb⟩
theorem rsame_any (w:World) (v:Int) (ad bd:Option Addr) (n c d:Nat) (l:List TV) (hl:l.length=n) (hmax:n≤1000000) (ha:TAt w ad l) (hb' : TAt w bd l):Calls Tryz.prog 12 #[.agg #[.int .i64 v,.slice ad n c],.agg #[.int .i64 v,.slice bd n d]] w (Ret (.bool true) w):=by
 have hb:=((Below.refl w.heap.size w).alloc (Nat.le_refl _) (.cells #[.int .i64 v,.slice ad n c] 31)).alloc (by simp) (.cells #[.int .i64 v,.slice bd n d] 31);have hcall:=rterms_any ((w.alloc (.cells #[.int .i64 v,.slice ad n c] 31)).alloc (.cells #[.int .i64 v,.slice bd n d] 31)) ad bd n c d l hl hmax (ha.below hb) (hb'.below hb);go_enter Tryz.func12,Tryz.ntmps12;go_wp2_with fail;refine hcall.mono ?_;rintro e W1 ⟨rfl,hq⟩;go_wp2;go_ret;exact ⟨rfl,below_next hb hq⟩
theorem psame_err (w:World) (v1 v2:Int) (ad bd:Option Addr) (n1 n2 c d:Nat) (e f:Int) (h:¬ e=0∨¬ f=0):Calls Tryz.prog 30 #[.agg #[.int .i64 v1,.slice ad n1 c],.int .i64 e,.agg #[.int .i64 v2,.slice bd n2 d],.int .i64 f] w (Ret (.bool true) w):=by
 have hb:=((Below.refl w.heap.size w).alloc (Nat.le_refl _) (.cells #[.int .i64 v1,.slice ad n1 c] 31)).alloc (by simp) (.cells #[.int .i64 v2,.slice bd n2 d] 31);go_enter Tryz.func30,Tryz.ntmps30
 by_cases he:e=0
 ·have hf:¬ f=0:=by omega
  subst he;go_wp2;go_ret;exact ⟨rfl,hb⟩
 ·go_wp2;go_ret;exact ⟨rfl,hb⟩
theorem psame_ok (w:World) (v:Int) (ad bd:Option Addr) (n c d:Nat) (l:List TV) (hl:l.length=n) (hmax:n≤1000000) (ha:TAt w ad l) (hb' : TAt w bd l):Calls Tryz.prog 30 #[.agg #[.int .i64 v,.slice ad n c],.int .i64 0,.agg #[.int .i64 v,.slice bd n d],.int .i64 0] w (Ret (.bool true) w):=by
 have hb:=((Below.refl w.heap.size w).alloc (Nat.le_refl _) (.cells #[.int .i64 v,.slice ad n c] 31)).alloc (by simp) (.cells #[.int .i64 v,.slice bd n d] 31);have hcall:=rsame_any ((w.alloc (.cells #[.int .i64 v,.slice ad n c] 31)).alloc (.cells #[.int .i64 v,.slice bd n d] 31)) v ad bd n c d l hl hmax (ha.below hb) (hb'.below hb);go_enter Tryz.func30,Tryz.ntmps30;go_wp2_with fail;refine hcall.mono ?_;rintro e W1 ⟨rfl,hq⟩;go_wp2;go_ret;exact ⟨rfl,below_next hb hq⟩
open Go.RowKit Go.Shelf Go.Lib Go.Op
def dW (n:Int):Dyadic:=.ofIntWithPrec n 0
theorem dW_add (a b:Int):dW a+dW b=dW (a+b):=gD_add 0 a b
theorem dW_mul (a b:Int):dW a*dW b=dW (a*b):=gD_mul 0 0 a b
theorem dW_zero {n:Int}:dW n=0↔n=0:=by
 constructor
 ·intro h;have h1:=congrArg Dyadic.toRat h;have h2:(dW n).toRat=(n:Rat)*2 ^ (-((0:Nat):Int)):=gD_rat 0 n;rw [h2] at h1;have h3:(n:Rat)=0:=by simpa using h1
  exact_mod_cast h3
 ·rintro rfl;rfl
theorem dW_beq (n:Int):(dW n == 0)=decide (n=0):=by
 by_cases h:n=0
 ·subst h;rfl
 ·have h1:dW n≠0:=fun e=>h (dW_zero.1 e);rw [decide_eq_false h];simpa using h1
theorem aw_a:polyOf [([1],dW 2),([0],dW 3),([1],dW (-2))]=[([0],dW 3)]:=by
 simp [polyOf,gath,merge2,dropNought,bytesLess,dW_add,dW_beq]
theorem aw_b:polyOf (prodTD mulM [([0,1],dW 1),([1,0],dW 1)] [([0,1],dW (-1)),([1,0],dW 1)])=[([0,2],dW (-1)),([2,0],dW 1)]:=by
 simp [prodTD,scaleT,mulM,addL,polyOf,gath,merge2,dropNought,bytesLess,dW_add,dW_mul,dW_beq]
theorem aw_c1:polyOf (prodTD mulM [([0],dW 1)] [([0],dW 1),([1],dW 1)])=[([0],dW 1),([1],dW 1)]:=by
 simp [prodTD,scaleT,mulM,addL,polyOf,gath,merge2,dropNought,bytesLess,dW_mul,dW_beq]
theorem aw_c2:polyOf (prodTD mulM [([0],dW 1),([1],dW 1)] [([0],dW 1),([1],dW 1)])=[([0],dW 1),([1],dW 2),([2],dW 1)]:=by
 simp [prodTD,scaleT,mulM,addL,polyOf,gath,merge2,dropNought,bytesLess,dW_add,dW_mul,dW_beq]
def tW (e:List UInt8) (n:Int):TV:=canonT (e,dW n)
theorem tW_tdv (e:List UInt8) (n:Int):tdv (tW e n)=(e,dW n):=tdv_canon _
theorem tW_good {v:Int} {e:List UInt8} {n:Int} (h1:(e.all fun b=>decide (b.toNat<128))=true) (h2:(e.length:Int)=v) (h3:n≠0):goodB v (tW e n)=true:=by
 have hm:mayB (tW e n).1 v=true:=by
  unfold mayB;have a:(tW e n).1.data.toList=e:=rfl;have b:(tW e n).1.size=e.length:=by
   show e.toArray.size=e.length;simp
  rw [a,b,h1,decide_eq_true h2];rfl
 have hv:nvl (tW e n).2=dW n:=nvl_canon _;unfold goodB;rw [hm,hv];have h4:(dW n == 0)=false:=by rw [dW_beq,decide_eq_false h3]
 rw [h4,decide_eq_true (show canonN (dW n)=(tW e n).2 from rfl)];rfl
theorem check_list {v:Int} {l:List TV} (hv:0≤v∧v≤12) (hl:l.length≤4096) (h1:∀ x∈l,goodB v x=true) (h2:risB l=true):checkE v l=0:=by
 rw [checkE_loop hv hl,if_pos];rw [h2,Bool.and_true,List.all_eq_true];exact h1
theorem good_list {A v:Nat} {l:List TV} (h:checkE (v:Int) l=0) (hg:GF 0 A (l.map tdv)):Good 0 A v l:=by
 obtain ⟨-,-,h3,h4,h5⟩:=check_ok h;exact ⟨fun x hx=>⟨(good_form (h3 x hx)).2.2,(good_form (h3 x hx)).1⟩,h4,h5,hg⟩
theorem pow_cap_gen (k u:Nat) (h:112+u<8*k) {B:Nat} (hB:B≤2 ^ 100):4000*(B*2 ^ u)<256 ^ k:=by
 rw [p256];have h1:4000*(B*2 ^ u)≤2 ^ 12*(2 ^ 100*2 ^ u):=Nat.mul_le_mul (by decide) (Nat.mul_le_mul_right _ hB);rw [← Nat.pow_add,← Nat.pow_add] at h1;exact Nat.lt_of_le_of_lt h1 (Nat.pow_lt_pow_right (by decide) (by omega))
theorem cap_fit_gen (k u:Nat) (h:112+u<8*k) {B:Nat} (hB:B≤2 ^ 100):B*2 ^ (u-0)<256 ^ k:=Nat.lt_of_le_of_lt (Nat.le_mul_of_pos_left (n:=4000) _ (by decide)) (pow_cap_gen k u h hB)
theorem cap_mul_gen (k u:Nat) (h:112+u<8*k) {B n:Nat} (hB:n*B≤2 ^ 100):n*(B*2 ^ (u-0))<256 ^ k:=by
 rw [← Nat.mul_assoc];exact cap_fit_gen k u h hB
def twoV (n:Int):List TV:=[tW [0,1] n,tW [1,0] 1]
theorem twoV_check {n:Int} (h:n≠0):checkE 2 (twoV n)=0:=check_list (by decide) (show 2≤4096 by decide) (fun x hx=>by
 rcases List.mem_cons.1 hx with rfl|hx
 ·exact tW_good (by decide) rfl h
 ·obtain rfl:=List.mem_singleton.1 hx;exact tW_good (by decide) rfl (by decide)) rfl
theorem twoV_good {n:Int} (h:n=1∨n=-1):Good 0 2 2 (twoV n):=good_list (twoV_check (by omega)) ⟨n,1,by rw [tW_tdv];rfl,by omega,1,0,by rw [tW_tdv];rfl,by decide,trivial⟩
def oneX:List TV:=[tW [0] 1,tW [1] 1]
theorem oneX_check:checkE 1 oneX=0:=check_list (by decide) (by decide) (fun x hx=>by
 rcases List.mem_cons.1 hx with rfl|hx
 ·exact tW_good (by decide) rfl (by decide)
 ·obtain rfl:=List.mem_singleton.1 hx;exact tW_good (by decide) rfl (by decide)) rfl
theorem oneX_good:Good 0 2 1 oneX:=good_list oneX_check ⟨1,1,by rw [tW_tdv];rfl,by decide,1,0,by rw [tW_tdv];rfl,by decide,trivial⟩
def twoone:List TV:=[tW [2,1] 1]
theorem twoone_check:checkE 2 twoone=0:=check_list (by decide) (by decide) (fun x hx=>by
 obtain rfl:=List.mem_singleton.1 hx;exact tW_good (by decide) rfl (by decide)) rfl
theorem gl_twoone:gl 2 twoone=[2,1]:=by decide
theorem tW_fit (e:List UInt8) {n:Int} (h:n.natAbs≤2 ^ 100):Fits (n.natAbs*2 ^ (2000-0)) [tdv (tW e n)]∧fitsN 1000 (tW e n).2:=by
 have h1:GF 0 n.natAbs [tdv (tW e n)]:=⟨n,0,by rw [tW_tdv];rfl,Nat.le_refl _,trivial⟩;have h2:=GF.fits (by decide) h1;refine ⟨h2,?_⟩;obtain ⟨z,h3,h4⟩:=h2.mem (List.mem_singleton.2 rfl);have h5:nvl (tW e n).2=unitD z:=h3;have h6:nvl (tW e n).2=dW n:=nvl_canon _;rw [h6] at h5;exact fit_small h5 (Nat.lt_of_le_of_lt h4 (cap_fit_gen 1000 2000 (by decide) h)) (by decide)
theorem make_small (w:World) (B:Nat) (v:Int) (ad:Option Addr) (n c:Nat) (l:List TV) (hn:l.length=n) (hc:n≤c) (hmax:n≤4000) (hB:n*B≤2 ^ 100) (hB2:B≤2 ^ 100) (hp:TAt w ad l) (hf:∀ x∈l,∃ e m,x=tW e m∧m.natAbs≤B∧e.length≤1000) :
  Calls Tryz.prog 10 #[.int .i64 v,.slice ad n c] w
   (fun e w'=>((0≤v∧v≤12)∧(∀ x∈l,mayB x.1 v=true)∧PolyOut w w' e v ((polyOf (l.map tdv)).map canonT))∨(¬ ((0≤v∧v≤12)∧(∀ x∈l,mayB x.1 v=true))∧PolyErr w w' e 1)):=
 make_any w 1000 (B*2 ^ (2000-0)) (by decide) (by decide) v ad n c l hn hc hmax (cap_mul_gen 1000 2000 (by decide) hB) hp fun x hx=>by
  obtain ⟨e,m,rfl,h1,h2⟩:=hf x hx;obtain ⟨f1,f2⟩:=tW_fit e (Nat.le_trans h1 hB2);refine ⟨f1.mono (Nat.mul_le_mul_right _ h1),f2,?_⟩;have h3:(tW e m).1.size=e.length:=by
   show e.toArray.size=e.length;simp
  omega
theorem mul_small (w:World) (A M:Nat) (hA1:1≤A) (hM1:1≤M) (ad:Option Addr) (n c:Nat) (l:List PV) (hn:l.length=n) (hc:n≤c) (hmax:n≤10) (hMn:M ^ n≤4000) (hMM:M≤4000) (hA:A ^ n≤2 ^ 100) (hp:PAt w ad l) (hraw:rawOK l) (hg:likeE l=0→∀ x∈l,Good 0 A x.1.toNat x.2∧x.2.length≤M) :
  Calls Tryz.prog 25 #[.slice ad n c] w
   (fun e w'=>(∃ v p t R,l=(v,p)::t∧likeE l=0∧mulAll p (t.map Prod.snd)=some R∧PolyOut w w' e v R)∨(likeE l≠0∧PolyErr w w' e (likeE l))∨(∃ v p t,l=(v,p)::t∧likeE l=0∧mulAll p (t.map Prod.snd)=none∧PolyErr w w' e 3)):=
 pmul_any w 0 A M hA1 hM1 ad n c l hn hc hmax (by omega) hMn hMM (pow_cap_gen 1000 2000 (by decide) hA) hp hraw hg
theorem pow_small (w:World) (A M K:Nat) (hA1:1≤A) (hM1:1≤M) (hK:K≤100) (hMn:M ^ (K+1)≤4000) (hA:A ^ (K+1)≤2 ^ 100) (v:Int) (td:Option Addr) (pc:Nat) (p:List TV) (hpc:p.length≤pc) (hpM:p.length≤M) (hM4:M≤4000) (hp:TAt w td p)
  (hraw:∀ x∈p,x.1.size≤1000000∧x.2.2.1.size≤1000000∧-10000000≤x.2.2.2∧x.2.2.2≤10000000) (n:Int) (hn:n≤K∨127<n) (hg:checkE v p=0→Good 0 A v.toNat p) :
  Calls Tryz.prog 27 #[.agg #[.int .i64 v,.slice td p.length pc],.int .i64 n] w
   (fun e w'=>(∃ R,checkE v p=0∧0≤n∧n≤127∧powV v.toNat p n.toNat=some R∧PolyOut w w' e v R)∨(checkE v p≠0∧PolyErr w w' e (checkE v p))∨(checkE v p=0∧¬ (0≤n∧n≤127)∧PolyErr w w' e 1)∨(checkE v p=0∧0≤n∧n≤127∧powV v.toNat p n.toNat=none∧PolyErr w w' e 3)):=
 pow_any w 0 A M K hA1 hM1 hK (by omega) hMn (pow_cap_gen 1000 2000 (by decide) hA) v td pc p hpc hpM hM4 hp hraw n hn hg
theorem aw_make (W:World) (g:Nat) (ht:TAt W (some ⟨g,0,none⟩) [tW [1] 2,tW [0] 3,tW [1] (-2)]):Calls Tryz.prog 10 #[.int .i64 1,.slice (some ⟨g,0,none⟩) 3 3] W (fun e w'=>PolyOut W w' e 1 [tW [0] 3]):=by
 have hall:∀ x∈[tW [1] 2,tW [0] 3,tW [1] (-2)],∃ e n,x=tW e n∧n.natAbs≤3∧e.length=1∧mayB x.1 1=true:=by
  intro x hx
  rcases List.mem_cons.1 hx with rfl|hx
  ·exact ⟨_,_,rfl,by decide,rfl,by decide⟩
  rcases List.mem_cons.1 hx with rfl|hx
  ·exact ⟨_,_,rfl,by decide,rfl,by decide⟩
  obtain rfl:=List.mem_singleton.1 hx;exact ⟨_,_,rfl,by decide,rfl,by decide⟩
 refine (make_small W 3 1 (some ⟨g,0,none⟩) 3 3 [tW [1] 2,tW [0] 3,tW [1] (-2)] rfl (Nat.le_refl _) (by decide) (by decide) (by decide) ht (fun x hx=>?_)).mono ?_
 ·obtain ⟨e,n,rfl,h2,h3,-⟩:=hall x hx;exact ⟨e,n,rfl,h2,by omega⟩
 ·rintro e w' (⟨-,-,h⟩|⟨h,-⟩)
  ·have e1:(polyOf ([tW [1] 2,tW [0] 3,tW [1] (-2)].map tdv)).map canonT=[tW [0] 3]:=by
    rw [show [tW [1] 2,tW [0] 3,tW [1] (-2)].map tdv=[([1],dW 2),([0],dW 3),([1],dW (-2))] by simp [tW_tdv],aw_a];rfl
   rw [e1] at h;exact h
  ·exact absurd ⟨by decide,fun x hx=>(hall x hx).choose_spec.choose_spec.2.2.2⟩ h
theorem likeE_two:likeE [(2,twoV 1),(2,twoV (-1))]=0:=by
 rw [like_good (y:=(2,twoV 1)) (t:=[(2,twoV (-1))]) rfl]
 ·simp
 ·intro j hj
  match j,hj with
  | 0,_=>exact twoV_check (by decide)
  | 1,_=>exact twoV_check (by decide)
theorem twoV_okAll:okAll (twoV 1) (twoV (-1)):=by
 intro x hx y hy
 rcases List.mem_cons.1 hx with rfl|hx
 ·rcases List.mem_cons.1 hy with rfl|hy
  ·decide
  ·obtain rfl:=List.mem_singleton.1 hy
   decide
 ·obtain rfl:=List.mem_singleton.1 hx
  rcases List.mem_cons.1 hy with rfl|hy
  ·decide
  ·obtain rfl:=List.mem_singleton.1 hy
   decide
theorem mulV_two:mulV (twoV 1) (twoV (-1))=[tW [0,2] (-1),tW [2,0] 1]:=by
 unfold mulV;rw [show (twoV 1).map tdv=[([0,1],dW 1),([1,0],dW 1)] by simp [twoV,tW_tdv],show (twoV (-1)).map tdv=[([0,1],dW (-1)),([1,0],dW 1)] by simp [twoV,tW_tdv],aw_b];rfl
theorem raw_tW {e:List UInt8} {n:Int} (h:n.natAbs≤2 ^ 100) (h2:e.length≤1000):(tW e n).1.size≤1000000∧(tW e n).2.2.1.size≤1000000∧-10000000≤(tW e n).2.2.2∧(tW e n).2.2.2≤10000000:=by
 have h1:=(tW_fit e h).2;have h3:(tW e n).1.size=e.length:=by
  show e.toArray.size=e.length;simp
 unfold fitsN at h1;omega
theorem one_le_cap:(1:Int).natAbs≤2 ^ 100∧(-1:Int).natAbs≤2 ^ 100:=⟨Nat.one_le_two_pow,Nat.one_le_two_pow⟩
theorem two_raw {n:Int} (h:n.natAbs≤2 ^ 100):∀ x∈twoV n,x.1.size≤1000000∧x.2.2.1.size≤1000000∧-10000000≤x.2.2.2∧x.2.2.2≤10000000:=fun x hx=>by
 rcases List.mem_cons.1 hx with rfl|hx
 ·exact raw_tW h (by decide)
 ·obtain rfl:=List.mem_singleton.1 hx;exact raw_tW one_le_cap.1 (by decide)
theorem aw_mul (W:World) (ad:Option Addr) (hp:PAt W ad [(2,twoV 1),(2,twoV (-1))]):Calls Tryz.prog 25 #[.slice ad 2 2] W (fun e w'=>PolyOut W w' e 2 [tW [0,2] (-1),tW [2,0] 1]):=by
 refine (mul_small W 2 2 (by decide) (by decide) ad 2 2 [(2,twoV 1),(2,twoV (-1))] rfl (Nat.le_refl _) (by decide) (by decide) (by decide) (by decide) hp ?_ ?_).mono ?_
 ·intro y hy
  rcases List.mem_cons.1 hy with rfl|hy
  ·exact ⟨show 2≤1000000 by decide,two_raw one_le_cap.1⟩
  ·obtain rfl:=List.mem_singleton.1 hy;exact ⟨show 2≤1000000 by decide,two_raw one_le_cap.2⟩
 ·intro _ x hx
  rcases List.mem_cons.1 hx with rfl|hx
  ·exact ⟨twoV_good (.inl rfl),Nat.le_refl 2⟩
  ·obtain rfl:=List.mem_singleton.1 hx;exact ⟨twoV_good (.inr rfl),Nat.le_refl 2⟩
 ·rintro e w' (⟨v,p,t,R,hl,-,hR,h⟩|⟨h,-⟩|⟨v,p,t,hl,-,hR,-⟩)
  ·simp only [List.cons.injEq,Prod.mk.injEq] at hl;obtain ⟨⟨rfl,rfl⟩,rfl⟩:=hl;have h1:=(mulAll_snoc (twoV 1) [] (twoV (-1)) (twoV 1) (by unfold mulAll;rfl)).1 twoV_okAll;have h2:mulAll (twoV 1) [twoV (-1)]=some R:=hR;rw [show mulAll (twoV 1) [twoV (-1)]=some (mulV (twoV 1) (twoV (-1))) from h1,mulV_two] at h2;obtain rfl:=Option.some.inj h2;exact h
  ·exact absurd likeE_two h
  ·simp only [List.cons.injEq,Prod.mk.injEq] at hl;obtain ⟨⟨rfl,rfl⟩,rfl⟩:=hl;have h1:=(mulAll_snoc (twoV 1) [] (twoV (-1)) (twoV 1) (by unfold mulAll;rfl)).1 twoV_okAll;have h2:mulAll (twoV 1) [twoV (-1)]=none:=hR;rw [show mulAll (twoV 1) [twoV (-1)]=some (mulV (twoV 1) (twoV (-1))) from h1] at h2
   cases h2
theorem aw_addnone (W:World):Calls Tryz.prog 29 #[.slice none 0 0] W (fun e w'=>PolyErr W w' e 1):=by
 refine (padd_any W 250 0 0 (by decide) (by decide) none 0 0 [] rfl (Nat.le_refl _) (by decide) (by rw [Nat.zero_mul];exact Nat.pow_pos (by decide)) (by decide) (fun i h=>by simp at h) (fun y hy=>absurd hy List.not_mem_nil) (fun _ x hx=>absurd hx List.not_mem_nil)).mono ?_;rintro e w' (⟨y,t,h,-⟩|⟨-,h⟩)
 ·cases h
 ·exact h
theorem powV_oneX:powV 1 oneX 2=some [tW [0] 1,tW [1] 2,tW [2] 1]:=by
 have c0:constV 1 oneN=[tW [0] 1]:=by
  have e:tdv (oneB 1,oneN)=([0],dW 1):=by
   show ((oneB 1).data.toList,nvl oneN)=_;rw [oneN_val.1];rfl
  unfold constV polyOf gath gath;rw [merge2_nil,e];unfold dropNought;rw [List.filter_cons,if_pos (by show (!(dW 1 == 0))=true;rw [dW_beq];rfl)];rfl
 have t1:oneX.map tdv=[([0],dW 1),([1],dW 1)]:=by simp [oneX,tW_tdv]
 have s0:powV 1 oneX 0=some [tW [0] 1]:=by rw [← c0];rfl
 have k0:okAll [tW [0] 1] oneX:=by
  intro x hx y hy;obtain rfl:=List.mem_singleton.1 hx
  rcases List.mem_cons.1 hy with rfl|hy
  ·decide
  ·obtain rfl:=List.mem_singleton.1 hy
   decide
 have m0:mulV [tW [0] 1] oneX=oneX:=by
  unfold mulV;rw [t1,show [tW [0] 1].map tdv=[([0],dW 1)] by simp [tW_tdv],aw_c1];rfl
 have s1:=(powV_some s0).1 k0;rw [m0] at s1;have k1:okAll oneX oneX:=by
  intro x hx y hy
  rcases List.mem_cons.1 hx with rfl|hx
  ·rcases List.mem_cons.1 hy with rfl|hy
   ·decide
   ·obtain rfl:=List.mem_singleton.1 hy
    decide
  ·obtain rfl:=List.mem_singleton.1 hx
   rcases List.mem_cons.1 hy with rfl|hy
   ·decide
   ·obtain rfl:=List.mem_singleton.1 hy
    decide
 have m1:mulV oneX oneX=[tW [0] 1,tW [1] 2,tW [2] 1]:=by
  unfold mulV;rw [t1,aw_c2];rfl
 have s2:=(powV_some s1).1 k1;rw [m1] at s2;exact s2
theorem oneX_raw:∀ x∈oneX,x.1.size≤1000000∧x.2.2.1.size≤1000000∧-10000000≤x.2.2.2∧x.2.2.2≤10000000:=fun x hx=>by
 rcases List.mem_cons.1 hx with rfl|hx
 ·exact raw_tW one_le_cap.1 (by decide)
 ·obtain rfl:=List.mem_singleton.1 hx;exact raw_tW one_le_cap.1 (by decide)
theorem aw_pow (W:World) (td:Option Addr) (hp:TAt W td oneX):Calls Tryz.prog 27 #[.agg #[.int .i64 1,.slice td 2 2],.int .i64 2] W (fun e w'=>PolyOut W w' e 1 [tW [0] 1,tW [1] 2,tW [2] 1]):=by
 refine (pow_small W 2 2 2 (by decide) (by decide) (by decide) (by decide) (by decide) 1 td 2 oneX (show 2≤2 by decide) (show 2≤2 by decide) (by decide) hp oneX_raw 2 (.inl (by decide)) (fun _=>oneX_good)).mono ?_;rintro e w' (⟨R,-,-,-,hR,h⟩|⟨h,-⟩|⟨-,h,-⟩|⟨-,-,-,h,-⟩)
 ·have h2:powV 1 oneX 2=some R:=hR;rw [powV_oneX] at h2;obtain rfl:=Option.some.inj h2;exact h
 ·exact absurd oneX_check h
 ·exact absurd ⟨by decide,by decide⟩ h
 ·have h2:powV 1 oneX 2=none:=h;rw [powV_oneX] at h2
  cases h2
theorem aw_powneg (W:World) (td:Option Addr) (hp:TAt W td (twoV 1)):Calls Tryz.prog 27 #[.agg #[.int .i64 2,.slice td 2 2],.int .i64 (-1)] W (fun e w'=>PolyErr W w' e 1):=by
 refine (pow_small W 2 2 2 (by decide) (by decide) (by decide) (by decide) (by decide) 2 td 2 (twoV 1) (show 2≤2 by decide) (show 2≤2 by decide) (by decide) hp (two_raw one_le_cap.1) (-1) (.inl (by decide)) (fun _=>twoV_good (.inl rfl))).mono ?_;rintro e w' (⟨R,-,h,-⟩|⟨h,-⟩|⟨-,-,h⟩|⟨-,h,-⟩)
 ·exact absurd h (by decide)
 ·exact absurd (twoV_check (by decide)) h
 ·exact h
 ·exact absurd h (by decide)
theorem aw_const (W:World) (m:Bool) (s:ByteArray) (d:Int) (h:canonN (dW 1)=(m,s,d)):Calls Tryz.prog 18 #[.int .i64 13,.agg #[.bool m,.string s,.int .i64 d]] W (fun e w'=>PolyErr W w' e 1):=by
 have hv:nvl (m,s,d)=dW 1:=by rw [← h];exact nvl_canon _
 have hf:=(tW_fit [] (n:=1) one_le_cap.1).2;have hf2:(tW [] 1).2=(m,s,d):=h;rw [hf2] at hf;refine (const_any W 1000 (1*2 ^ (2000-0)) (by decide) (by decide) 13 m s d (fun n _=>GF.fits (u:=0) (by decide) ⟨1,0,hv,by decide,trivial⟩) hf (cap_fit_gen 1000 2000 (by decide) Nat.one_le_two_pow)).mono ?_;rintro e w' (⟨n,h1,h2,-⟩|⟨-,h⟩)
 ·omega
 ·exact h
theorem aw_degs (W:World) (td:Option Addr) (hp:TAt W td twoone):Calls Tryz.prog 16 #[.agg #[.int .i64 2,.slice td 1 1]] W (RetI [2,1] W):=
 pdegs_any W 2 td 1 1 twoone rfl (by decide) hp (fun x hx=>by obtain rfl:=List.mem_singleton.1 hx;exact raw_tW one_le_cap.1 (by decide)) [2,1] (by rw [if_pos twoone_check,show (2:Int).toNat=2 from rfl,gl_twoone];rfl)
def rawC:Nat:=796
def rawH:Nat:=2 ^ rawC
theorem rawH_eq:rawH=2 ^ rawC:=by unfold rawH;rfl
theorem rawH_pos:1≤rawH:=by rw [rawH_eq];exact Nat.one_le_two_pow
theorem raw_gen (a b:Nat) {x:NV} (h1:x.2.1.size≤a) (h2:-300≤x.2.2) (h3:x.2.2+300≤b):∃ z:Int,nvl x=gD 300 z∧z.natAbs≤256 ^ a*2 ^ b:=by
 obtain ⟨t,ht⟩:∃ t:Nat,(t:Int)=300+x.2.2:=⟨(300+x.2.2).toNat,by omega⟩;refine ⟨wv x.1 x.2.1*((2 ^ t:Nat):Int),?_,?_⟩
 ·show nv x.1 x.2.1 x.2.2=_;rw [← Dyadic.toRat_inj,nv_toRat,gD_rat,Rat.intCast_mul];have e1:x.2.2=(t:Int)+(-((300:Nat):Int)):=by omega
  rw [e1,Rat.zpow_add (by decide)];have e2:(((2 ^ t:Nat):Int):Rat)=2 ^ (t:Int):=by
   rw [Rat.zpow_natCast,Int.natCast_pow,Rat.intCast_pow];rfl
  rw [e2]
  grind
 ·rw [Int.natAbs_mul,wv_abs,Int.natAbs_natCast];have h4:num x.2.1<256 ^ a:=Nat.lt_of_lt_of_le (num_lt _) (Nat.pow_le_pow_right (by decide) h1);have h5:2 ^ t≤2 ^ b:=Nat.pow_le_pow_right (by decide) (by omega);exact Nat.mul_le_mul (Nat.le_of_lt h4) h5
theorem gf_gen (a b:Nat):∀ {l:List TV},(∀ x∈l,x.2.2.1.size≤a∧-300≤x.2.2.2∧x.2.2.2+300≤b)→GF 300 (l.length*(256 ^ a*2 ^ b)) (l.map tdv)
 | [],_=>trivial
 | x::l,h=>by
  obtain ⟨h1,h2,h3⟩:=h x List.mem_cons_self;obtain ⟨z,g1,g2⟩:=raw_gen a b (x:=x.2) h1 h2 h3;refine ⟨z,l.length*(256 ^ a*2 ^ b),g1,?_,gf_gen a b fun y hy=>h y (List.mem_cons_of_mem _ hy)⟩;rw [List.length_cons,Nat.add_mul,Nat.one_mul];omega
theorem len_gen (a b c n:Nat) (h:n≤12) (hc:4+(8*a+b)=c):n*(256 ^ a*2 ^ b)≤2 ^ c:=by
 subst hc;rw [p256,← Nat.pow_add,Nat.pow_add 2 4];exact Nat.mul_le_mul_right _ (by omega)
theorem heavy_no {l:List TV} (h:pheavyB l=false):l.length≤12∧∀ x∈l,x.1.size≤50∧x.2.2.1.size≤24∧-300≤x.2.2.2∧x.2.2.2≤300:=by
 unfold pheavyB at h;rw [Bool.or_eq_false_iff,decide_eq_false_iff_not] at h;refine ⟨by omega,fun x hx=>?_⟩;have h1:=List.any_eq_false.1 h.2 x hx;unfold pfarB at h1;simp only [Bool.or_eq_true,decide_eq_true_eq,not_or] at h1;omega
theorem heavy_gf {l:List TV} (h:pheavyB l=false):GF 300 rawH (l.map tdv):=by
 obtain ⟨h1,h2⟩:=heavy_no h;refine (gf_gen 24 600 fun x hx=>?_).mono ?_
 ·have:=h2 x hx
  omega
 ·exact len_gen 24 600 rawC l.length h1 rfl
theorem good_raw {v:Int} {l:List TV} (hc:checkE v l=0) (h:pheavyB l=false):Good 300 rawH v.toNat l:=by
 obtain ⟨⟨h0,-⟩,-,h3,h4,h5⟩:=check_ok hc;obtain ⟨n,rfl⟩:∃ n:Nat,v=n:=⟨v.toNat,by omega⟩;rw [Int.toNat_natCast];exact ⟨fun x hx=>⟨(good_form (h3 x hx)).2.2,(good_form (h3 x hx)).1⟩,h4,h5,heavy_gf h⟩
theorem cap_pow_gen (k u n c:Nat) (h:12+(n*c+u)<8*k) {A:Nat} (hA:A≤2 ^ c):4000*(A ^ n*2 ^ u)<256 ^ k:=by
 rw [p256];have h0:A ^ n≤2 ^ (n*c):=by
  rw [Nat.mul_comm,Nat.pow_mul];exact Nat.pow_le_pow_left hA n
 have h1:4000*(A ^ n*2 ^ u)≤2 ^ 12*(2 ^ (n*c)*2 ^ u):=Nat.mul_le_mul (by decide) (Nat.mul_le_mul_right _ h0);rw [← Nat.pow_add,← Nat.pow_add] at h1;exact Nat.lt_of_le_of_lt h1 (Nat.pow_lt_pow_right (by decide) (by omega))
theorem two_mul_pow (c:Nat):2*2 ^ c≤2 ^ (1+c):=by
 rw [Nat.add_comm,Nat.pow_succ,Nat.mul_comm];exact Nat.le_refl _
theorem raw_two:2*rawH≤2 ^ (1+rawC):=by
 rw [rawH_eq];exact two_mul_pow rawC
theorem raw_small (n:Nat) (hn:n≤4):12+(n*(1+rawC)+2000)<8*1000:=by
 have h:=Nat.mul_le_mul_right (1+rawC) hn;have e:4*(1+rawC)=3188:=by decide
 omega
theorem raw_cap (n:Nat) (hn:n≤4):4000*((2*rawH) ^ n*2 ^ 2000)<256 ^ 1000:=cap_pow_gen 1000 2000 n (1+rawC) (raw_small n hn) raw_two
theorem many_no {l:List PV} (h:pmanyB l=false):l.length≤3∧∀ x∈l,pheavyB x.2=false:=by
 unfold pmanyB at h;rw [Bool.or_eq_false_iff,decide_eq_false_iff_not] at h;refine ⟨by omega,fun x hx=>?_⟩
 have:=List.any_eq_false.1 h.2 x hx
 simpa using this
theorem raw_ok {l:List PV} (h:∀ x∈l,pheavyB x.2=false):rawOK l:=fun y hy=>by
 obtain ⟨h1,h2⟩:=heavy_no (h y hy);refine ⟨by omega,fun x hx=>?_⟩
 have:=h2 x hx
 omega
theorem canon_back (l:List TD):(l.map canonT).map tdv=l:=by
 rw [List.map_map]
 conv=>rhs;rw [← List.map_id l]
 exact List.map_congr_left fun x _=>tdv_canon x
def sumV (l:List PV):List TV:=(polyOf ((l.map fun x=>x.2.map tdv).flatten)).map canonT
theorem sumV_two (v w:Int) (p q:List TV):sumV [(v,p),(w,q)]=(polyOf (p.map tdv++q.map tdv)).map canonT:=by
 unfold sumV;simp
theorem sumV_turn (v w u:Int) (p q r:List TV):sumV [(v,p),(w,q),(u,r)]=sumV [(u,r),(w,q),(v,p)]:=by
 unfold sumV;have h:=poly_add3 (p.map tdv) (q.map tdv) (r.map tdv);simp only [List.map_cons,List.map_nil,List.flatten_cons,List.flatten_nil,List.append_nil];rw [← List.append_assoc,h,List.append_assoc]
theorem mulV_comm (p q:List TV):mulV p q=mulV q p:=by
 unfold mulV;rw [poly_mul_comm mulM fun _ _ _ _=>mulM_comm _ _]
theorem okAll_turn {p q:List TV}:okAll p q↔okAll q p:=⟨okAll_comm,okAll_comm⟩
theorem mulV_plus (v w v' w' : Int) (p q r:List TV):mulV p (sumV [(v,q),(w,r)])=sumV [(v',mulV p q),(w',mulV p r)]:=by
 rw [sumV_two,sumV_two];unfold mulV;rw [canon_back,canon_back,canon_back,poly_mul_plus]
open Classical in
theorem mulAll_one (p q:List TV):mulAll p [q]=if okAll p q then some (mulV p q) else none:=by
 unfold mulAll
 split
 ·unfold mulAll;rfl
 ·rfl
theorem addL_zeros:∀ (a:List UInt8),addL a (List.replicate a.length 0)=a
 | []=>rfl
 | x::a=>by
  rw [List.length_cons,List.replicate_succ];show UInt8.ofNat (x.toNat+(0:UInt8).toNat)::addL a (List.replicate a.length 0)=x::a;rw [addL_zeros a]
  congr 1
  show UInt8.ofNat (x.toNat+0)=x;rw [Nat.add_zero];exact UInt8.ofNat_toNat
theorem const_coef {n:Nat} {c:NV} {q:List TV} (hq:∀ y∈q,mayB y.1 (n:Int)=true) (m:List UInt8):coef ((mulV (constV n c) q).map tdv) m=nvl c*coef (q.map tdv) m:=by
 unfold mulV constV;rw [canon_back,canon_back,polyOf_coef,prod_congr mulM (p':=[tdv (oneB n,c)]) (q':=q.map tdv) (fun k=>polyOf_coef _ k) (fun _=>rfl)];show coef (scaleT mulM (tdv (oneB n,c)) (q.map tdv)++[]) m=_;rw [List.append_nil]
 induction q with
 | nil=>exact (Dyadic.mul_zero _).symm
 | cons y q ih =>
  have h1:=ih fun z hz=>hq z (List.mem_cons_of_mem _ hz);have h2:=(may_td (hq y List.mem_cons_self)).2;have e:mulM (tdv (oneB n,c)).1 (tdv y).1=(tdv y).1:=by
   show addL (tdv y).1 (List.replicate n (0:UInt8))=(tdv y).1;have h3:=addL_zeros (tdv y).1;rw [h2] at h3;exact h3
  show (if mulM (tdv (oneB n,c)).1 (tdv y).1=m then (tdv (oneB n,c)).2*(tdv y).2 else 0)+coef (scaleT mulM (tdv (oneB n,c)) (q.map tdv)) m=nvl c*((if (tdv y).1=m then (tdv y).2 else 0)+coef (q.map tdv) m);rw [h1,e,Dyadic.mul_add]
  congr 1
  split
  ·rfl
  ·exact (Dyadic.mul_zero _).symm
theorem back_again {A v:Nat} {w1 w2 w3 w4:Int} {c:NV} {p q:List TV} (hc:nvl c=dW (-1)) (hp:Good 300 A v p) (hq:∀ y∈q,mayB y.1 (v:Int)=true):sumV [(w1,sumV [(w2,p),(w3,q)]),(w4,mulV (constV v c) q)]=p:=by
 rw [sumV_two,sumV_two,canon_back];have h:=poly_back (p:=p.map tdv) (q:=q.map tdv) (n:=(mulV (constV v c) q).map tdv) hp.2.1 hp.2.2.1 (fun m=>by
  rw [const_coef hq,hc,← Dyadic.toRat_inj,Dyadic.toRat_mul,Dyadic.toRat_neg];have e:(dW (-1)).toRat=-1:=by
   show (gD 0 (-1)).toRat=-1;rw [gD_rat];simp
  rw [e]
  grind)
 rw [h,List.map_map]
 conv=>rhs;rw [← List.map_id p]
 exact List.map_congr_left fun x hx=>canon_of (hp.1 x hx).2
theorem check_01 {v:Int} {l:List TV} (h:l.length≤4096):checkE v l=0∨checkE v l=1:=by
 unfold checkE
 split
 ·exact .inr rfl
 ·rw [if_neg (by omega)]
  split
  ·exact .inl rfl
  ·exact .inr rfl
theorem like_01 {l:List PV} (h:∀ x∈l,x.2.length≤4096):likeE l=0∨likeE l=1:=by
 unfold likeE
 split
 ·rename_i x hx
  exact check_01 (h x (List.mem_of_find?_eq_some hx))
 ·split
  ·exact .inr rfl
  ·split
   ·exact .inr rfl
   ·exact .inl rfl
theorem like_iff {y:PV} {t:List PV}:likeE (y::t)=0↔(∀ x∈y::t,checkE x.1 x.2=0)∧∀ x∈y::t,x.1=y.1:=by
 constructor
 ·intro h;obtain ⟨y',t',e,h1,h2⟩:=find_good h
  injection e with e1 e2
  subst e1;exact ⟨h1,h2⟩
 ·rintro ⟨h1,h2⟩;rw [like_good rfl fun j hj=>h1 _ (List.getElem_mem hj)];rw [if_neg];intro h;obtain ⟨x,hx,hx2⟩:=List.any_eq_true.1 h;rw [h2 x hx] at hx2;simp at hx2
theorem like_turn {p q r:PV} (h:∀ x∈[p,q,r],x.2.length≤4096):likeE [p,q,r]=likeE [r,q,p]:=by
 have h1:=like_01 h;have h2:=like_01 (l:=[r,q,p]) fun x hx=>h x (by
  simp only [List.mem_cons,List.not_mem_nil,or_false] at hx ⊢
  rcases hx with e|e|e
  ·exact .inr (.inr e)
  ·exact .inr (.inl e)
  ·exact .inl e)
 have h3:likeE [p,q,r]=0↔likeE [r,q,p]=0:=by
  rw [like_iff,like_iff];simp only [List.mem_cons,List.not_mem_nil,or_false,forall_eq_or_imp,forall_eq]
  constructor
  ·rintro ⟨⟨a,b,c⟩,-,d,e⟩;exact ⟨⟨c,b,a⟩,trivial,by rw [d,e],e.symm⟩
  ·rintro ⟨⟨a,b,c⟩,-,d,e⟩;exact ⟨⟨c,b,a⟩,trivial,by rw [d,e],e.symm⟩
 omega
theorem check_good {u A v:Nat} {l:List TV} (h:Good u A v l) (hv:v≤12) (hl:l.length≤4096):checkE (v:Int) l=0:=by
 refine check_list ⟨by omega,by omega⟩ hl (fun x hx=>?_) (rising_risB h.2.1);have h1:=h.1 x hx;have h2:nvl x.2≠0:=h.2.2.1 (tdv x) (List.mem_map_of_mem hx);have h3:canonN (nvl x.2)=x.2:=congrArg Prod.snd (canon_of h1.2);unfold goodB;rw [h1.1,h3,decide_eq_true rfl];have h4:(nvl x.2 == 0)=false:=by simpa using h2
 rw [h4];rfl
theorem cap_one {A u:Nat} (h:4000*(A*2 ^ 2000)<256 ^ 1000):A*2 ^ (2000-u)<256 ^ 1000:=
 Nat.lt_of_le_of_lt (Nat.le_trans (Nat.mul_le_mul_left _ (Nat.pow_le_pow_right (by decide) (Nat.sub_le _ _))) (Nat.le_mul_of_pos_left (n:=4000) _ (by decide))) h
theorem cap_n {A u n:Nat} (hn:n≤4000) (h:4000*(A*2 ^ 2000)<256 ^ 1000):n*(A*2 ^ (2000-u))<256 ^ 1000:=
 Nat.lt_of_le_of_lt (Nat.mul_le_mul hn (Nat.mul_le_mul_left _ (Nat.pow_le_pow_right (by decide) (Nat.sub_le _ _)))) h
theorem good_sizes {u A v:Nat} {l:List TV} (h:Good u A v l) (hv:v≤12) (hu:u≤2000) (hA:4000*(A*2 ^ 2000)<256 ^ 1000):∀ x∈l,x.1.size≤1000000∧x.2.2.1.size≤1000000∧-10000000≤x.2.2.2∧x.2.2.2≤10000000:=fun x hx=>by
 have h1:=(h.okN (k:=1000) (by decide) (by decide) hu (cap_one hA) x hx).2;have h2:=(may_parts (h.1 x hx).1).1;unfold okN at h1;omega
theorem add_good (w:World) (u A M v:Nat) (hv:v≤12) (hu:u≤2000) (hA:4000*(A*2 ^ 2000)<256 ^ 1000) (ad:Option Addr) (n c:Nat) (y:PV) (t:List PV) (hn:(y::t).length=n) (hc:n≤c) (hn10:n≤10) (hM:n*M≤4000) (hM4:M≤4000) (hp:PAt w ad (y::t))
  (hg:∀ x∈y::t,x.1=(v:Int)∧Good u A v x.2∧x.2.length≤M):Calls Tryz.prog 29 #[.slice ad n c] w (fun e w'=>PolyOut w w' e v (sumV (y::t))):=by
 have hl:likeE (y::t)=0:=like_iff.2 ⟨fun x hx=>by
  obtain ⟨a,b,c⟩:=hg x hx;rw [a];exact check_good b hv (by omega),fun x hx=>(hg x hx).1.trans (hg y List.mem_cons_self).1.symm⟩
 refine (padd_any w 1000 (A*2 ^ (2000-u)) M (by decide) (by decide) ad n c (y::t) hn hc (by omega) (cap_n (by omega) hA) hM hp (fun x hx=>?_) (fun _ x hx=>?_)).mono ?_
 ·obtain ⟨-,b,d⟩:=hg x hx;exact ⟨by omega,good_sizes b hv hu hA⟩
 ·obtain ⟨-,b,d⟩:=hg x hx;exact ⟨GF.fits hu b.2.2.2,d,fun z hz=>(b.okN (k:=1000) (by decide) (by decide) hu (cap_one hA) z hz).1⟩
 ·rintro e w' (⟨y',t',e1,-,h⟩|⟨h,-⟩)
  ·injection e1 with e2 e3
   subst e2;rw [(hg y List.mem_cons_self).1] at h;exact h
  ·exact absurd hl h
theorem add_raw (w:World) (ad:Option Addr) (n c:Nat) (y:PV) (t:List PV) (hn:(y::t).length=n) (hc:n≤c) (hn3:n≤3) (hp:PAt w ad (y::t)) (hh:∀ x∈y::t,pheavyB x.2=false) :
  Calls Tryz.prog 29 #[.slice ad n c] w (fun e w'=>(likeE (y::t)=0∧PolyOut w w' e y.1 (sumV (y::t)))∨(likeE (y::t)≠0∧PolyErr w w' e (likeE (y::t)))):=by
 have hcap:=raw_cap 1 (by decide);have hA:4000*(rawH*2 ^ 2000)<256 ^ 1000:=by
  rw [Nat.pow_one] at hcap;exact Nat.lt_of_le_of_lt (Nat.mul_le_mul_left _ (Nat.mul_le_mul_right _ (Nat.le_mul_of_pos_left (n:=2) _ (by decide)))) hcap
 obtain ⟨u,hu⟩:∃ u,u=300:=⟨_,rfl⟩;have hu2:u≤2000:=by omega
 refine (padd_any w 1000 (rawH*2 ^ (2000-u)) 12 (by decide) (by decide) ad n c (y::t) hn hc (by omega) (cap_n (by omega) hA) (by omega) hp (raw_ok hh) (fun h0 x hx=>?_)).mono ?_
 ·have h1:=heavy_no (hh x hx);have hg:=good_raw ((like_iff.1 h0).1 x hx) (hh x hx);rw [← hu] at hg;exact ⟨GF.fits hu2 hg.2.2.2,h1.1,fun z hz=>(hg.okN (k:=1000) (by decide) (by decide) hu2 (cap_one hA) z hz).1⟩
 ·rintro e w' (⟨y',t',e1,h0,h⟩|h)
  ·injection e1 with e2 e3
   subst e2;exact .inl ⟨h0,h⟩
  ·exact .inr h
theorem mul_good (w:World) (u A M v:Nat) (hv:v≤12) (hA1:1≤A) (hM1:1≤M) (hu:2*u≤2000) (hA:4000*(A ^ 2*2 ^ 2000)<256 ^ 1000) (ad:Option Addr) (c:Nat) (p q:List TV) (hc:2≤c) (hM:M ^ 2≤4000) (hM4:M≤4000) (hp:PAt w ad [((v:Int),p),((v:Int),q)])
  (hgp:Good u A v p∧p.length≤M) (hgq:Good u A v q∧q.length≤M):Calls Tryz.prog 25 #[.slice ad 2 c] w (fun e w'=>(okAll p q∧PolyOut w w' e v (mulV p q))∨(¬ okAll p q∧PolyErr w w' e 3)):=by
 have hA2:4000*(A*2 ^ 2000)<256 ^ 1000:=Nat.lt_of_le_of_lt (Nat.mul_le_mul_left _ (Nat.mul_le_mul_right _ (by rw [Nat.pow_two];exact Nat.le_mul_of_pos_left _ hA1))) hA;have hg:∀ x∈[((v:Int),p),((v:Int),q)],x.1=(v:Int)∧Good u A v x.2∧x.2.length≤M:=fun x hx=>by
  rcases List.mem_cons.1 hx with rfl|hx
  ·exact ⟨rfl,hgp⟩
  ·obtain rfl:=List.mem_singleton.1 hx;exact ⟨rfl,hgq⟩
 have hl:likeE [((v:Int),p),((v:Int),q)]=0:=like_iff.2 ⟨fun x hx=>by
  obtain ⟨a,b,d⟩:=hg x hx;rw [a];exact check_good b hv (by omega),fun x hx=>(hg x hx).1⟩
 refine (pmul_any w u A M hA1 hM1 ad 2 c _ rfl hc (by decide) hu hM hM4 hA hp (fun x hx=>?_) (fun _ x hx=>?_)).mono ?_
 ·obtain ⟨-,b,d⟩:=hg x hx;exact ⟨by omega,good_sizes b hv (by omega) hA2⟩
 ·obtain ⟨a,b,d⟩:=hg x hx;rw [a,Int.toNat_natCast];exact ⟨b,d⟩
 ·rintro e w' (⟨v',p',t',R,e1,-,hR,h⟩|⟨h,-⟩|⟨v',p',t',e1,-,hR,h⟩)
  ·simp only [List.cons.injEq,Prod.mk.injEq] at e1;obtain ⟨⟨rfl,rfl⟩,rfl⟩:=e1;have h1:mulAll p [q]=some R:=hR;rw [mulAll_one] at h1
   split at h1
   ·rename_i hok
    obtain rfl:=Option.some.inj h1;exact .inl ⟨hok,h⟩
   ·cases h1
  ·exact absurd hl h
  ·simp only [List.cons.injEq,Prod.mk.injEq] at e1;obtain ⟨⟨rfl,rfl⟩,rfl⟩:=e1;have h1:mulAll p [q]=none:=hR;rw [mulAll_one] at h1
   split at h1
   ·cases h1
   ·rename_i hok
    exact .inr ⟨hok,h⟩
def MulRes (w w' : World) (e:Ending) (v:Int) (p q:List TV):Prop:=
 ∃ (vc g:Int) (o:Option Addr) (c:Nat) (l:List TV),e=.returned (.tuple #[.agg #[.int .i64 vc,.slice o l.length c],.int .i64 g])∧TAt w' o l∧l.length≤c∧((okAll p q∧g=0∧vc=v∧l=mulV p q)∨(¬ okAll p q∧g=3∧vc=0∧l=[]))∧Below w.heap.size w w'
theorem mul_res {w w' : World} {e:Ending} {v:Int} {p q:List TV} (h:(okAll p q∧PolyOut w w' e v (mulV p q))∨(¬ okAll p q∧PolyErr w w' e 3)):MulRes w w' e v p q:=by
 rcases h with ⟨h1,od,oc,rfl,h2,h3,-,h4⟩|⟨h1,rfl,h4⟩
 ·exact ⟨v,0,od,oc,mulV p q,rfl,h3,h2,.inl ⟨h1,rfl,rfl,rfl⟩,h4⟩
 ·exact ⟨0,3,none,0,[],rfl,TAt.nil _ _,Nat.le_refl _,.inr ⟨h1,rfl,rfl,rfl⟩,h4⟩
theorem sumV_len (l:List PV):(sumV l).length≤(l.map fun x=>x.2.length).sum:=by
 unfold sumV;rw [List.length_map];refine Nat.le_trans (polyOf_len _) ?_;rw [List.length_flatten,List.map_map];refine Nat.le_of_eq ?_
 congr 1
 exact List.map_congr_left fun x _=>by simp
theorem Good.mono {u A B v:Nat} {l:List TV} (h:Good u A v l) (hA:A≤B):Good u B v l:=⟨h.1,h.2.1,h.2.2.1,h.2.2.2.mono hA⟩
theorem Good.none (u A v:Nat):Good u A v []:=⟨fun _ h=>absurd h List.not_mem_nil,List.Pairwise.nil,fun _ h=>absurd h List.not_mem_nil,trivial⟩
theorem good_sum {u A v:Nat} {w1 w2:Int} {p q:List TV} (hp:Good u A v p) (hq:Good u A v q):Good u (2*A) v (sumV [(w1,p),(w2,q)]):=by
 rw [sumV_two];refine good_canon (fun z hz=>?_) ?_
 ·rcases List.mem_append.1 hz with hz|hz
  ·obtain ⟨x,hx,rfl⟩:=List.mem_map.1 hz;exact may_td (hp.1 x hx).1
  ·obtain ⟨x,hx,rfl⟩:=List.mem_map.1 hz;exact may_td (hq.1 x hx).1
 ·rw [Nat.two_mul];exact hp.2.2.2.app hq.2.2.2
def AddRes (w w' : World) (e:Ending) (x y:PV):Prop:=
 ∃ (vz g:Int) (o:Option Addr) (c:Nat) (l:List TV),e=.returned (.tuple #[.agg #[.int .i64 vz,.slice o l.length c],.int .i64 g])∧TAt w' o l∧l.length≤c∧(likeE [x,y]=0→g=0∧vz=x.1∧l=sumV [x,y])∧Below w.heap.size w w'
theorem add_maybe (w:World) (u A M:Nat) (hu:u≤2000) (hA:4000*(A*2 ^ 2000)<256 ^ 1000) (ad:Option Addr) (c:Nat) (x y:PV) (hc:2≤c) (hM:2*M≤4000) (hp:PAt w ad [x,y]) (hg:∀ z∈[x,y],∃ v' : Nat,v'≤12∧Good u A v' z.2∧z.2.length≤M) :
  Calls Tryz.prog 29 #[.slice ad 2 c] w (fun e w'=>AddRes w w' e x y):=by
 refine (padd_any w 1000 (A*2 ^ (2000-u)) M (by decide) (by decide) ad 2 c [x,y] rfl hc (by decide) (cap_n (by decide) hA) hM hp (fun z hz=>?_) (fun _ z hz=>?_)).mono ?_
 ·obtain ⟨v',a,b,d⟩:=hg z hz;exact ⟨by omega,good_sizes b a hu hA⟩
 ·obtain ⟨v',a,b,d⟩:=hg z hz;exact ⟨GF.fits hu b.2.2.2,d,fun t ht=>(b.okN (k:=1000) (by decide) (by decide) hu (cap_one hA) t ht).1⟩
 ·rintro e w' (⟨y',t',e1,-,od,oc,rfl,h2,h3,-,h4⟩|⟨h,rfl,h4⟩)
  ·injection e1 with e2 e3
   subst e2;exact ⟨x.1,0,od,oc,sumV [x,y],rfl,h3,h2,fun _=>⟨rfl,rfl,rfl⟩,h4⟩
  ·exact ⟨0,likeE [x,y],none,0,[],rfl,TAt.nil _ _,Nat.le_refl _,fun h0=>absurd h0 h,h4⟩
theorem raw_cap0:4000*(rawH*2 ^ 2000)<256 ^ 1000:=by
 have hcap:=raw_cap 1 (by decide);rw [Nat.pow_one] at hcap;exact Nat.lt_of_le_of_lt (Nat.mul_le_mul_left _ (Nat.mul_le_mul_right _ (Nat.le_mul_of_pos_left (n:=2) _ (by decide)))) hcap
theorem raw_capd:4000*(2*rawH*2 ^ 2000)<256 ^ 1000:=by
 have hcap:=raw_cap 1 (by decide)
 rwa [Nat.pow_one] at hcap
theorem raw_caps:4000*(rawH ^ 2*2 ^ 2000)<256 ^ 1000:=Nat.lt_of_le_of_lt (Nat.mul_le_mul_left _ (Nat.mul_le_mul_right _ (Nat.pow_le_pow_left (Nat.le_mul_of_pos_left (n:=2) _ (by decide)) 2))) (raw_cap 2 (by decide))
theorem coef_rev:∀ (l:List TD) (m:List UInt8),coef l.reverse m=coef l m
 | [],_=>rfl
 | x::l,m=>by
  rw [List.reverse_cons,coef_app,coef_rev l m];show coef l m+((if x.1=m then x.2 else 0)+0)=(if x.1=m then x.2 else 0)+coef l m;rw [Dyadic.add_zero,Dyadic.add_comm]
def SoundP (v:Int) (l:List TV):Prop:=∃ n:Nat,n≤12∧v=n∧l.length≤144∧∃ u A:Nat,u≤2000∧4000*(A*2 ^ 2000)<256 ^ 1000∧Good u A n l
def SoundG (v g:Int) (l:List TV):Prop:=(g=0∧SoundP v l)∨(g≠0∧v=0∧l=[])
def FormRes (w w' : World) (e:Ending):Prop:=
 ∃ (v g:Int) (o:Option Addr) (c:Nat) (l:List TV),e=.returned (.tuple #[.agg #[.int .i64 v,.slice o l.length c],.int .i64 g])∧TAt w' o l∧l.length≤c∧SoundG v g l∧Below w.heap.size w w'
theorem form_out {w w' : World} {e:Ending} {v:Int} {l:List TV} (h:PolyOut w w' e v l) (hs:SoundP v l):FormRes w w' e:=by
 obtain ⟨od,oc,rfl,h2,h3,-,h4⟩:=h;exact ⟨v,0,od,oc,l,rfl,h3,h2,.inl ⟨rfl,hs⟩,h4⟩
theorem form_err {w w' : World} {e:Ending} {c:Int} (h:PolyErr w w' e c) (hc:c≠0):FormRes w w' e:=by
 obtain ⟨rfl,h4⟩:=h;exact ⟨0,c,none,0,[],rfl,TAt.nil _ _,Nat.le_refl _,.inr ⟨hc,rfl,rfl⟩,h4⟩
theorem sound_check {v:Int} {l:List TV} (h:SoundP v l):checkE v l=0:=by
 obtain ⟨n,h1,rfl,h2,u,A,h3,h4,h5⟩:=h;exact check_good h5 h1 (by omega)
theorem sound_sizes {v:Int} {l:List TV} (h:SoundP v l):∀ x∈l,x.1.size≤1000000∧x.2.2.1.size≤1000000∧-10000000≤x.2.2.2∧x.2.2.2≤10000000:=by
 obtain ⟨n,h1,rfl,h2,u,A,h3,h4,h5⟩:=h;exact good_sizes h5 h1 h3 h4
theorem sound_fits {v:Int} {l:List TV} (h:SoundP v l):∀ x∈l,x.2.2.1.size≤50000∧-100000≤x.2.2.2∧x.2.2.2≤100000:=by
 obtain ⟨n,h1,rfl,h2,u,A,h3,h4,h5⟩:=h;intro x hx;have h6:=(h5.okN (k:=1000) (by decide) (by decide) h3 (cap_one h4) x hx).1;unfold fitsN at h6;omega
theorem make_grid (w:World) (u A:Nat) (hu:u≤2000) (hA:4000*(A*2 ^ 2000)<256 ^ 1000) (v:Int) (ad:Option Addr) (n c:Nat) (l:List TV) (hn:l.length=n) (hc:n≤c) (hmax:n≤4000) (hp:TAt w ad l) (hg:GF u A (l.map tdv)) (hf:∀ x∈l,fitsN 1000 x.2∧x.1.size≤1000000) :
  Calls Tryz.prog 10 #[.int .i64 v,.slice ad n c] w
   (fun e w'=>((0≤v∧v≤12)∧(∀ x∈l,mayB x.1 v=true)∧PolyOut w w' e v ((polyOf (l.map tdv)).map canonT))∨(¬ ((0≤v∧v≤12)∧(∀ x∈l,mayB x.1 v=true))∧PolyErr w w' e 1)):=
 make_any w 1000 (A*2 ^ (2000-u)) (by decide) (by decide) v ad n c l hn hc hmax (cap_n hmax hA) hp fun x hx=>by
  obtain ⟨z,h1,h2⟩:=hg.mem (List.mem_map_of_mem (f:=tdv) hx);exact ⟨GF.fits hu (show GF u A [tdv x] from ⟨z,0,h1,by omega,trivial⟩),hf x hx⟩
theorem raw_fit {l:List TV} (h:pheavyB l=false):∀ x∈l,fitsN 1000 x.2∧x.1.size≤1000000:=fun x hx=>by
 have h1:=(heavy_no h).2 x hx;unfold fitsN;omega
theorem form_make (w:World) (v:Int) (ad:Option Addr) (n c:Nat) (l:List TV) (hn:l.length=n) (hc:n≤c) (hp:TAt w ad l) (hh:pheavyB l=false) :
  Calls Tryz.prog 10 #[.int .i64 v,.slice ad n c] w
   (fun e w'=>∃ (m:Nat) (g:Int) (o:Option Addr) (oc:Nat) (r:List TV),e=.returned (.tuple #[.agg #[.int .i64 (m:Int),.slice o r.length oc],.int .i64 g])∧TAt w' o r∧r.length≤oc∧(m≤12∧Good 300 rawH m r∧r.length≤12)∧(g=0∨(g≠0∧m=0∧r=[]))∧Below w.heap.size w w'):=by
 have h12:=(heavy_no hh).1;refine (make_grid w 300 rawH (by decide) raw_cap0 v ad n c l hn hc (by omega) hp (heavy_gf hh) (raw_fit hh)).mono ?_;rintro e w' (⟨hv,hm,od,oc,rfl,h2,h3,-,h4⟩|⟨-,rfl,h4⟩)
 ·obtain ⟨m,rfl⟩:∃ m:Nat,v=m:=⟨v.toNat,by omega⟩;have hl:=polyOf_len (l.map tdv);rw [List.length_map] at hl;exact ⟨m,0,od,oc,_,rfl,h3,h2,⟨by omega,good_canon (fun z hz=>by
   obtain ⟨x,hx,rfl⟩:=List.mem_map.1 hz;exact may_td (hm x hx)) (heavy_gf hh),by rw [List.length_map];omega⟩,.inl rfl,h4⟩
 ·exact ⟨0,1,none,0,[],rfl,TAt.nil _ _,Nat.le_refl _,⟨by decide,Good.none _ _ _,Nat.zero_le _⟩,.inr ⟨by decide,rfl,rfl⟩,h4⟩
theorem form_turn (w:World) (v:Int) (ad:Option Addr) (n c:Nat) (l:List TV) (hn:l.length=n) (hc:n≤c) (hp:TAt w ad l.reverse) (hs:SoundP v l) :
  Calls Tryz.prog 10 #[.int .i64 v,.slice ad n c] w (fun e w'=>PolyOut w w' e v l):=by
 have hs2:=sound_fits hs;obtain ⟨m,h1,rfl,h2,u,A,h3,h4,h5⟩:=hs;have hgf:∀ x∈l.reverse.map tdv,∃ z:Int,x.2=gD u z∧z.natAbs≤A:=fun x hx=>by
  obtain ⟨y,hy,rfl⟩:=List.mem_map.1 hx;exact h5.2.2.2.mem (List.mem_map_of_mem (List.mem_reverse.1 hy))
 refine (make_any w 1000 (A*2 ^ (2000-u)) (by decide) (by decide) (m:Int) ad n c l.reverse (by rw [List.length_reverse,hn]) hc (by omega) (cap_n (by omega) h4) hp (fun x hx=>?_)).mono ?_
 ·obtain ⟨z,g1,g2⟩:=hgf (tdv x) (List.mem_map_of_mem hx);have hx2:=List.mem_reverse.1 hx;exact ⟨GF.fits h3 (show GF u A [tdv x] from ⟨z,0,g1,by omega,trivial⟩),(h5.okN (k:=1000) (by decide) (by decide) h3 (cap_one h4) x hx2).1,(good_sizes h5 h1 h3 h4 x hx2).1⟩
 ·have e:(polyOf (l.reverse.map tdv)).map canonT=l:=by
   have e1:polyOf (l.reverse.map tdv)=l.map tdv:=by
    rw [← polyOf_self h5.2.1 h5.2.2.1];refine polyOf_congr fun k=>?_;rw [List.map_reverse];exact coef_rev _ _
   rw [e1,List.map_map]
   conv=>rhs;rw [← List.map_id l]
   exact List.map_congr_left fun x hx=>canon_of (h5.1 x hx).2
  rw [e];rintro e w' (⟨-,-,h⟩|⟨h,-⟩)
  ·exact h
  ·exact absurd ⟨⟨by omega,by omega⟩,fun x hx=>(h5.1 x (List.mem_reverse.1 hx)).1⟩ h
theorem form_add (w:World) (ad:Option Addr) (c:Nat) (m:Nat) (p:List TV) (vq:Int) (q:List TV) (hc:2≤c) (hp:PAt w ad [((m:Int),p),(vq,q)]) (hm:m≤12∧Good 300 rawH m p∧p.length≤12) (hq:pheavyB q=false) :
  Calls Tryz.prog 29 #[.slice ad 2 c] w (fun e w'=>FormRes w w' e):=by
 obtain ⟨hm,gp,lp⟩:=hm;have hq2:=heavy_no hq;obtain ⟨u,hu⟩:∃ u,u=300:=⟨_,rfl⟩;have hu2:u≤2000:=by omega
 rw [← hu] at gp;refine (padd_any w 1000 (rawH*2 ^ (2000-u)) 12 (by decide) (by decide) ad 2 c _ rfl hc (by decide) (cap_n (by decide) raw_cap0) (by decide) hp (fun x hx=>?_) (fun h0 x hx=>?_)).mono ?_
 ·rcases List.mem_cons.1 hx with rfl|hx
  ·exact ⟨by show p.length≤_;omega,good_sizes gp hm hu2 raw_cap0⟩
  ·obtain rfl:=List.mem_singleton.1 hx;exact raw_ok (l:=[(vq,q)]) (fun y hy=>by obtain rfl:=List.mem_singleton.1 hy;exact hq) _ List.mem_cons_self
 ·rcases List.mem_cons.1 hx with rfl|hx
  ·exact ⟨GF.fits hu2 gp.2.2.2,lp,fun z hz=>(gp.okN (k:=1000) (by decide) (by decide) hu2 (cap_one raw_cap0) z hz).1⟩
  ·obtain rfl:=List.mem_singleton.1 hx;have hg:=good_raw ((like_iff.1 h0).1 (vq,q) (by simp)) hq;rw [← hu] at hg;exact ⟨GF.fits hu2 hg.2.2.2,hq2.1,fun z hz=>(hg.okN (k:=1000) (by decide) (by decide) hu2 (cap_one raw_cap0) z hz).1⟩
 ·rintro e w' (⟨y',t',e1,h0,h⟩|⟨h0,h⟩)
  ·injection e1 with e2 e3
   subst e2;have hg:=good_raw ((like_iff.1 h0).1 (vq,q) (by simp)) hq;have hv:vq=(m:Int):=(like_iff.1 h0).2 (vq,q) (by simp);subst hv;rw [Int.toNat_natCast,← hu] at hg;refine form_out h ⟨m,hm,rfl,?_,u,2*rawH,hu2,raw_capd,good_sum (w1:=(m:Int)) (w2:=(m:Int)) gp hg⟩
   have:=sumV_len [((m:Int),p),((m:Int),q)]
   simp only [List.map_cons,List.map_nil,List.sum_cons,List.sum_nil] at this;show (sumV [((m:Int),p),((m:Int),q)]).length≤144;omega
  ·exact form_err h h0
theorem form_mul (w:World) (ad:Option Addr) (c:Nat) (m:Nat) (p:List TV) (vq:Int) (q:List TV) (hc:2≤c) (hp:PAt w ad [((m:Int),p),(vq,q)]) (hm:m≤12∧Good 300 rawH m p∧p.length≤12) (hq:pheavyB q=false) :
  Calls Tryz.prog 25 #[.slice ad 2 c] w (fun e w'=>FormRes w w' e):=by
 obtain ⟨hm,gp,lp⟩:=hm;have hq2:=heavy_no hq;obtain ⟨u,hu⟩:∃ u,u=300:=⟨_,rfl⟩;have hu2:u≤2000:=by omega
 rw [← hu] at gp;have hraw:rawOK [((m:Int),p),(vq,q)]:=fun x hx=>by
  rcases List.mem_cons.1 hx with rfl|hx
  ·exact ⟨by show p.length≤_;omega,good_sizes gp hm hu2 raw_cap0⟩
  ·obtain rfl:=List.mem_singleton.1 hx;exact raw_ok (l:=[(vq,q)]) (fun y hy=>by obtain rfl:=List.mem_singleton.1 hy;exact hq) _ List.mem_cons_self
 have hgg:likeE [((m:Int),p),(vq,q)]=0→vq=(m:Int)∧Good u rawH m q:=fun h0=>by
  have hg:=good_raw ((like_iff.1 h0).1 (vq,q) (by simp)) hq;have hv:vq=(m:Int):=(like_iff.1 h0).2 (vq,q) (by simp);subst hv;rw [Int.toNat_natCast,← hu] at hg;exact ⟨rfl,hg⟩
 refine (pmul_any w u rawH 12 rawH_pos (by decide) ad 2 c _ rfl hc (by decide) (by omega) (by decide) (by decide) raw_caps hp hraw (fun h0 x hx=>?_)).mono ?_
 ·obtain ⟨rfl,hg⟩:=hgg h0
  rcases List.mem_cons.1 hx with rfl|hx
  ·rw [Int.toNat_natCast];exact ⟨gp,lp⟩
  ·obtain rfl:=List.mem_singleton.1 hx;rw [Int.toNat_natCast];exact ⟨hg,hq2.1⟩
 ·rintro e w' (⟨v',p',t',R,e1,h0,hR,h⟩|⟨h0,h⟩|⟨v',p',t',e1,h0,hR,h⟩)
  ·simp only [List.cons.injEq,Prod.mk.injEq] at e1;obtain ⟨⟨rfl,rfl⟩,rfl⟩:=e1;obtain ⟨rfl,hg⟩:=hgg h0;have h1:mulAll p [q]=some R:=hR;rw [mulAll_one] at h1
   split at h1
   ·rename_i hok
    obtain rfl:=Option.some.inj h1;refine form_out h ⟨m,hm,rfl,?_,u+u,rawH*rawH,by omega,?_,good_prod gp hg hok⟩
    ·have l1:=mulV_len p q;have l2:p.length*q.length≤12*12:=Nat.mul_le_mul lp hq2.1;omega
    ·rw [← Nat.pow_two];exact raw_caps
   ·cases h1
  ·exact form_err h h0
  ·exact form_err h (by decide)
theorem form_scale (w:World) (m:Nat) (td:Option Addr) (n pc:Nat) (p:List TV) (hn:p.length=n) (hpc:n≤pc) (hp:TAt w td p) (hm:m≤12∧Good 300 rawH m p∧p.length≤12) (s:Bool) (t:ByteArray) (d:Int) (hc:t.size≤24∧-300≤d∧d≤300) :
  Calls Tryz.prog 31 #[.agg #[.int .i64 (m:Int),.slice td n pc],.agg #[.bool s,.string t,.int .i64 d]] w (fun e w'=>FormRes w w' e):=by
 obtain ⟨hm,gp,lp⟩:=hm;subst hn;have hh:pheavyB [(⟨#[]⟩,s,t,d)]=false:=by
  unfold pheavyB pfarB;simp only [List.length_singleton,List.any_cons,List.any_nil,Bool.or_false,Bool.or_eq_false_iff,decide_eq_false_iff_not];refine ⟨by omega,⟨⟨by omega,by omega⟩,by omega⟩,?_⟩;show ¬ (⟨#[]⟩:ByteArray).size > 50
  decide
 obtain ⟨z,hz,hz2⟩:=(heavy_gf hh).mem (x:=tdv (⟨#[]⟩,s,t,d)) List.mem_cons_self;obtain ⟨u,hu⟩:∃ u,u=300:=⟨_,rfl⟩;have hu2:u≤2000:=by omega
 rw [← hu] at gp hz;have hck:checkE (m:Int) p=0:=check_good gp hm (by omega);refine (scale_any w u rawH u rawH (m:Int) td pc p hpc (by omega) hp (good_sizes gp hm hu2 raw_cap0) s t d z hz hz2 (by unfold fitsN;simp only;omega) (by omega) raw_cap0 raw_cap0 (by rw [← Nat.pow_two];exact raw_caps) (fun _=>by rw [Int.toNat_natCast];exact gp)).mono ?_;rintro e w' (⟨-,h⟩|⟨h,-⟩)
 ·rw [Int.toNat_natCast] at h;refine form_out h ⟨m,hm,rfl,?_,u+u,rawH*rawH,by omega,by rw [← Nat.pow_two];exact raw_caps,good_prod (const_good hz hz2) gp (const_ok fun x hx=>(gp.1 x hx).1)⟩;have l1:=mulV_len (constV m (s,t,d)) p;have l2:=Nat.mul_le_mul (const_len m (s,t,d)) lp;omega
 ·exact absurd hck h
theorem pwhole_any (w:World) (n:Int) (h1:-9223372036854775808≤n) (h2:n≤9223372036854775807) (m:Bool) (s:ByteArray) (e:Int) (hc:canonN (dW n)=(m,s,e)) :
  Calls Tryz.prog 32 #[.int .i64 n] w (Ret (.agg #[.bool m,.string s,.int .i64 e]) w):=by
 have hd:df (.ofIntWithPrec n 0)=nu m s e:=by
  have h:=canonN_df (dW n);rw [hc] at h;exact h
 have hR:=Nk.new w false ⟨#[]⟩ 0;have hb:=(Below.refl w.heap.size w).alloc (Nat.le_refl _) (.cells #[.bool false,.string ⟨#[]⟩,.int .i64 0] 26);clear hc;go_enter Tryz.func32,Tryz.ntmps32;go_wp2_with fail;refine (ryof_any _ n h1 h2 m s e hd).mono ?_;rintro e' W1 ⟨rfl,hq⟩;replace hR:=hR.below hq;replace hb:=below_next hb hq;obtain ⟨r0,r1,r2,r3,r4,r5⟩:=hR.facts;go_wp2;exact ret_num rfl rfl (hR.set3 _ _ _) ⟨rfl,below_set3 hb (Nat.le_refl _) _ _ _ _ _ _⟩
theorem infoP2b:(Tryz.prog.info? 31).map (·.size)=some 2:=by kernel_rfl
theorem ret_poly1 {fn:Func} {p:Tmp} {tmps:Array Value} {W:World} {r:Nat} {c0 c1:Value} {Q:Ending→World→Prop} (h:fn.results=#[.cell p 31]) (hp:tmps.getD p undef=.pointer (some ⟨r,0,none⟩))
  (hr:Rw W r 31 [c0,c1]) (hQ:Q (.returned (.agg #[c0,c1])) W):bodyPost Tryz.prog fn Q Exit.ret {tmps:=tmps,defers:=[] } W:=
 bodyPost_ret (results_cell_row h _ W r _ _ _ _ hp hr Tryz.underlying31 rfl infoP2b) rfl hQ
theorem ptwo_any (w:World) (n:Int) (h1:-9223372036854775808≤n) (h2:n≤9223372036854775807) :
  Calls Tryz.prog 34 #[.int .i64 n] w (fun e w'=>∃ g,e=.returned (.agg #[.int .i64 2,.slice (some ⟨g,0,none⟩) 2 2])∧TAt w' (some ⟨g,0,none⟩) (twoV n)∧w.heap.size<g∧Below w.heap.size w w'):=by
 obtain ⟨m,s,d,hn⟩:∃ m s d,canonN (dW n)=(m,s,d):=⟨_,_,_,rfl⟩;obtain ⟨m1,s1,d1,h11⟩:∃ m s d,canonN (dW 1)=(m,s,d):=⟨_,_,_,rfl⟩;have ht:twoV n=[(⟨#[0,1]⟩,m,s,d),(⟨#[1,0]⟩,m1,s1,d1)]:=by
  unfold twoV tW canonT;rw [hn,h11]
 have hR:=Rw.new w 31 [.int .i64 0,.slice none 0 0];have hb:=(Below.refl w.heap.size w).alloc (Nat.le_refl _) (.cells #[.int .i64 0,.slice none 0 0] 31);go_enter Tryz.func34,Tryz.ntmps34;go_wp2_with fail;refine (pwhole_any _ n h1 h2 m s d hn).mono ?_;rintro e W1 ⟨rfl,hq⟩;replace hR:=hR.below hq hR.lt;replace hb:=below_next hb hq;clear hq;go_wp2_with fail;refine (pwhole_any _ 1 (by omega) (by omega) m1 s1 d1 h11).mono ?_;rintro e W2 ⟨rfl,hq⟩;replace hR:=hR.below hq hR.lt;replace hb:=below_next hb hq;have hRl:=hR.lt;obtain ⟨r0,r1,r2,r3⟩:=hR.facts2;have hR2:=(hR.set2 (.int .i64 2) (.slice (some ⟨W2.heap.size,0,none⟩) 2 2)).alloc (.cells #[.string ⟨#[0,1]⟩,.bool m,.string s,.int .i64 d,.string ⟨#[1,0]⟩,.bool m1,.string s1,.int .i64 d1] 58);have hb2:=(pbelow_set2 hb (b:=w.heap.size) (Nat.le_refl _) 0 1 (.int .i64 2) (.slice (some ⟨W2.heap.size,0,none⟩) 2 2)).alloc (by simpa using hb.size) (.cells #[.string ⟨#[0,1]⟩,.bool m,.string s,.int .i64 d,.string ⟨#[1,0]⟩,.bool m1,.string s1,.int .i64 d1] 58);have hnew:=TAt.new ((W2.setCell ⟨w.heap.size,0,none⟩ (.int .i64 2)).setCell ⟨w.heap.size,1,none⟩ (.slice (some ⟨W2.heap.size,0,none⟩) 2 2)) 58 [(⟨#[0,1]⟩,m,s,d),(⟨#[1,0]⟩,m1,s1,d1)] _ rfl;have HT:=Lib.hid ht;have hsz:((W2.setCell ⟨w.heap.size,0,none⟩ (.int .i64 2)).setCell ⟨w.heap.size,1,none⟩ (.slice (some ⟨W2.heap.size,0,none⟩) 2 2)).heap.size=W2.heap.size:=by simp
 rw [hsz] at hnew;clear hq ht hn h11 hR hb hsz;go_wp2;exact ret_poly1 rfl rfl hR2 ⟨W2.heap.size,rfl,by rw [HT.out];exact hnew,hRl,hb2⟩
theorem aw_var (w:World):Calls Tryz.prog 20 #[.int .i64 2,.int .i64 2] w (fun e w'=>PolyErr w w' e 1):=by
 have hR:=Rw.new w 31 [.int .i64 0,.slice none 0 0];have hb:=(Below.refl w.heap.size w).alloc (Nat.le_refl _) (.cells #[.int .i64 0,.slice none 0 0] 31);obtain ⟨r0,r1,r2,r3⟩:=hR.facts2;go_enter Tryz.func20,Tryz.ntmps20;go_wp2_with fail;refine (isvars_any _ 2 true rfl).mono ?_;rintro e W1 ⟨rfl,rfl⟩;go_wp2;exact ret_poly rfl rfl rfl hR ⟨rfl,hb⟩
end Go.Proofs.YtemedphcafgolaaGreatDoor
