/- The document's Gather (package ogeeref08), walked. -/
import Derived.Test.YtemedphcafgolaaGreatDoorPPut1
import Derived.Test.YtemedphcafgolaaGreatDoorPE
namespace Go.Proofs.YtemedphcafgolaaGreatDoor
set_option maxRecDepth 100000
set_option maxHeartbeats 6400000
open Go.RowKit Go.Shelf Go.Lib
def putVs (l:List TV):List TV:=l.foldl putV []
theorem putVs_snoc (l:List TV) (x:TV):putVs (l++[x])=putV (putVs l) x:=by
 unfold putVs;rw [List.foldl_append];rfl
theorem putVs_take {l:List TV} {i:Nat} (hi:i<l.length):putVs (l.take (i+1))=putV (putVs (l.take i)) l[i]:=by
 rw [List.take_succ_eq_append_getElem hi,putVs_snoc]
theorem putVs_tdv (l:List TV):(putVs l).map tdv=putAll (l.map tdv):=by
 have h:∀ (l a:List TV),(l.foldl putV a).map tdv=(l.map tdv).foldl putT (a.map tdv):=by
  intro l
  induction l with
  | nil=>exact fun a=>rfl
  | cons x l ih =>
   intro a;show (l.foldl putV (putV a x)).map tdv=(l.map tdv).foldl putT (putT (a.map tdv) (tdv x));rw [ih,putV_tdv]
 exact h l []
theorem putV_mem:∀ {l:List TV} {x y:TV},y∈putV l x→y∈l∨∃ d,y.2=canonN d
 | [],x,y,h=>by
  obtain rfl:y=(x.1,canonN (nvl x.2)):=by simpa [putV] using h
  exact .inr ⟨_,rfl⟩
 | z::l,x,y,h=>by
  unfold putV at h
  split at h
  ·rcases List.mem_cons.1 h with rfl|h
   ·exact .inl List.mem_cons_self
   ·rcases putV_mem h with h|h
    ·exact .inl (List.mem_cons_of_mem _ h)
    ·exact .inr h
  ·split at h
   ·rcases List.mem_cons.1 h with rfl|h
    ·exact .inr ⟨_,rfl⟩
    ·exact .inl (List.mem_cons_of_mem _ h)
   ·rcases List.mem_cons.1 h with rfl|h
    ·exact .inr ⟨_,rfl⟩
    ·exact .inl h
theorem putV_len:∀ (l:List TV) (x:TV),(putV l x).length≤l.length+1
 | [],_=>Nat.le_refl _
 | z::l,x=>by
  have h:=putV_len l x;unfold putV
  split
  ·simp only [List.length_cons];omega
  ·split <;> simp only [List.length_cons] <;> omega
theorem putVs_facts (l:List TV):(∀ y∈putVs l,∃ d,y.2=canonN d)∧(putVs l).length≤l.length:=by
 have h:∀ (l a:List TV),(∀ y∈a,∃ d,y.2=canonN d)→(∀ y∈l.foldl putV a,∃ d,y.2=canonN d)∧(l.foldl putV a).length≤a.length+l.length:=by
  intro l
  induction l with
  | nil=>exact fun a ha=>⟨ha,Nat.le_refl _⟩
  | cons x l ih =>
   intro a ha;obtain ⟨h1,h2⟩:=ih (putV a x) fun y hy=>by
    rcases putV_mem hy with h|h
    ·exact ha y h
    ·exact h
   refine ⟨h1,?_⟩
   have:=putV_len a x
   show (l.foldl putV (putV a x)).length≤_;rw [List.length_cons];omega
 obtain ⟨h1,h2⟩:=h l [] fun _ h=>absurd h List.not_mem_nil;refine ⟨h1,?_⟩;rw [List.length_nil,Nat.zero_add] at h2;exact h2
theorem canon_self {y:TV} {d:Dyadic} (h:y.2=canonN d):canonT (tdv y)=y:=by
 rw [canonT_tdv,h,nvl_canon,← h]
theorem fold_fits:∀ {l a:List TD} {M N:Nat},Fits M a→Fits N l→Fits (M+N) (l.foldl putT a)
 | [],_,_,_,ha,_=>ha.mono (Nat.le_add_right _ _)
 | x::l,a,M,N,ha,⟨z,K,h1,h2,h3⟩=>by
  have h4:=Fits.put ha (show Fits z.natAbs [x] from ⟨z,0,h1,Nat.le_refl _,trivial⟩);exact (fold_fits h4 h3).mono (by omega)
theorem putVs_fit {l:List TV} {N:Nat} (h:Fits N (l.map tdv)) (hN:N<256 ^ 1000):∀ y∈putVs l,fitsN 1000 y.2:=fun y hy=>by
 have h1:Fits (0+N) (putAll (l.map tdv)):=fold_fits (a:=[]) (M:=0) trivial h;rw [← putVs_tdv,Nat.zero_add] at h1;obtain ⟨z,h2,h3⟩:=h1.mem (List.mem_map_of_mem (f:=tdv) hy);obtain ⟨d,hd⟩:=(putVs_facts l).1 y hy;have h4:nvl y.2=d:=by rw [hd,nvl_canon]
 have h5:=fit_small (k:=1000) h2 (Nat.lt_of_le_of_lt h3 hN) (by decide);rw [show (tdv y).2=d from h4,← hd] at h5;exact h5
theorem Fits.take:∀ {l:List TD} {N:Nat} (i:Nat),Fits N l→Fits N (l.take i)
 | [],_,i,_=>by rw [List.take_nil];trivial
 | x::l,N,0,_=>trivial
 | x::l,N,i+1,⟨z,K,h1,h2,h3⟩=>⟨z,K,h1,h2,h3.take i⟩
theorem gather_any (w:World) (N:Nat) (hN:N<256 ^ 1000) (v:Int) (ad:Option Addr) (n c:Nat) (l:List TV) (hn:l.length=n) (hmax:n≤4000) (hp:TAt w ad l) (hg:Fits N (l.map tdv)) (hf:∀ x∈l,fitsN 1000 x.2) :
  Calls Tryz.prog 42 #[.int .i64 v,.slice ad n c] w (fun e w'=>PolyOut w w' e v ((polyOf (l.map tdv)).map canonT)):=by
 have hR:=Rw.new w 31 [.int .i64 0,.slice none 0 0];have hb:=(Below.refl w.heap.size w).alloc (Nat.le_refl _) (.cells #[.int .i64 0,.slice none 0 0] 31);have hfit:∀ i,∀ y∈putVs (l.take i),fitsN 1000 y.2:=fun i=>putVs_fit (by rw [List.map_take];exact hg.take i) hN;have hlen:∀ i,(putVs (l.take i)).length≤n:=fun i=>by
  have h1:=(putVs_facts (l.take i)).2;rw [List.length_take] at h1;omega
 have hL0:=hp.below hb;have HF:=Lib.hid (And.intro hf (And.intro hfit hlen));clear hf hfit hlen hg hN hp;generalize hRr:(polyOf (l.map tdv)).map canonT=R;have HRr:=Lib.hid hRr;clear hRr;go_enter Tryz.func42,Tryz.ntmps42;go_wp2;generalize w.alloc (.cells #[.int .i64 0,.slice none 0 0] 31)=W0 at *
 go_loopw [6,7] (fun av iv wr=>∃ (i:Nat) (od:Option Addr) (oc:Nat),iv=.int .i64 (i:Int)∧i≤n∧av=.slice od (putVs (l.take i)).length oc∧(putVs (l.take i)).length≤oc∧(od=none→oc=0)∧TAt wr od (putVs (l.take i))∧Below W0.heap.size W0 wr) (fun _ iv _=>n-(RowKit.intOf iv).toNat)
 case atStart=>exact ⟨0,none,0,rfl,Nat.zero_le _,rfl,Nat.le_refl _,fun _=>rfl,TAt.nil _ _,Below.refl _ _⟩
 case round =>
  obtain ⟨i,od,oc,rfl,hi,rfl,hoc,hnone,hot,hbw⟩:=hrel
  by_cases hik:i<n
  ·have hil:i<l.length:=by omega
   obtain ⟨lb,lo,rfl,hlb,c0,c1,c2,c3⟩:=hL0.below hbw i hil;have hst:=putVs_take hil;have hfx:=HF.out.1 _ (List.getElem_mem hil);have hfl:=HF.out.2.1 i;have hll:=HF.out.2.2 i;generalize putVs (l.take i)=M at *;generalize l[i]=x at *;obtain ⟨xt,xm,xs,xd⟩:=x;simp only at c0 c1 c2 c3;have hpt:=put_any wr od M.length oc M rfl hoc hnone (by omega) hot (xt,xm,xs,xd) hfl hfx;rw [← hst] at hpt;have hik2:(i:Int)<(n:Int):=by omega
   clear hfx hfl hst hot;go_wp2_with fail;refine hpt.mono ?_;rintro e W1 ⟨od2,oc2,rfl,h1,h2,-,h3,hq⟩;clear hpt c0 c1 c2 c3;have hb2:=below_next hbw hq;go_wp2;exact ⟨⟨i+1,od2,oc2,by simp,hik,rfl,h1,h3,h2,hb2⟩,by simp [RowKit.intOf];omega⟩
  ·obtain rfl:i=n:=by omega
   rw [List.take_of_length_le (by omega)] at hoc hot;rw [List.take_of_length_le (by omega)];have hfl:=HF.out.2.1 i;have hll:=HF.out.2.2 i;rw [List.take_of_length_le (by omega)] at hfl hll;have hfr:=(putVs_facts l).1;have hfin:outV (putVs l)=R:=by
    rw [← HRr.out];have h:=putAll_facts (l.map tdv);rw [← putVs_tdv] at h;exact out_poly h.1 h.2
   generalize putVs l=L at *;obtain ⟨W1,hW1⟩:∃ W1,W1=wr:=⟨_,rfl⟩;subst hW1;replace hR:=hR.below hbw hR.lt;replace hb:=below_next hb hbw;have HG:=Lib.hid (And.intro hfl (And.intro hfr hfin));clear hfl hfr hfin hnone hL0 hbw HF hn;go_wp2
   go_loopw [8,9] (fun vl iv wr=>∃ i:Nat,iv=.int .i64 (i:Int)∧i≤L.length∧wr.ownsRow W1.heap.size 58 4 vl (outV (L.take i)).length (tcells (outV (L.take i)))∧Below W1.heap.size W1 wr) (fun _ iv _=>L.length-(RowKit.intOf iv).toNat)
   case atStart=>exact ⟨0,rfl,Nat.zero_le _,World.ownsRow_nil ..,Below.refl _ _⟩
   case round =>
    obtain ⟨i,rfl,hi,hown,hbw⟩:=hrel
    by_cases hik:i<L.length
    ·obtain ⟨lb,lo,rfl,hlb,c0,c1,c2,c3⟩:=hot.below hbw i hik;have hst:=outV_take hik;obtain ⟨hx1,hx2,hx3⟩:=HG.out.1 _ (List.getElem_mem hik);obtain ⟨d,hd⟩:=HG.out.2.1 _ (List.getElem_mem hik);have hz:df (nvl L[i].2)=nu L[i].2.1 L[i].2.2.1 L[i].2.2.2:=by
      rw [hd,nvl_canon];exact canonN_df d
     rw [canon_self hd] at hst;clear hd;have hol:=outV_take_len L i;have hol2:=outV_len L;generalize L[i]=x at *;obtain ⟨xt,xm,xs,xd⟩:=x;simp only at c0 c1 c2 c3 hst hx1 hx2 hx3 hz;obtain ⟨cc,hcc⟩:∃ cc,sg (wv xm xs)=cc:=⟨_,rfl⟩;have hc0:=sg_form hz;rw [hcc] at hc0;have HZ:=Lib.hid hz;have hik2:(i:Int)<(L.length:Int):=by omega
     clear hz;go_wp2_with fail;refine (rysign_any _ xm xs xd (by omega) cc hcc).mono ?_;rintro e V ⟨rfl,hq⟩;have hbV:=below_next hbw hq;have hownV:=ownsRow_below hown hq;have e0:=cell_keep hq c0;have e1:=cell_keep hq c1;have e2:=cell_keep hq c2;have e3:=cell_keep hq c3;clear hq hown hcc c0 c1 c2 c3
     by_cases h0:nvl (xm,xs,xd)=0
     ·obtain rfl:cc=0:=hc0.2 h0;rw [if_pos h0] at hst;rw [← hst] at hownV;clear hc0 hst h0;go_wp2;exact ⟨⟨i+1,by simp,hik,hownV,hbV⟩,by simp [RowKit.intOf];omega⟩
     ·have hc1:¬ cc=0:=fun h=>h0 (hc0.1 h);rw [if_neg h0] at hst;have hown2:=hownV.alloc (.cells #[.string xt,.bool xm,.string xs,.int .i64 xd] 58);have hnew:=TAt.new V 58 [(xt,xm,xs,xd)] _ rfl;have hb2:=hbV.alloc hbV.size (.cells #[.string xt,.bool xm,.string xs,.int .i64 xd] 58);have hsz:=hb2.size;clear hc0 h0 hownV;go_wp2_with (first|(at_builtin;refine wpList_append_tat (l:=[(xt,xm,xs,xd)]) rfl (.tmp 35) (.tmp 40) rfl rfl hown2 hsz rfl hnew rfl (by omega) ?_));intro v' W4 hV4 hg4;have hb4:=hb2.grown hg4 hsz (fun g hg=>(hown2.lt g hg).1);have hV5:W4.ownsRow W1.heap.size 58 4 v' (outV (L.take (i+1))).length (tcells (outV (L.take (i+1)))):=by
       rw [hst,tcells_app,List.length_append];exact hV4
      clear hV4 hg4 hown2 hnew hsz e0 e1 e2 e3 hst;go_wp2;exact ⟨⟨i+1,by simp,hik,hV5,hb4⟩,by simp [RowKit.intOf];omega⟩
    ·obtain rfl:i=L.length:=by omega
     rw [List.take_of_length_le (Nat.le_refl _),HG.out.2.2] at hown;have hol2:=outV_len L;rw [HG.out.2.2] at hol2;have hlt:w.heap.size<W1.heap.size:=hR.lt;obtain ⟨od',oc',rfl,hoc',hot2⟩:=own_tat rfl hown;have hfar:∀ lb lo,od'=some ⟨lb,lo,none⟩→lb≠w.heap.size:=fun lb lo e=>by
      have:=hown.lt lb (by rw [e];rfl)
      omega
     have hnew:∀ lb lo,od'=some ⟨lb,lo,none⟩→w.heap.size≤lb:=fun lb lo e=>by
      have:=hown.lt lb (by rw [e];rfl)
      omega
     have hR2:=hR.below hbw hR.lt;obtain ⟨e0,e1,e2,e3⟩:=hR2.facts2;replace hb:=below_next hb hbw;have hR4:¬ (4096:Int)<(R.length:Int):=by omega
     clear hown hR hbw hot HG hi;go_wp2;exact ret_poly rfl rfl rfl (hR2.set2 _ _) ⟨od',oc',rfl,hoc',hot2.far2 hfar _ _ _ _,hnew,pbelow_set2 hb (Nat.le_refl _) _ _ _ _⟩
end Go.Proofs.YtemedphcafgolaaGreatDoor
