/- The document's Make of polynomials (package ogeeref08), walked. -/
import Derived.Test.YtemedphcafgolaaGreatDoorPRMay
namespace Go.Proofs.YtemedphcafgolaaGreatDoor
set_option maxRecDepth 100000
set_option maxHeartbeats 6400000
open Go.RowKit Go.Shelf Go.Lib
def MakeRes (w w' : World) (e:Ending) (v:Int) (l R:List TV):Prop:=((0≤v∧v≤12)∧(∀ x∈l,mayB x.1 v=true)∧PolyOut w w' e v R)∨(¬ ((0≤v∧v≤12)∧(∀ x∈l,mayB x.1 v=true))∧PolyErr w w' e 1)
theorem prmake_any (w:World) (N:Nat) (hN:N<256 ^ 1000) (v:Int) (ad:Option Addr) (n c:Nat) (l:List TV) (hn:l.length=n) (hmax:n≤4000) (hp:TAt w ad l) (hg:Fits N (l.map tdv)) (hf:∀ x∈l,fitsN 1000 x.2∧x.1.size≤1000000) :
  Calls Tryz.prog 11 #[.int .i64 v,.slice ad n c] w
   (fun e w'=>MakeRes w w' e v l ((polyOf (l.map tdv)).map canonT)):=by
 have hR:=Rw.new w 31 [.int .i64 0,.slice none 0 0];have hb:=(Below.refl w.heap.size w).alloc (Nat.le_refl _) (.cells #[.int .i64 0,.slice none 0 0] 31);have hga:∀ W,TAt W ad l→Calls Tryz.prog 42 #[.int .i64 v,.slice ad n c] W (fun e w'=>PolyOut W w' e v ((polyOf (l.map tdv)).map canonT)):=fun W h=>gather_any W N hN v ad n c l hn hmax h hg fun x hx=>(hf x hx).1;generalize (polyOf (l.map tdv)).map canonT=R at *;have hsz:∀ x∈l,x.1.size≤1000000:=fun x hx=>(hf x hx).2;have HG:=Lib.hid (And.intro hga (And.intro hsz hn));clear hga hg hN hf hsz;obtain ⟨r0,r1,r2,r3⟩:=hR.facts2;go_enter Tryz.func11,Tryz.ntmps11
 by_cases hv:0≤v∧v≤12
 case neg =>
  have hno:¬ ((0≤v∧v≤12)∧(∀ x∈l,mayB x.1 v=true)):=fun h=>hv h.1;have HNO:=Lib.hid hno;clear hno hp HG hn
  by_cases h0:v<0
  ·clear hv;go_wp2;exact ret_poly rfl rfl rfl hR (.inr ⟨HNO.out,rfl,hb⟩)
  ·have h1:12<v:=by omega
   clear hv;go_wp2;exact ret_poly rfl rfl rfl hR (.inr ⟨HNO.out,rfl,hb⟩)
 have HV:=Lib.hid hv;have hv2:¬ v<0:=by omega
 have hv3:¬ 12<v:=by omega
 have hL0:=hp.below hb;clear hv hp hn;go_wp2;generalize w.alloc (.cells #[.int .i64 0,.slice none 0 0] 31)=W0 at *;clear hv2 hv3 r0 r1 r2 r3
 go_loopw [6] (fun iv wr=>∃ i:Nat,iv=.int .i64 (i:Int)∧i≤n∧(∀ j (h:j<l.length),j<i→mayB l[j].1 v=true)∧Below W0.heap.size W0 wr) (fun iv _=>n-(RowKit.intOf iv).toNat)
 case atStart=>exact ⟨0,rfl,Nat.zero_le _,fun j _ h=>by omega,Below.refl _ _⟩
 case round =>
  obtain ⟨i,rfl,hi,hall,hbw⟩:=hrel;have hR2:=hR.below hbw hR.lt;have hbb:=below_next hb hbw
  by_cases hik:i<n
  ·have hil:i<l.length:=by have:=HG.out.2.2;omega
   obtain ⟨lb,lo,rfl,hlb,c0,-⟩:=hL0.below hbw i hil;have hx:=HG.out.2.1 _ (List.getElem_mem hil);obtain ⟨q,hq⟩:∃ q,mayB l[i].1 v=q:=⟨_,rfl⟩;have hmr:=rmay_ret wr l[i].1 (by omega) v q hq;have HI:=Lib.hid (And.intro hq hil);have HA:=Lib.hid hall;clear hall hq hx;have hik2:(i:Int)<(n:Int):=by omega
   go_wp2_with fail;refine hmr.mono ?_;rintro e W1 ⟨rfl,hq1⟩;clear hmr c0;replace hR2:=hR2.below hq1 hR2.lt;replace hbb:=below_next hbb hq1;replace hbw:=below_next hbw hq1;clear hq1;obtain ⟨r0,r1,r2,r3⟩:=hR2.facts2
   cases q with
   | false =>
    have hno:¬ ((0≤v∧v≤12)∧(∀ x∈l,mayB x.1 v=true)):=fun h=>by
     have h1:=h.2 _ (List.getElem_mem HI.out.2);rw [HI.out.1] at h1
     cases h1
    have HNO:=Lib.hid hno;clear hno hL0 HG HI HA;go_wp2;exact ret_poly rfl rfl rfl (hR2.set2 _ _) (.inr ⟨HNO.out,rfl,pbelow_set2 hbb (Nat.le_refl _) _ _ _ _⟩)
   | true =>
    have hst:∀ j (h:j<l.length),j<i+1→mayB l[j].1 v=true:=fun j h hj=>by
     rcases Nat.lt_or_ge j i with h3|h3
     ·exact HA.out j h h3
     ·obtain rfl:j=i:=by omega
      exact HI.out.1
    have HST:=Lib.hid hst;clear hst HI HA r0 r1 r2 r3;go_wp2;exact ⟨⟨i+1,by simp,hik,HST.out,hbw⟩,by simp [RowKit.intOf];omega⟩
  ·obtain rfl:i=n:=by omega
   have hmay:∀ x∈l,mayB x.1 v=true:=fun x hx=>by
    obtain ⟨j,hj,rfl⟩:=List.getElem_of_mem hx;exact hall j hj (by have:=HG.out.2.2;omega)
   have HM:=Lib.hid hmay;have hga:=HG.out.1 wr (hL0.below hbw);have hlim:¬ (65536:Int)<(i:Int):=by omega
   have hRl:=hR2.lt;clear hall hmay hL0 HG;go_wp2_with fail;refine hga.mono ?_;rintro e W1 ⟨od,oc,rfl,hoc,hot,hnew,hq⟩;have hR3:=hR2.below hq hR2.lt;replace hbb:=below_next hbb hq;clear hga hq;obtain ⟨r0,r1,r2,r3⟩:=hR3.facts2;go_wp2;exact ret_poly rfl rfl rfl (hR3.set2 _ _) (.inl ⟨HV.out,HM.out,od,oc,rfl,hoc,hot.far2 (r:=w.heap.size) (fun lb lo h=>by have:=hnew lb lo h;omega) _ _ _ _,fun lb lo h=>by have:=hnew lb lo h;omega,pbelow_set2 hbb (Nat.le_refl _) _ _ _ _⟩)
end Go.Proofs.YtemedphcafgolaaGreatDoor
