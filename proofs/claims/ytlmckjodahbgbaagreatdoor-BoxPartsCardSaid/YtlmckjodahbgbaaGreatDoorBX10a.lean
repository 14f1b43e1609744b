/- The chapter's examples: what the calls answer; of no walk but of's. -/
import Derived.Test.YtlmckjodahbgbaaGreatDoorBX9
namespace Go.Proofs.YtlmckjodahbgbaaGreatDoor
open Go.RowKit Go.Shelf
theorem RI.new (w:World) (t:TypeId) (zs:List Int) (L:Array Value) (hL:L=(zs.map (Value.int .i64)).toArray):RI (w.alloc (.cells L t)) (some ⟨w.heap.size,0,none⟩) zs:=by
 subst hL;intro i hi;refine ⟨w.heap.size,0,rfl,by rw [World.size_alloc];exact Nat.lt_succ_self _,?_⟩;rw [Nat.zero_add,(Rw.new w t (zs.map (Value.int .i64))).cell,List.getElem?_map,List.getElem?_eq_getElem hi];rfl
theorem of4_any (w:World) (bd:Option Addr) (a b c d:Int) (hr:RI w bd [a,b,c,d]) (hs:∀ z∈[a,b,c,d],-1000≤z∧z≤1000) :
  Calls Tryz.prog 42 #[.slice bd 4 4] w (fun e w'=>∃ od oc,e=.returned (.slice od 2 oc)∧2≤oc∧SAt w' od [(iN a,iN b),(iN c,iN d)]∧Below w.heap.size w w'):=
 bof_any w bd [(iN a,iN b),(iN c,iN d)] [a,b,c,d] 4 4 2 rfl rfl rfl (by decide) hr hs (fun i h h1 h2=>match i,h with|0,_=>rfl|1,_=>rfl)
theorem of2_any (w:World) (bd:Option Addr) (a b:Int) (hr:RI w bd [a,b]) (hs:∀ z∈[a,b],-1000≤z∧z≤1000) :
  Calls Tryz.prog 42 #[.slice bd 2 2] w (fun e w'=>∃ od oc,e=.returned (.slice od 1 oc)∧1≤oc∧SAt w' od [(iN a,iN b)]∧Below w.heap.size w w'):=
 bof_any w bd [(iN a,iN b)] [a,b] 2 2 1 rfl rfl rfl (by decide) hr hs (fun i h h1 h2=>match i,h with|0,_=>rfl)
def awB:List SV:=[(iN 0,iN 4),(iN 0,iN 2)]
theorem iN_gd (z:Int) (h:Raw (iN z)):Gd 80 200 (iN z):=h.gd
theorem aw_small:∀ x∈awB,GS 80 200 x:=by
 intro x hx
 rcases List.mem_cons.1 hx with rfl|hx
 ·exact ⟨iN_gd 0 (by unfold Raw;decide +kernel),iN_gd 4 (by unfold Raw;decide +kernel)⟩
 ·obtain rfl:=List.mem_singleton.1 hx;exact ⟨iN_gd 0 (by unfold Raw;decide +kernel),iN_gd 2 (by unfold Raw;decide +kernel)⟩
theorem aw_flat:∀ x∈[(iN 0,iN 0)],O3 x:=by
 intro x hx;obtain rfl:=List.mem_singleton.1 hx;exact ⟨(iN_gd 0 (by unfold Raw;decide +kernel)).1.ok3,(iN_gd 0 (by unfold Raw;decide +kernel)).1.ok3⟩
theorem aw_check:checkB awB=0:=by decide +kernel
theorem aw_check2:checkB [(iN 0,iN 0)]=5:=by decide +kernel
theorem aw_wid:WidR awB 0:=.inr ⟨0,by decide,rfl,by decide +kernel,fun j hj=>absurd hj (Nat.not_lt_zero _)⟩
theorem aw_vol:volD awB=.ofIntWithPrec 8 (-0):=by decide +kernel
theorem aw_mid:(awB.map fun x=>canonN (mS x))=[2,1].map iN:=by decide +kernel
theorem aw_c1:(awB.zipIdx.map fun x=>cornN 1 x.2 (fS x.1))=[4,0].map iN:=by decide +kernel
theorem aw_c2:(awB.zipIdx.map fun x=>cornN 2 x.2 (fS x.1))=[0,2].map iN:=by decide +kernel
theorem aw_pl:(awB.zipIdx.map fun x=>placN [canonN (.ofIntWithPrec 1 (- -1))] x.2 (fS x.1))=[2,0].map iN:=by decide +kernel
theorem aw_half:Gd 80 200 (canonN (.ofIntWithPrec 1 (- -1))):=Raw.gd (by unfold Raw;decide +kernel)
theorem aw_lo:halfB false (awB.map fS) 0=[(iN 0,iN 2),(iN 0,iN 2)]:=by decide +kernel
theorem aw_up:halfB true (awB.map fS) 0=[(iN 2,iN 4),(iN 0,iN 2)]:=by decide +kernel
theorem aw_part:partB (awB.map fS) [1,2]=[(iN 2,iN 4),(iN 0,iN 1)]:=by decide +kernel
theorem aw_has:hasB awB (awB.map fun x=>canonN (mS x))=true:=by decide +kernel
theorem aw_mids:∀ y∈(awB.map fun x=>canonN (mS x)),Ok3 y.2.1 y.2.2:=by
 intro y hy;obtain ⟨x,hx,rfl⟩:=List.mem_map.1 hy
 have:=(aw_small x hx).mid.canon
 unfold Ok3;omega
theorem aw_lows:∀ x∈halfB false (awB.map fS) 0,O3 x:=by
 intro x hx;exact (half_small (B:=80) (E:=200) (fun y hy=>by obtain ⟨z,hz,rfl⟩:=List.mem_map.1 hy;exact (aw_small z hz).form (by omega) (by omega)) false 0 (by decide) (by omega) (by omega) x hx).o2.o3
end Go.Proofs.YtlmckjodahbgbaaGreatDoor
