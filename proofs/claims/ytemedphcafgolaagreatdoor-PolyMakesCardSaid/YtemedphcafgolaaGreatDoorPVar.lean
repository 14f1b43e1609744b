/- Var (package poly), walked. -/
import Derived.Test.YtemedphcafgolaaGreatDoorPRConst
import Derived.Test.YtemedphcafgolaaGreatDoorPD
namespace Go.Proofs.YtemedphcafgolaaGreatDoor
set_option maxRecDepth 100000
set_option maxHeartbeats 3200000
open Go.RowKit Go.Shelf Go.Lib
def varB (n k:Nat):ByteArray:=⟨((List.replicate n (0:UInt8)).set k 1).toArray⟩
def varV (n k:Nat):List TV:=(polyOf [tdv (varB n k,oneN)]).map canonT
def VarRes (w w' : World) (e:Ending) (v u:Int):Prop:=(∃ n k:Nat,v=n∧u=k∧n≤12∧k<n∧PolyOut w w' e n (varV n k))∨(¬ ((0≤v∧v≤12)∧0≤u∧u<v)∧PolyErr w w' e 1)
theorem var_of (n k:Nat):ofS ((List.replicate n (0:Int)).set k 1)=varB n k∧ofE ((List.replicate n (0:Int)).set k 1)=0∧mayB (varB n k) (n:Int)=true:=by
 have h1:okE ((List.replicate n (0:Int)).set k 1)=true:=by
  unfold okE;rw [List.all_eq_true];intro z hz
  rcases List.mem_or_eq_of_mem_set hz with hz|rfl
  ·obtain ⟨-,rfl⟩:=List.mem_replicate.1 hz
   decide
  ·decide
 refine ⟨?_,by unfold ofE;rw [h1];rfl,?_⟩
 ·unfold ofS;rw [h1,if_pos rfl];unfold bytesE varB;rw [List.map_set,List.map_replicate];rfl
 ·unfold mayB varB;have e:(⟨((List.replicate n (0:UInt8)).set k 1).toArray⟩:ByteArray).size=n:=by
   show ((List.replicate n (0:UInt8)).set k 1).toArray.size=n;simp
  rw [e,Bool.and_eq_true,List.all_eq_true];refine ⟨fun b hb=>?_,by simp⟩
  rcases List.mem_or_eq_of_mem_set (show b∈(List.replicate n (0:UInt8)).set k 1 by simpa using hb) with hz|rfl
  ·obtain ⟨-,rfl⟩:=List.mem_replicate.1 hz
   decide
  ·decide
theorem pvar_any (w:World) (N:Nat) (hN:N<256 ^ 1000) (hfit:∀ s:ByteArray,Fits N [tdv (s,oneN)]) (v u:Int) :
  Calls Tryz.prog 20 #[.int .i64 v,.int .i64 u] w (fun e w'=>VarRes w w' e v u):=by
 have hR:=Rw.new w 31 [.int .i64 0,.slice none 0 0];have hb:=(Below.refl w.heap.size w).alloc (Nat.le_refl _) (.cells #[.int .i64 0,.slice none 0 0] 31);obtain ⟨r0,r1,r2,r3⟩:=hR.facts2;obtain ⟨q,hq⟩:∃ q,decide (0≤v∧v≤12)=q:=⟨_,rfl⟩;go_enter Tryz.func20,Tryz.ntmps20;go_wp2_with fail;refine (isvars_any _ v q hq).mono ?_;rintro e W1 ⟨rfl,rfl⟩
 by_cases hgood:(0≤v∧v≤12)∧0≤u∧u<v
 case neg =>
  have HNO:=Lib.hid hgood
  cases q with
  | false =>
   clear hq hgood hfit hN;go_wp2;exact ret_poly rfl rfl rfl hR (.inr ⟨HNO.out,rfl,hb⟩)
  | true =>
   have hv:=of_decide_eq_true hq
   by_cases h0:u<0
   ·clear hq hgood hfit hN hv;go_wp2;exact ret_poly rfl rfl rfl hR (.inr ⟨HNO.out,rfl,hb⟩)
   ·have h1:v≤u:=by omega
    clear hq hgood hfit hN hv;go_wp2;exact ret_poly rfl rfl rfl hR (.inr ⟨HNO.out,rfl,hb⟩)
 obtain ⟨n,rfl⟩:∃ n:Nat,v=n:=⟨v.toNat,by omega⟩;obtain ⟨k,rfl⟩:∃ k:Nat,u=k:=⟨u.toNat,by omega⟩;obtain rfl:q=true:=by rw [← hq];exact decide_eq_true hgood.1
 have hn12:n≤12:=by omega
 have hkn:k<n:=by omega
 have hk0:¬ (k:Int)<0:=by omega
 have hk1:¬ (n:Int)≤(k:Int):=by omega
 have hk2:(k:Int)<(n:Int):=by omega
 obtain ⟨z1,z2,z3⟩:=var_of n k;have hmk:=pm_make_ints n (by omega);have hdf1:=df_one;clear hq hgood r0 r1 r2 r3;generalize w.alloc (.cells #[.int .i64 0,.slice none 0 0] 31)=W0 at *;have hI:=Rw.new W0 3 (List.replicate n (Value.int .i64 0));have hb2:=hb.alloc hb.size (.cells (Array.replicate n (Value.int .i64 0)) 3);have hR2:=hR.alloc (.cells (Array.replicate n (Value.int .i64 0)) 3);rw [show (List.replicate n (Value.int .i64 0)).toArray=Array.replicate n (Value.int .i64 0) by simp] at hI;have hc:=hI.cell k;rw [List.getElem?_replicate,if_pos hkn] at hc;have hfz:=hI.frozen k;have hI2:=Rw.new W0 3 ((List.replicate n (Value.int .i64 0)).set k (.int .i64 1));rw [show ((List.replicate n (Value.int .i64 0)).set k (.int .i64 1)).toArray=(Array.replicate n (Value.int .i64 0)).setIfInBounds k (.int .i64 1) from Array.toList_inj.1 (by rw [Array.toList_setIfInBounds,Array.toList_replicate])] at hI2;have hRI:RI (W0.alloc (.cells ((Array.replicate n (Value.int .i64 0)).setIfInBounds k (.int .i64 1)) 3)) (some ⟨W0.heap.size,0,none⟩) ((List.replicate n (0:Int)).set k 1):=
  RI.of_rw (pre:=[]) (post:=[]) (off:=0) (by rw [List.map_set,List.map_replicate,List.append_nil,List.nil_append];exact hI2) rfl
 have hR3:=hR.alloc (.cells ((Array.replicate n (Value.int .i64 0)).setIfInBounds k (.int .i64 1)) 3);have hb3:=hb.alloc hb.size (.cells ((Array.replicate n (Value.int .i64 0)).setIfInBounds k (.int .i64 1)) 3);clear hI hI2 hR hb hR2 hb2;go_wp2_with fail;refine (yof_any _ 1 (by omega) (by omega) false (fb 1) 0 hdf1).mono ?_;rintro e W2 ⟨rfl,hq⟩;clear hc hfz;replace hRI:=hRI.next hq;replace hR3:=hR3.below hq hR3.lt;replace hb3:=below_next hb3 hq;clear hq;have hs:=single_any W2 1000 N (by decide) (by decide) false (fb 1) 0 (some ⟨W0.heap.size,0,none⟩) n n ((List.replicate n (0:Int)).set k 1) (by simp) hn12 hRI (varB n k) z1 z2 z3 ⟨hfit _,oneN_val.2⟩ hN;have hRR:(polyOf [tdv (varB n k,false,fb 1,0)]).map canonT=varV n k:=rfl;rw [hRR] at hs;clear hRR z1 z2 z3 hRI hfit hN hdf1 hmk;generalize hVV:varV n k=VV at hs;have HVV:=Lib.hid hVV;clear hVV;go_wp2_with fail;refine hs.mono ?_;rintro e W3 ⟨od,oc,rfl,hoc,hot,hnew,hq⟩;have hRl:=hR3.lt;replace hR3:=hR3.below hq hR3.lt;replace hb3:=below_next hb3 hq;clear hs hq;obtain ⟨r0,r1,r2,r3⟩:=hR3.facts2;go_wp2;exact ret_poly rfl rfl rfl (hR3.set2 _ _) (.inl ⟨n,k,rfl,rfl,hn12,hkn,by rw [HVV.out];exact ⟨od,oc,rfl,hoc,hot.far2 (r:=w.heap.size) (fun lb lo h=>by have:=hnew lb lo h;omega) _ _ _ _,fun lb lo h=>by have:=hnew lb lo h;omega,pbelow_set2 hb3 (Nat.le_refl _) _ _ _ _⟩⟩)
end Go.Proofs.YtemedphcafgolaaGreatDoor
