/- The document's Var (package ogeeref08), walked. -/
import Derived.Test.YtemedphcafgolaaGreatDoorPVar
namespace Go.Proofs.YtemedphcafgolaaGreatDoor
set_option maxRecDepth 100000
set_option maxHeartbeats 3200000
open Go.RowKit Go.Shelf Go.Lib
theorem conv_var (W:World) (b n k:Nat) (h:Rw W b 5 ((List.replicate n (Value.int .u8 0)).set k (.int .u8 1))):(convert 70 9 (.slice (some ⟨b,0,none⟩) n n)).run Tryz.prog W=.ok (.string (varB n k)) W:=by
 have hl:((List.replicate n (Value.int .u8 0)).set k (.int .u8 1))=(((List.replicate n (0:UInt8)).set k 1).map fun x:UInt8=>Value.int .u8 (x.toNat:Int)):=by
  rw [List.map_set,List.map_replicate];rfl
 rw [hl] at h;exact run_bytes_at (w:=W) (g:=b) (off:=0) (len:=n) (cap:=n) (l:=(List.replicate n (0:UInt8)).set k 1) (by simp) (fun i hi=>by
  have hc:=h.cell i;rw [List.getElem?_map,List.getElem?_eq_getElem hi] at hc;rw [Nat.zero_add];exact hc)
theorem prvar_any (w:World) (N:Nat) (hN:N<256 ^ 1000) (hfit:∀ s:ByteArray,Fits N [tdv (s,oneN)]) (v u:Int) :
  Calls Tryz.prog 21 #[.int .i64 v,.int .i64 u] w (fun e w'=>VarRes w w' e v u):=by
 have hR:=Rw.new w 31 [.int .i64 0,.slice none 0 0];have hb:=(Below.refl w.heap.size w).alloc (Nat.le_refl _) (.cells #[.int .i64 0,.slice none 0 0] 31);obtain ⟨r0,r1,r2,r3⟩:=hR.facts2;go_enter Tryz.func21,Tryz.ntmps21
 by_cases hgood:(0≤v∧v≤12)∧0≤u∧u<v
 case neg =>
  have HNO:=Lib.hid hgood;clear hfit hN
  by_cases h0:v<0
  ·clear hgood;go_wp2;exact ret_poly rfl rfl rfl hR (.inr ⟨HNO.out,rfl,hb⟩)
  ·by_cases h1:12<v
   ·clear hgood;go_wp2;exact ret_poly rfl rfl rfl hR (.inr ⟨HNO.out,rfl,hb⟩)
   ·by_cases h2:u<0
    ·clear hgood;go_wp2;exact ret_poly rfl rfl rfl hR (.inr ⟨HNO.out,rfl,hb⟩)
    ·have h3:v≤u:=by omega
     clear hgood;go_wp2;exact ret_poly rfl rfl rfl hR (.inr ⟨HNO.out,rfl,hb⟩)
 obtain ⟨n,rfl⟩:∃ n:Nat,v=n:=⟨v.toNat,by omega⟩;obtain ⟨k,rfl⟩:∃ k:Nat,u=k:=⟨u.toNat,by omega⟩;have hn12:n≤12:=by omega
 have hkn:k<n:=by omega
 have hn0:¬ (n:Int)<0:=by omega
 have hn1:¬ (12:Int)<(n:Int):=by omega
 have hk0:¬ (k:Int)<0:=by omega
 have hk1:¬ (n:Int)≤(k:Int):=by omega
 have hk2:(k:Int)<(n:Int):=by omega
 have hmk:=make_bytes n (by omega);have hdf1:=df_one;have hI:=Rw.new (w.alloc (.cells #[.int .i64 0,.slice none 0 0] 31)) 5 (List.replicate n (Value.int .u8 0));rw [show (List.replicate n (Value.int .u8 0)).toArray=Array.replicate n (Value.int .u8 0) by simp] at hI;have hc:=hI.cell k;rw [List.getElem?_replicate,if_pos hkn] at hc;have hfz:=hI.frozen k;clear hgood r0 r1 r2 r3 hI;go_wp2;clear hc hfz hmk hn0 hn1 hk0 hk1 hk2;have hI2:=Rw.new (w.alloc (.cells #[.int .i64 0,.slice none 0 0] 31)) 5 ((List.replicate n (Value.int .u8 0)).set k (.int .u8 1));rw [show ((List.replicate n (Value.int .u8 0)).set k (.int .u8 1)).toArray=(Array.replicate n (Value.int .u8 0)).setIfInBounds k (.int .u8 1) from Array.toList_inj.1 (by rw [Array.toList_setIfInBounds,Array.toList_replicate])] at hI2;simp only [World.size_alloc] at hI2;have hR2:=hR.alloc (.cells ((Array.replicate n (Value.int .u8 0)).setIfInBounds k (.int .u8 1)) 5);have hb2:=hb.alloc hb.size (.cells ((Array.replicate n (Value.int .u8 0)).setIfInBounds k (.int .u8 1)) 5);clear hR hb;generalize (w.alloc (.cells #[.int .i64 0,.slice none 0 0] 31)).alloc (.cells ((Array.replicate n (Value.int .u8 0)).setIfInBounds k (.int .u8 1)) 5)=W1 at *;have hgaF:∀ (W:World) (g:Nat),TAt W (some ⟨g,0,none⟩) [(varB n k,false,fb 1,0)]→Calls Tryz.prog 42 #[.int .i64 (n:Int),.slice (some ⟨g,0,none⟩) 1 1] W (fun e w'=>PolyOut W w' e n (varV n k)):=fun W g h =>
  gather_any W N hN (n:Int) (some ⟨g,0,none⟩) 1 1 [(varB n k,false,fb 1,0)] rfl (by decide) h (hfit _) (fun x hx=>by
   obtain rfl:=List.mem_singleton.1 hx;exact oneN_val.2)
 generalize hVV:varV n k=VV at hgaF;have HVV:=Lib.hid hVV;have HGA:=Lib.hid hgaF;have hcv1:=conv_var W1.drew (w.heap.size+1) n k hI2;clear hVV hgaF hfit hN
 go_region_law (first
  | (go_simp;go_at_call 42;refine hga.mono ?_;rintro e V2 ⟨od,oc,rfl,hoc,hot,hnew,hq2⟩;have hb4:=below_next hb3 hq2;have hR4:=hR3.below hq2 hR3.lt;obtain ⟨r0,r1,r2,r3⟩:=hR4.facts2)
  | (go_simp;go_at_call 50;refine (ryof_any _ 1 (by omega) (by omega) false (fb 1) 0 hdf1).mono ?_;rintro e V ⟨rfl,hq⟩;have hcv2:=conv_var V (w.heap.size+1) n k (hI2.drew.below hq hI2.lt);have hga:=HGA.out (V.alloc (.cells #[.string (varB n k),.bool false,.string (fb 1),.int .i64 0] 58)) V.heap.size (TAt.new V 58 [(varB n k,false,fb 1,0)] _ rfl);have hb3:=(below_next hb2.drew hq).alloc (below_next hb2.drew hq).size (.cells #[.string (varB n k),.bool false,.string (fb 1),.int .i64 0] 58);have hR3:=(hR2.drew.below hq hR2.lt).alloc (.cells #[.string (varB n k),.bool false,.string (fb 1),.int .i64 0] 58)))
 all_goals
  have hRl:=hR3.lt;go_wp2;exact ret_poly rfl rfl rfl (hR4.set2 _ _) (.inl ⟨n,k,rfl,rfl,hn12,hkn,by rw [HVV.out];exact ⟨od,oc,rfl,hoc,hot.far2 (r:=w.heap.size) (fun lb lo h=>by have:=hnew lb lo h;omega) _ _ _ _,fun lb lo h=>by have:=hnew lb lo h;omega,pbelow_set2 hb4 (Nat.le_refl _) _ _ _ _⟩⟩)
end Go.Proofs.YtemedphcafgolaaGreatDoor
