/- The document's Const of polynomials (package ogeeref08), walked. -/
import Derived.Test.YtemedphcafgolaaGreatDoorPRMake
import Derived.Test.YtemedphcafgolaaGreatDoorPD
namespace Go.Proofs.YtemedphcafgolaaGreatDoor
set_option maxRecDepth 100000
set_option maxHeartbeats 3200000
open Go.RowKit Go.Shelf Go.Lib
theorem infoU8:(Tryz.prog.info? 5).map (fun i=>(i.zero,i.size,i.bytes))=some (some (.int .u8 0),1,1):=by kernel_rfl
theorem make_bytes (n:Nat) (hmax:n≤2000000000000):∀ w:World,
  (Instr.makeSlice 70 (.int .i64 n) (.int .i64 n)).run Tryz.prog w=.ok (.slice (some ⟨w.heap.size,0,none⟩) n n) (w.alloc (.cells (Array.replicate n (Value.int .u8 0)) 5)):=by
 intro w;obtain ⟨i,hi,hz,hs,hb⟩:=info_parts infoU8;have h:=run_make (P:=Tryz.prog) w 70 5 i _ Tryz.underlying70 hi hz .i64 .i64 (n:Int) (n:Int) (by omega) (by omega) (by rw [hb];omega) (by omega);rw [h,hs];simp only [Int.toNat_natCast,Nat.mul_one];have e:madeCells (Value.cells (.int .u8 0)) n=Array.replicate n (Value.int .u8 0):=by
  apply Array.toList_inj.1
  rw [show Value.cells (.int .u8 0)=#[.int .u8 0] from rfl,toList_madeCells_one,Array.toList_replicate]
 rw [e]
theorem conv_zeros (W:World) (n:Nat):(convert 70 9 (.slice (some ⟨W.heap.size,0,none⟩) n n)).run Tryz.prog (W.alloc (.cells (Array.replicate n (Value.int .u8 0)) 5))=.ok (.string (oneB n)) (W.alloc (.cells (Array.replicate n (Value.int .u8 0)) 5)):=by
 have h:=run_bytes_at (w:=W.alloc (.cells (Array.replicate n (Value.int .u8 0)) 5)) (g:=W.heap.size) (off:=0) (len:=n) (cap:=n) (l:=List.replicate n (0:UInt8)) (by simp) (fun i hi=>by
  have hc:=(Rw.new W 5 (List.replicate n (Value.int .u8 0))).cell i;rw [show (List.replicate n (Value.int .u8 0)).toArray=Array.replicate n (Value.int .u8 0) by simp] at hc;rw [Nat.zero_add];rw [List.length_replicate] at hi;rw [List.getElem?_replicate,if_pos hi] at hc;rw [List.getElem_replicate];exact hc)
 exact h
def ConstRes (w w' : World) (e:Ending) (v:Int) (c:NV):Prop:=(∃ n:Nat,v=n∧n≤12∧PolyOut w w' e n (constV n c))∨(¬ (0≤v∧v≤12)∧PolyErr w w' e 1)
theorem prconst_any (w:World) (N:Nat) (hN:N<256 ^ 1000) (v:Int) (m:Bool) (s:ByteArray) (d:Int) (hf:∀ n:Nat,n≤12→Fits N [tdv (oneB n,m,s,d)]) (hf2:fitsN 1000 (m,s,d)) :
  Calls Tryz.prog 19 #[.int .i64 v,.agg #[.bool m,.string s,.int .i64 d]] w (fun e w'=>ConstRes w w' e v (m,s,d)):=by
 have hC:=Nk.new w m s d;have hb:=(Below.refl w.heap.size w).alloc (Nat.le_refl _) (.cells #[.bool m,.string s,.int .i64 d] 26);have hR:=Rw.new (w.alloc (.cells #[.bool m,.string s,.int .i64 d] 26)) 31 [.int .i64 0,.slice none 0 0];simp only [World.size_alloc] at hR;replace hC:=hC.alloc (.cells #[.int .i64 0,.slice none 0 0] 31);replace hb:=hb.alloc hb.size (.cells #[.int .i64 0,.slice none 0 0] 31);obtain ⟨r0,r1,r2,r3⟩:=hR.facts2;go_enter Tryz.func19,Tryz.ntmps19
 by_cases hv:0≤v∧v≤12
 case neg =>
  have HNO:=Lib.hid hv;clear hf hf2 hN
  by_cases h0:v<0
  ·clear hv;go_wp2;exact ret_poly rfl rfl rfl hR (.inr ⟨HNO.out,rfl,hb⟩)
  ·have h1:12<v:=by omega
   clear hv;go_wp2;exact ret_poly rfl rfl rfl hR (.inr ⟨HNO.out,rfl,hb⟩)
 obtain ⟨n,rfl⟩:∃ n:Nat,v=n:=⟨v.toNat,by omega⟩;have hn12:n≤12:=by omega
 have hv2:¬ (n:Int)<0:=by omega
 have hv3:¬ (12:Int)<(n:Int):=by omega
 have hmk:=make_bytes n (by omega);have hfn:=hf n hn12;clear r0 r1 r2 r3 hv;go_wp2;generalize (w.alloc (.cells #[.bool m,.string s,.int .i64 d] 26)).alloc (.cells #[.int .i64 0,.slice none 0 0] 31)=W0 at *;have hcv:(convert 70 9 (.slice (some ⟨W0.heap.size,0,none⟩) n n)).run Tryz.prog (W0.alloc (.cells (Array.replicate n (Value.int .u8 0)) 5)).drew=.ok (.string (oneB n)) (W0.alloc (.cells (Array.replicate n (Value.int .u8 0)) 5)).drew:=conv_zeros W0.drew n;have hga:=gather_any ((W0.alloc (.cells (Array.replicate n (Value.int .u8 0)) 5)).alloc (.cells #[.string (oneB n),.bool m,.string s,.int .i64 d] 58)).drew N hN (n:Int) (some ⟨(W0.alloc (.cells (Array.replicate n (Value.int .u8 0)) 5)).heap.size,0,none⟩) 1 1 [(oneB n,m,s,d)] rfl (by decide) (TAt.new (W0.alloc (.cells (Array.replicate n (Value.int .u8 0)) 5)) 58 [(oneB n,m,s,d)] _ rfl).drew hfn (fun x hx=>by
  obtain rfl:=List.mem_singleton.1 hx;exact hf2)
 simp only [World.size_alloc] at hga;have hRR:(polyOf ([(oneB n,m,s,d)].map tdv)).map canonT=constV n (m,s,d):=rfl;rw [hRR] at hga;clear hRR;generalize hRR:constV n (m,s,d)=R at hga;have HRR:=Lib.hid hRR;clear hRR;have hb2:Below w.heap.size w ((W0.alloc (.cells (Array.replicate n (Value.int .u8 0)) 5)).alloc (.cells #[.string (oneB n),.bool m,.string s,.int .i64 d] 58)).drew:=((hb.alloc hb.size (.cells (Array.replicate n (Value.int .u8 0)) 5)).alloc (hb.alloc hb.size (.cells (Array.replicate n (Value.int .u8 0)) 5)).size (.cells #[.string (oneB n),.bool m,.string s,.int .i64 d] 58)).drew;have hR2:=((hR.alloc (.cells (Array.replicate n (Value.int .u8 0)) 5)).alloc (.cells #[.string (oneB n),.bool m,.string s,.int .i64 d] 58)).drew;have hRlt:=hR2.lt;obtain ⟨c0,c1,c2,-⟩:=hC.drew.facts;obtain ⟨d0,d1,d2,-⟩:=(hC.alloc (.cells (Array.replicate n (Value.int .u8 0)) 5)).drew.facts;clear hf hf2 hN hfn hC
 go_region_law (go_simp;go_at_call 42;refine hga.mono ?_;rintro e V ⟨od,oc,rfl,hoc,hot,hnew,hq⟩;have hb3:=below_next hb2 hq;have hR3:=hR2.below hq hR2.lt;obtain ⟨r0,r1,r2,r3⟩:=hR3.facts2)
 all_goals
  go_wp2;exact ret_poly rfl rfl rfl (hR3.set2 _ _) (.inl ⟨n,rfl,hn12,by rw [HRR.out];exact ⟨od,oc,rfl,hoc,hot.far2 (r:=w.heap.size+1) (fun lb lo h=>by have:=hnew lb lo h;omega) _ _ _ _,fun lb lo h=>by have:=hnew lb lo h;have:=hb2.size;omega,pbelow_set2 hb3 (by omega) _ _ _ _⟩⟩)
end Go.Proofs.YtemedphcafgolaaGreatDoor
