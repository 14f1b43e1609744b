/- Package poly: Same at equal terms; walked. -/
import Derived.Test.YtemedphcafgolaaGreatDoorPD
namespace Go.Proofs.YtemedphcafgolaaGreatDoor
set_option maxRecDepth 100000
set_option maxHeartbeats 3200000
open Go.RowKit Go.Shelf Go.Lib
theorem same1_eq (w:World) (xt:ByteArray) (xm:Bool) (xs:ByteArray) (xd:Int) (hs:xs.size≤50000) (hd:-100000≤xd∧xd≤100000):Calls Tryz.prog 56 #[.agg #[.string xt,.bool xm,.string xs,.int .i64 xd],.agg #[.string xt,.bool xm,.string xs,.int .i64 xd]] w (Ret (.bool true) w):=by
 have hc:dsg (nv xm xs xd-nv xm xs xd)=0:=by
  have e:nv xm xs xd-nv xm xs xd=0:=by
   rw [← Dyadic.toRat_inj,Dyadic.toRat_sub,Dyadic.toRat_zero]
   grind
  rw [e];rfl
 have hT:=Tk.new w xt xm xs xd;have hb:=(Below.refl w.heap.size w).alloc (Nat.le_refl _) (.cells #[.string xt,.bool xm,.string xs,.int .i64 xd] 58);have hU:=Tk.new (w.alloc (.cells #[.string xt,.bool xm,.string xs,.int .i64 xd] 58)) xt xm xs xd;replace hT:=hT.alloc (.cells #[.string xt,.bool xm,.string xs,.int .i64 xd] 58);replace hb:=hb.alloc hb.size (.cells #[.string xt,.bool xm,.string xs,.int .i64 xd] 58);rw [World.size_alloc] at hU;obtain ⟨t0,t1,t2,t3⟩:=hT.cells;obtain ⟨u0,u1,u2,u3⟩:=hU.cells;simp only at t0 t1 t2 t3 u0 u1 u2 u3;have hcmp:=ycmp_any ((w.alloc (.cells #[.string xt,.bool xm,.string xs,.int .i64 xd] 58)).alloc (.cells #[.string xt,.bool xm,.string xs,.int .i64 xd] 58)) xm xm xs xs xd xd hs hs hd hd 0 hc;clear hc hd hs;go_enter Tryz.func56,Tryz.ntmps56;go_wp2_with fail;refine hcmp.mono ?_;rintro e W1 ⟨rfl,hq⟩;go_wp2;go_ret;exact ⟨rfl,below_next hb hq⟩
theorem eqfT_eq (w:World) (f:Nat) (hgo:∀ (aa:Array Value) (W:World),Sem.run Tryz.prog (callFunc f aa) W=.ok (.enter f aa) W) (ad bd:Option Addr) (l:List TV) (n c c' : Nat) (hn:l.length=n) (hmax:n≤1000000) (hl:TAt w ad l) (hp:TAt w bd l)
  (hcall:∀ x∈l,∀ W,Calls Tryz.prog f #[.agg #[.string x.1,.bool x.2.1,.string x.2.2.1,.int .i64 x.2.2.2],.agg #[.string x.1,.bool x.2.1,.string x.2.2.1,.int .i64 x.2.2.2]] W (Ret (.bool true) W)) :
  Calls Tryz.prog 58 #[.slice ad n c,.slice bd n c',.func (.func f) #[] #[]] w (Ret (.bool true) w):=by
 have HC:=Lib.hid hcall;clear hcall;go_enter Tryz.func58,Tryz.ntmps58;go_wp2
 go_loopw [17] (fun i wr=>∃ k:Nat,k≤n∧i=.int .i64 k∧Below w.heap.size w wr) (fun i _=>n-(RowKit.intOf i).toNat)
 case atStart=>exact ⟨0,Nat.zero_le _,rfl,Below.refl _ _⟩
 case round =>
  obtain ⟨k,hk,rfl,hb⟩:=hrel
  by_cases hlt:k<n
  ·have hkl:k<l.length:=by omega
   obtain ⟨lb,lo,rfl,hlb,c0,c1,c2,c3⟩:=hl.below hb k hkl;obtain ⟨kb,ko,rfl,hkb,b0,b1,b2,b3⟩:=hp.below hb k hkl;have hcl:=HC.out _ (List.getElem_mem hkl);generalize l[k]=x at *;obtain ⟨xt,xm,xs,xd⟩:=x;simp only at c0 c1 c2 c3 b0 b1 b2 b3 hcl;have HX:=Lib.hid hcl;clear hcl;have hS:=Tk.new wr xt xm xs xd;replace b0:=(((Below.refl wr.heap.size wr).alloc (Nat.le_refl _) (.cells #[.string xt,.bool xm,.string xs,.int .i64 xd] 58)).cell hkb).trans b0;replace b1:=(((Below.refl wr.heap.size wr).alloc (Nat.le_refl _) (.cells #[.string xt,.bool xm,.string xs,.int .i64 xd] 58)).cell hkb).trans b1;replace b2:=(((Below.refl wr.heap.size wr).alloc (Nat.le_refl _) (.cells #[.string xt,.bool xm,.string xs,.int .i64 xd] 58)).cell hkb).trans b2;replace b3:=(((Below.refl wr.heap.size wr).alloc (Nat.le_refl _) (.cells #[.string xt,.bool xm,.string xs,.int .i64 xd] 58)).cell hkb).trans b3;replace hb:=hb.alloc hb.size (.cells #[.string xt,.bool xm,.string xs,.int .i64 xd] 58);have hV:=Tk.new (wr.alloc (.cells #[.string xt,.bool xm,.string xs,.int .i64 xd] 58)) xt xm xs xd;rw [World.size_alloc] at hV;replace hS:=hS.alloc (.cells #[.string xt,.bool xm,.string xs,.int .i64 xd] 58);replace hb:=hb.alloc hb.size (.cells #[.string xt,.bool xm,.string xs,.int .i64 xd] 58);obtain ⟨S0,S1,S2,S3⟩:=hS.cells;obtain ⟨V0,V1,V2,V3⟩:=hV.cells;simp only at S0 S1 S2 S3 V0 V1 V2 V3;go_wp2_with fail;clear c0 c1 c2 c3 b0 b1 b2 b3 S0 S1 S2 S3 V0 V1 V2 V3 hS hV;refine (HX.out _).mono ?_;rintro e' V ⟨rfl,hq⟩
   replace hb:=below_next hb hq;clear hq HX;go_wp2;exact ⟨⟨k+1,hlt,rfl,hb⟩,by simp [RowKit.intOf];omega⟩
  ·obtain rfl:k=n:=by omega
   go_wp2;go_ret;exact ⟨rfl,hb⟩
theorem ppsame_eq (w:World) (v:Int) (ad bd:Option Addr) (n c d:Nat) (l:List TV) (hl:l.length=n) (hmax:n≤1000000) (ha:TAt w ad l) (hb' : TAt w bd l) (hok:∀ x∈l,x.2.2.1.size≤50000∧-100000≤x.2.2.2∧x.2.2.2≤100000) :
  Calls Tryz.prog 33 #[.agg #[.int .i64 v,.slice ad n c],.agg #[.int .i64 v,.slice bd n d]] w (Ret (.bool true) w):=by
 have hb:=((Below.refl w.heap.size w).alloc (Nat.le_refl _) (.cells #[.int .i64 v,.slice ad n c] 31)).alloc (by simp) (.cells #[.int .i64 v,.slice bd n d] 31);have hcall:=eqfT_eq ((w.alloc (.cells #[.int .i64 v,.slice ad n c] 31)).alloc (.cells #[.int .i64 v,.slice bd n d] 31)) 56 (fun _ _=>by kernel_rfl) ad bd l n c d hl hmax (ha.below hb) (hb'.below hb) (fun x hx W=>same1_eq W x.1 x.2.1 x.2.2.1 x.2.2.2 (hok x hx).1 (hok x hx).2);have hP:=(Rw.new w 31 [.int .i64 v,.slice ad n c]).alloc (.cells #[.int .i64 v,.slice bd n d] 31);have hQ:=Rw.new (w.alloc (.cells #[.int .i64 v,.slice ad n c] 31)) 31 [.int .i64 v,.slice bd n d];simp only [World.size_alloc] at hQ;obtain ⟨p0,p1,-⟩:=hP.facts2;obtain ⟨q0,q1,-⟩:=hQ.facts2;clear hok hP hQ;go_enter Tryz.func33,Tryz.ntmps33;go_wp2_with fail;refine hcall.mono ?_;rintro e W1 ⟨rfl,hq⟩;go_wp2;go_ret;exact ⟨rfl,below_next hb hq⟩
end Go.Proofs.YtemedphcafgolaaGreatDoor
