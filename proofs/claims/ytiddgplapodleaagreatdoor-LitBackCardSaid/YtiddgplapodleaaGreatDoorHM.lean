/- Layer 1, laid together: Y4, YSum, YMath, Y5. -/
import Derived.Test.YtiddgplapodleaaGreatDoorHY
/- Rows of numbers in memory;package dyad: Mul,walked. -/
namespace Go.Proofs.YtiddgplapodleaaGreatDoor
set_option maxRecDepth 100000
open Go.RowKit Go.Shelf
abbrev NV:=Bool × ByteArray × Int
def nvl (x:NV):Dyadic:=nv x.1 x.2.1 x.2.2
def NAt (w:World) (ad:Option Addr) (l:List NV):Prop:=∀ i (h:i<l.length),∃ lb lo,ad=some ⟨lb,lo,none⟩∧lb<w.heap.size ∧
 w.cell? ⟨lb,lo+i*3,none⟩=some (.bool l[i].1)∧w.cell? ⟨lb,lo+i*3+1,none⟩=some (.string l[i].2.1)∧w.cell? ⟨lb,lo+i*3+2,none⟩=some (.int .i64 l[i].2.2)
theorem NAt.below {w w' : World} {ad:Option Addr} {l:List NV} (h:NAt w ad l) (hb:Below w.heap.size w w'):NAt w' ad l:=by
 intro i hi;obtain ⟨lb,lo,e,hl,h1,h2,h3⟩:=h i hi;have hsz:=hb.size;exact ⟨lb,lo,e,by omega,by rw [hb.cell hl];exact h1,by rw [hb.cell hl];exact h2,by rw [hb.cell hl];exact h3⟩
theorem NAt.alloc {w:World} {ad:Option Addr} {l:List NV} (h:NAt w ad l) (o:Obj):NAt (w.alloc o) ad l:=h.below ((Below.refl _ _).alloc (Nat.le_refl _) _)
theorem NAt.drew {w:World} {ad:Option Addr} {l:List NV} (h:NAt w ad l):NAt w.drew ad l:=h
def ncells:List NV→List Value
 | []=>[]
 | x::l=>.bool x.1::.string x.2.1::.int .i64 x.2.2::ncells l
theorem ncells_get:∀ (l:List NV) (i:Nat) (h:i<l.length),(ncells l)[i*3]?=some (.bool l[i].1)∧(ncells l)[i*3+1]?=some (.string l[i].2.1)∧(ncells l)[i*3+2]?=some (.int .i64 l[i].2.2)
 | [],i,h=>by simp at h
 | x::l,0,h=>⟨rfl,rfl,rfl⟩
 | x::l,i+1,h=>by
  have:=ncells_get l i (by simpa using h)
  rw [show (i+1)*3=i*3+1+1+1 by omega];exact this
theorem NAt.new (w:World) (t:TypeId) (l:List NV) (L:Array Value) (hL:L=(ncells l).toArray):NAt (w.alloc (.cells L t)) (some ⟨w.heap.size,0,none⟩) l:=by
 subst hL;intro i hi;have hR:=Rw.new w t (ncells l);obtain ⟨h1,h2,h3⟩:=ncells_get l i hi;refine ⟨w.heap.size,0,rfl,by rw [World.size_alloc];omega,?_,?_,?_⟩
 ·rw [Nat.zero_add,hR.cell];exact h1
 ·rw [Nat.zero_add,hR.cell];exact h2
 ·rw [Nat.zero_add,hR.cell];exact h3
def prodD (l:List NV) (k:Nat):Dyadic:=((l.take k).map nvl).foldl (·*·) 1
theorem prodD_succ {l:List NV} {k:Nat} (h:k<l.length):prodD l (k+1)=prodD l k*nvl l[k]:=by
 unfold prodD;rw [List.take_succ_eq_append_getElem h,List.map_append,List.foldl_append];rfl
theorem prodD_zero (l:List NV):prodD l 0=1:=rfl
theorem nv_times {m n:Bool} {s t:ByteArray} (d e:Int) {z:Bool} {o:ByteArray} (h:wf (wv m s*wv n t)=wi z o):nv z o (d+e)=nv m s d*nv n t e:=by
 rw [← Dyadic.toRat_inj,Dyadic.toRat_mul,nv_toRat,nv_toRat,nv_toRat,val_of_wf h,Rat.intCast_mul,Rat.zpow_add (by decide)]
 grind
theorem moved_df (w:World) (m m1:Bool) (s s1:ByteArray) (e e1 n:Int) (h1:df (nv m s e)=nu m1 s1 e1) (he:-1000000000000000≤e1∧e1≤1000000000000000) (hn:-1000000000000000≤n∧n≤1000000000000000)
  (m' : Bool) (s' : ByteArray) (e' : Int) (hd:df (nv m s (e+n))=nu m' s' e'):Calls Tryz.prog 42 #[nu m1 s1 e1,.int .i64 n] w (Ret (.agg #[.bool m',.string s',.int .i64 e']) w):=by
 rcases df_shift n h1 with ⟨_,h,rfl,rfl,rfl⟩|⟨_,h,hne⟩
 ·rw [hd] at h;obtain ⟨rfl,rfl,rfl⟩:=nu_inj h;exact moved_zero w false 0 n _ (by kernel_rfl)
 ·rw [hd] at h;obtain ⟨rfl,rfl,rfl⟩:=nu_inj h;exact moved_some w m' s' e1 n hne he hn
def YMU (w wr:World) (P:Nat) (l:List NV) (k:Nat):Prop:=
 ∃ q t f,Nk wr P q t f∧nv q t f=prodD l (k+1)∧t.size≤(k+1)*1000∧(-((k+1:Nat):Int)*10000000≤f∧f≤((k+1:Nat):Int)*10000000)∧(0<k→df (nv q t f)=nu q t f)∧Nk wr w.heap.size false ⟨#[]⟩ 0∧Below w.heap.size w wr
def intY:Value→Nat | .int _ n=>n.toNat|_=>0
def sumD (l:List NV) (k:Nat):Dyadic:=((l.take k).map nvl).foldl (·+·) 0
theorem sumD_succ {l:List NV} {k:Nat} (h:k<l.length):sumD l (k+1)=sumD l k+nvl l[k]:=by
 unfold sumD;rw [List.take_succ_eq_append_getElem h,List.map_append,List.foldl_append];rfl
theorem sumD_zero (l:List NV):sumD l 0=0:=rfl
theorem nv_prod (m n:Bool) (s t:ByteArray) (d e:Int):∃ z o,nv m s d*nv n t e=nv z o (d+e)∧o.size≤s.size+t.size:=by
 obtain ⟨z,o,ez,_,sz⟩:=times_nmw m n s t (k:=s.size) (l:=t.size) (Nat.le_refl _) (Nat.le_refl _);exact ⟨z,o,(nv_times d e ez).symm,sz⟩
theorem nv_plus {m n:Bool} {s t:ByteArray} {d e:Int} (h:e≤d) {z:Bool} {o:ByteArray} (hz:wf (shiftI (wv m s) (d-e)+wv n t)=wi z o):nv z o e=nv m s d+nv n t e:=by
 obtain ⟨k,hk⟩:∃ k:Nat,d=e+k:=⟨(d-e).toNat,by omega⟩;have h1:shiftI (wv m s) (d-e)=wv m s*((2 ^ k:Nat):Int):=by
  unfold shiftI;rw [if_pos (by omega),show (d-e).toNat=k by omega]
 rw [← Dyadic.toRat_inj,Dyadic.toRat_add,nv_toRat,nv_toRat,nv_toRat,val_of_wf hz,h1,hk,Rat.intCast_add,Rat.intCast_mul,Rat.zpow_add (by decide),Rat.zpow_natCast];have h2:(((2 ^ k:Nat):Int):Rat)=2 ^ k:=by
  rw [Rat.intCast_natCast,Rat.natCast_pow];rfl
 rw [h2]
 grind
theorem shift_nmw (m:Bool) (s:ByteArray) (k:Nat) {B K:Nat} (hs:s.size≤B) (hk:k≤8*K):∃ p u,wf (shiftI (wv m s) k)=wi p u∧wv p u=shiftI (wv m s) k∧u.size≤B+K:=by
 refine nmw ?_;unfold shiftI;rw [if_pos (by omega),Int.toNat_natCast,Int.natAbs_mul,wv_abs,Int.natAbs_natCast,Nat.pow_add];have h1:num s<256 ^ B:=lt_size hs;have h2:2 ^ k≤256 ^ K:=by
  rw [show (256:Nat)=2 ^ 8 from rfl,← Nat.pow_mul];exact Nat.pow_le_pow_right (by omega) hk
 exact Nat.mul_lt_mul_of_lt_of_le h1 h2 (Nat.pow_pos (by decide))
theorem zero_nv {m:Bool} {s:ByteArray} {e:Int} (h:sg (wv m s)=0):nv m s e=0:=by
 have h0:wv m s=0:=by rcases sg_cases (wv m s) with ⟨h1,_⟩|⟨_,h2⟩|⟨_,h2⟩ <;> omega
 unfold nv;rw [h0];rfl
theorem dy_sub (x y:Dyadic):x-y=x+-y:=rfl
theorem scaled {m:Bool} {s:ByteArray} {e:Int} (E:Nat) {B K:Nat} (hs:s.size≤B) (he:-(E:Int)≤e) (hK:e+E≤8*K):∃ z o,nv m s e=nv z o (-(E:Int))∧o.size≤B+K:=by
 obtain ⟨k,hk⟩:∃ k:Nat,e+E=k:=⟨(e+E).toNat,by omega⟩;obtain ⟨z,o,ez,vz,sz⟩:=shift_nmw m s k (B:=B) (K:=K) hs (by omega);refine ⟨z,o,?_,sz⟩;have h1:wf (shiftI (wv m s) (e - -(E:Int))+wv false ⟨#[]⟩)=wi z o:=by
  rw [show e - -(E:Int)=(k:Int) by omega,show wv false ⟨#[]⟩=0 by kernel_rfl,Int.add_zero,ez]
 have h2:=nv_plus (d:=e) (e:=-(E:Int)) (by omega) h1;have h3:nv false ⟨#[]⟩ (-(E:Int))=0:=rfl;rw [h2,h3,Dyadic.add_zero]
theorem nv_add_same {m n:Bool} {s t:ByteArray} (e:Int) {B:Nat} (hs:s.size≤B) (ht:t.size≤B):∃ z o,nv m s e+nv n t e=nv z o e∧o.size≤B+1:=by
 obtain ⟨z,o,ez,vz,sz⟩:=plus_nmw m n s t hs ht;refine ⟨z,o,?_,sz⟩;have h1:wf (shiftI (wv m s) (e-e)+wv n t)=wi z o:=by
  rw [Int.sub_self,← ez]
  congr 1
  unfold shiftI;simp
 exact (nv_plus (Int.le_refl _) h1).symm
theorem nv_pow (m:Bool) (s:ByteArray) (e:Int):∀ (n:Nat) {z:Bool} {o:ByteArray},wf (wv m s ^ n)=wi z o→nv z o (e*n)=nv m s e ^ n
 | 0,z,o,h=>by
  rw [Int.pow_zero] at h;rw [nv_of _ h,Dyadic.pow_zero];show Dyadic.ofIntWithPrec 1 (-(e*0))=1;rw [Int.mul_zero];rfl
 | n+1,z,o,h=>by
  obtain ⟨z1,o1,h1⟩:∃ z1 o1,wf (wv m s ^ n)=wi z1 o1:=⟨_,_,rfl⟩;have ih:=nv_pow m s e n h1;have h2:wf (wv z1 o1*wv m s)=wi z o:=by rw [val_of_wf h1,← Int.pow_succ];exact h
  have h3:=nv_times (e*n) e h2;rw [Dyadic.pow_succ,← ih,← h3]
  congr 1
  show e*((n+1:Nat):Int)=_;rw [Int.natCast_add,Int.mul_add];simp
theorem pow_nmw' (n:Bool) (s:ByteArray) (k:Nat) {B:Nat} (hs:s.size≤B) (hk:k≤64):∃ p u,wf (wv n s ^ k)=wi p u∧u.size≤64*B+1:=by
 have h0:(wv n s ^ k).natAbs<256 ^ (64*B+1):=by
  rw [Int.natAbs_pow,wv_abs];have h1:num s ^ k≤(256 ^ s.size) ^ k:=Nat.pow_le_pow_left (Nat.le_of_lt (num_lt s)) k;rw [← Nat.pow_mul] at h1;have h3:s.size*k≤64*B:=by rw [Nat.mul_comm];exact Nat.mul_le_mul hk hs
  have h2:256 ^ (s.size*k)≤256 ^ (64*B):=Nat.pow_le_pow_right (by omega) h3;have h4:256 ^ (64*B)<256 ^ (64*B+1):=Nat.pow_lt_pow_right (by omega) (by omega);omega
 obtain ⟨p,u,e,_,h⟩:=nmw h0;exact ⟨p,u,e,h⟩
end Go.Proofs.YtiddgplapodleaaGreatDoor
