/- Layer 1, laid together: Mem, Row1, Down, Up, App, Div64, Guess, Row2, Digit, Plus, Grow. -/
import Derived.WalkKit
import Derived.WalkSpells
import Derived.Lib.Hide
import Derived.Deep.Draws
import Derived.Test.YtemedphcafgolaaGreatDoorShelf
import Derived.Test.YtemedphcafgolaaGreatDoorRows
import Derived.LoopTactic
import Derived.BigQuiet
import Derived.Deep.QuietTactic
import Derived.Shelf.Spec.BitsCarry
import Derived.RegionTactic
import Derived.BigRegion
import Derived.Laws.CopyOwn
import Derived.Laws.MakeOwn
import Derived.Laws.OwnMore
import Derived.Laws.AppendOwn
import Derived.Test.YtemedphcafgolaaGreatDoorG0
import Derived.Deep.CutBlock
import Derived.Deep.DeepCutAuto
/- Plain facts on memory: a block that is known whole,of digits;no function is walked in this text. -/
namespace Go.Proofs.YtemedphcafgolaaGreatDoor
set_option maxRecDepth 100000
set_option maxHeartbeats 800000
open Go.RowKit
def dg (d:Nat):Value:=.int .u64 (d:Int)
def Rw (w:World) (b:Nat) (t:TypeId) (L:List Value):Prop:=w.heap[b]?=some (.cells L.toArray t (0,0))
def Ds (w:World) (b off:Nat) (ds:List Nat):Prop:=∀ i (h:i<ds.length),w.cell? ⟨b,off+i,none⟩=some (dg ds[i])
section
variable {w w' : World} {b : Nat} {t : TypeId} {L : List Value}
theorem Rw.lt (h:Rw w b t L):b<w.heap.size:=by
 rcases Nat.lt_or_ge b w.heap.size with hlt|hge
 ·exact hlt
 ·unfold Rw at h;rw [Array.getElem?_eq_none hge] at h;cases h
theorem Rw.cell (h:Rw w b t L) (i:Nat):w.cell? ⟨b,i,none⟩=L[i]?:=by
 rw [cell_of_row w b i L.toArray t (0,0) h];simp
theorem Rw.frozen (h:Rw w b t L) (i:Nat):w.frozen? ⟨b,i,none⟩=false:=by
 unfold Rw at h;simp [World.frozen?,h]
theorem Rw.new (w:World) (t:TypeId) (L:List Value):Rw (w.alloc (.cells L.toArray t)) w.heap.size t L:=heap_alloc_new w _
theorem Rw.drew (h:Rw w b t L):Rw w.drew b t L:=h
theorem Rw.drewN (h:Rw w b t L) (n:Nat):Rw (w.drewN n) b t L:=h
theorem Rw.alloc (h:Rw w b t L) (o:Obj):Rw (w.alloc o) b t L:=(Below.heap_alloc w o b h.lt).trans h
theorem Rw.set_ (h:Rw w b t L) (i:Nat) (u:Value):Rw (w.setCell ⟨b,i,none⟩ u) b t (L.set i u):=by
 unfold Rw at h ⊢;simp [World.setCell,Array.getElem?_modify,h]
theorem Rw.far (h:Rw w b t L) {p:Addr} (hp:b≠p.block) (u:Value):Rw (w.setCell p u) b t L:=(Below.heap_setCell w p u b hp).trans h
theorem Rw.fr {w:World} {b:Nat} {t:TypeId} {L:List Value} (h:Rw w b t L) (A k:Nat) (u:Value) (hp:b≠A:=by omega):Rw (w.setCell ⟨A,k,none⟩ u) b t L:=h.far (p:=⟨A,k,none⟩) hp u
theorem Rw.below {B:Nat} (h:Rw w b t L) (hb:Below B w w') (hg:b<B):Rw w' b t L:=(hb.block b hg).trans h
theorem Rw.grown {row:Option Nat} (h:Rw w b t L) (hb:w.grownBy w' row) (hg:some b≠row):Rw w' b t L:=(hb.block b h.lt hg).trans h
theorem grown_drew {a:World} {row:Option Nat} (h:a.grownBy w row):a.grownBy w.drew row:=⟨h.os,h.tape,h.output,h.size,h.block⟩
theorem grown_setCell {a:World} {g:Nat} (h:a.grownBy w (some g)) {p:Addr} (hp:p.block=g) (u:Value):a.grownBy (w.setCell p u) (some g):=
 ⟨h.os,h.tape,h.output,by simpa [World.setCell] using h.size,fun i hi hne=>(Below.heap_setCell w p u i (by rintro rfl;exact hne (by rw [hp]))).trans (h.block i hi hne)⟩
theorem grown_trans {a c:World} {row:Option Nat} (h:a.grownBy w row) (k:w.grownBy c row):a.grownBy c row:=
 ⟨k.os.trans h.os,k.tape.trans h.tape,k.output.trans h.output,Nat.le_trans h.size k.size,fun i hi hne=>(k.block i (Nat.lt_of_lt_of_le hi h.size) hne).trans (h.block i hi hne)⟩
theorem below_drewN {B:Nat} {a:World} (h:Below B a w) (n:Nat):Below B a (w.drewN n):=⟨h.os,h.tape,h.output,h.size,h.block⟩
theorem cell_past {a:Addr} {v:Value} (h:w.cell? a=some v):∀ o,(w.alloc o).cell? a=some v:=fun o =>
 (World.cell?_alloc_lt w o a (World.block_lt_of_cell? w a h)).trans h
theorem Ds.grown {off:Nat} {ds:List Nat} {row:Option Nat} (h:Ds w b off ds) (hg:w.grownBy w' row) (hne:some b≠row):Ds w' b off ds:=
 fun i hi=>hg.cell (h i hi) hne
theorem Ds.below {B off:Nat} {ds:List Nat} (h:Ds w b off ds) (hb:Below B w w') (hlt:b<B):Ds w' b off ds:=
 fun i hi=>(hb.cell (p:=⟨b,off+i,none⟩) hlt).trans (h i hi)
theorem Rw.ds {off:Nat} {ds:List Nat} {pre post:List Value} (h:Rw w b t (pre++ds.map dg++post)) (ho:pre.length=off):Ds w b off ds:=by
 intro i hi;rw [h.cell,← ho,List.append_assoc,List.getElem?_append_right (by omega),Nat.add_sub_cancel_left,List.getElem?_append_left (by simpa using hi)];simp [hi]
end
open Go.RowKit Go.Shelf
def IsMul (x y hi lo:Nat):Prop:=hi*B64+lo=x*y∧lo<B64∧hi<B64
def IsAdd (x y s c:Nat):Prop:=s+B64*c=x+y∧s<B64∧c≤1
def IsSub (x y s c:Nat):Prop:=s+y=x+B64*c∧s<B64∧c≤1
theorem mul64_any (x y:Nat) (hx:x<B64) (hy:y<B64) (w:World) :
  Calls Tryz.prog 187 #[.int .u64 x,.int .u64 y] w fun e w'=>∃ hi lo:Nat,e=.returned (.tuple #[.int .u64 hi,.int .u64 lo])∧IsMul x y hi lo∧w=w':=
 (Tryz.bits_Mul64 x y hx hy w).mono fun e w' ⟨he,hw⟩=>⟨_,_,he,⟨by unfold B64;omega,by unfold B64;omega,by
  unfold B64 at *;rw [Nat.div_lt_iff_lt_mul (by omega)];exact Nat.lt_of_le_of_lt (Nat.mul_le_mul (Nat.le_of_lt_succ hx) (Nat.le_of_lt_succ hy)) (by omega)⟩,hw.symm⟩
theorem add64_ex (x y:Nat) (hx:x<B64) (hy:y<B64) :
  ∃ s c:Nat,(∀ w,(callFunc 188 #[.int .u64 x,.int .u64 y,.int .u64 0]).run Tryz.prog w=.ok (.value (.tuple #[.int .u64 s,.int .u64 c])) w)∧IsAdd x y s c:=by
 refine ⟨(x+y) % B64,(x+y) / B64,fun w=>?_,?_⟩
 ·rw [run_callFunc_extern Tryz.func188 (by kernel_rfl) (by kernel_rfl) (by kernel_rfl) (e:=add64Entry) (by kernel_rfl),run_add64 (x:=(x:Int)) (y:=(y:Int)) (c:=0) (by omega) (by omega) (by omega) (by omega)];simp only [Result.andThen,Int.add_zero,B64_eq]
  congr 5 <;> omega
 ·unfold IsAdd B64 at *;refine ⟨by omega,by omega,by omega⟩
theorem sub64_ex (x y:Nat) (hx:x<B64) (hy:y<B64) :
  ∃ s c:Nat,(∀ w,(callFunc 190 #[.int .u64 x,.int .u64 y,.int .u64 0]).run Tryz.prog w=.ok (.value (.tuple #[.int .u64 s,.int .u64 c])) w)∧IsSub x y s c:=by
 refine ⟨(x+B64-y) % B64,if x<y then 1 else 0,fun w=>?_,?_⟩
 ·have h:=run_sub64 (P:=Tryz.prog) x y 0 (by omega) w;rw [run_callFunc_extern Tryz.func190 (by kernel_rfl) (by kernel_rfl) (by kernel_rfl) (e:=sub64Entry) (by kernel_rfl)];rw [show (0:Int)=((0:Nat):Int) from rfl,h];simp only [Result.andThen,B64_eq,Nat.sub_zero,Nat.add_zero]
 ·unfold IsSub B64 at *;split <;> refine ⟨by omega,by omega,by omega⟩
def PT (w wr:World) (db:Nat) (T:TypeId) (pre post:List Value) (ds:List Nat) (R:Nat→Prop) (k o:Nat):Prop:=
 ∃ es:List Nat,es.length=k∧Dig es∧o<B64∧Rw wr db T (pre++(es++ds.drop k).map dg++post)∧w.grownBy wr (some db)∧R (val es)
def RP (D N k o:Nat) (E:Nat):Prop:=E+B64 ^ k*o=D+N
def RM (D N k o:Nat) (E:Nat):Prop:=E+N=D+B64 ^ k*o
theorem cellOf {pre post:List Value} {es ds:List Nat} {k:Nat} (he:es.length=k) (hk:k<ds.length) {wr:World} {db:Nat} {T:TypeId} (h:Rw wr db T (pre++(es++ds.drop k).map dg++post)) :
  wr.cell? ⟨db,pre.length+k,none⟩=some (dg ds[k]):=by
 rw [h.cell,List.append_assoc,List.getElem?_append_right (by omega),Nat.add_sub_cancel_left,List.getElem?_append_left (by simp;omega)];simp [List.getElem?_append_right,he,hk]
theorem PT.cell {w wr:World} {db:Nat} {T:TypeId} {pre post:List Value} {ds:List Nat} {R:Nat→Prop} {k o:Nat} (h:PT w wr db T pre post ds R k o) (hk:k<ds.length) :
  wr.cell? ⟨db,pre.length+k,none⟩=some (dg ds[k]):=by
 obtain ⟨es,he,_,_,hR,_⟩:=h;exact cellOf he hk hR
theorem setOf_ {pre post:List Value} {es ds:List Nat} {k e:Nat} (he:es.length=k) (hk:k<ds.length) :
  (pre++(es++ds.drop k).map dg++post).set (pre.length+k) (dg e)=pre++((es++[e])++ds.drop (k+1)).map dg++post:=by
 rw [List.append_assoc,List.append_assoc,List.set_append_right _ _ (by omega),Nat.add_sub_cancel_left,List.map_append,List.append_assoc,
  List.set_append_right _ _ (by simp;omega),List.length_map,he,Nat.sub_self,List.drop_eq_getElem_cons hk]
 simp only [List.map_cons,List.cons_append,List.set_cons_zero,List.map_append,List.append_assoc,List.nil_append]
theorem PT.step {w wr:World} {db:Nat} {T:TypeId} {pre post:List Value} {ds:List Nat} {R R' : Nat→Prop} {k o e o' : Nat} (h:PT w wr db T pre post ds R k o) (hk:k<ds.length)
  (he:e<B64) (ho:o'<B64) (hR:∀ E,R E→R' (E+B64 ^ k*e)) :
  PT w (wr.setCell ⟨db,pre.length+k,none⟩ (.int .u64 (e:Int))) db T pre post ds R' (k+1) o':=by
 obtain ⟨es,h1,h2,_,h4,h5,h6⟩:=h;refine ⟨es++[e],by simp [h1],h2.snoc he,ho,?_,grown_setCell h5 rfl _,?_⟩
 ·have:=h4.set_ (pre.length+k) (dg e)
  rw [setOf_ h1 hk] at this;exact this
 ·rw [val_snoc,h1];exact hR _ h6
theorem PT.frozen {w wr:World} {db:Nat} {T:TypeId} {pre post:List Value} {ds:List Nat} {R:Nat→Prop} {k o:Nat} (h:PT w wr db T pre post ds R k o) (i:Nat):wr.frozen? ⟨db,i,none⟩=false:=by
 obtain ⟨_,_,_,_,hR,_,_⟩:=h;exact hR.frozen _
theorem PT.grown {w wr:World} {db:Nat} {T:TypeId} {pre post:List Value} {ds:List Nat} {R:Nat→Prop} {k o:Nat} (h:PT w wr db T pre post ds R k o):w.grownBy wr (some db):=by
 obtain ⟨_,_,_,_,_,hg,_⟩:=h;exact hg
theorem PT.lt {w wr:World} {db:Nat} {T:TypeId} {pre post:List Value} {ds:List Nat} {R:Nat→Prop} {k o:Nat} (h:PT w wr db T pre post ds R k o):o<B64:=by
 obtain ⟨_,_,_,ho,_⟩:=h;exact ho
theorem PT.done {w wr:World} {db:Nat} {T:TypeId} {pre post:List Value} {ds:List Nat} {R:Nat→Prop} {k o:Nat} (h:PT w wr db T pre post ds R k o) (hk:k≤ds.length) (hdd:Dig ds) :
  ∃ es:List Nat,Rw wr db T (pre++es.map dg++post)∧w.grownBy wr (some db)∧es.length=ds.length∧Dig es∧∃ E,val es=E+B64 ^ k*val (ds.drop k)∧R E:=by
 obtain ⟨es,h1,h2,_,h4,h5,h6⟩:=h;exact ⟨es++ds.drop k,h4,h5,by simp;omega,h2.append (hdd.drop k),val es,by rw [val_append,h1],h6⟩
theorem RP.done {D N k o E V len:Nat} (h:RP D N k o E) (ho:o=0∨k=len):E+B64 ^ k*V+B64 ^ len*o=(D+B64 ^ k*V)+N:=by
 unfold RP at h
 rcases ho with rfl|rfl
 ·simp at h ⊢;omega
 ·omega
theorem RM.done {D N k o E V len:Nat} (h:RM D N k o E) (ho:o=0∨k=len):E+B64 ^ k*V+N=(D+B64 ^ k*V)+B64 ^ len*o:=by
 unfold RM at h
 rcases ho with rfl|rfl
 ·simp at h ⊢;omega
 ·omega
theorem RP.step {d o s c D N k E:Nat} (h:RP D N k o E) (hs:IsAdd d o s c):RP (D+B64 ^ k*d) N (k+1) c (E+B64 ^ k*s):=by
 unfold RP at h ⊢
 have:B64 ^ k*(s+B64*c)=B64 ^ k*(d+o):=by rw [hs.1]
 simp only [Nat.mul_add,Nat.pow_succ] at this ⊢;rw [← Nat.mul_assoc] at this;omega
theorem RM.step {d o s c D N k E:Nat} (h:RM D N k o E) (hs:IsSub d o s c):RM (D+B64 ^ k*d) N (k+1) c (E+B64 ^ k*s):=by
 unfold RM at h ⊢
 have:B64 ^ k*(s+o)=B64 ^ k*(d+B64*c):=by rw [hs.1]
 simp only [Nat.mul_add,Nat.pow_succ] at this ⊢;rw [← Nat.mul_assoc] at this;omega
theorem wrap_u64 (a b:Nat) (h:a+b<B64):IntKind.u64.wrap ((a:Int)+(b:Int))=(a:Int)+(b:Int):=by
 unfold B64 at h;rw [IntKind.wrap_u64];omega
theorem wrap_u64' (a b c:Nat) (h:a+b+c<B64):IntKind.u64.wrap ((a:Int)+(b:Int)+(c:Int))=(a:Int)+(b:Int)+(c:Int):=by
 unfold B64 at h;rw [IntKind.wrap_u64];omega
theorem plusTimes_any (w:World) (db doff dc xb xoff xc:Nat) (T:TypeId) (pre post:List Value) (ds xs:List Nat) (n:Nat)
  (hd:Rw w db T (pre++ds.map dg++post)) (hpre:pre.length=doff) (hx:Ds w xb xoff xs) (hne:xb≠db) (hdd:Dig ds) (hdx:Dig xs) (hn:n<B64)
  (hle:xs.length≤ds.length) (hmax:ds.length≤1000000000000) :
  Calls Tryz.prog 179 #[.slice (some ⟨db,doff,none⟩) ds.length dc,.slice (some ⟨xb,xoff,none⟩) xs.length xc,.int .u64 n] w
   fun e w'=>∃ (es:List Nat) (o:Nat),e=.returned (.int .u64 o)∧Rw w' db T (pre++es.map dg++post)∧w.grownBy w' (some db)∧es.length=ds.length∧Dig es∧o<B64 ∧
    val es+B64 ^ ds.length*o=val ds+n*val xs:=by
 subst hpre;have hPT0:PT w w db T pre post ds (RP (val (ds.take 0)) (n*val (xs.take 0)) 0 0) 0 0:=⟨[],rfl,Dig.nil,B64_pos,by simpa using hd,World.grownBy.refl w _,by simp [val,RP]⟩;go_enter Tryz.func179,Tryz.ntmps179;go_wp2
 go_loopw [7,16] (fun o i wr=>∃ k ov:Nat,k≤xs.length∧i=.int .i64 k∧o=.int .u64 ov∧PT w wr db T pre post ds (RP (val (ds.take k)) (n*val (xs.take k)) k ov) k ov)
  (fun _ i _=>xs.length-(intOf i).toNat)
 case atStart=>exact ⟨0,0,Nat.zero_le _,rfl,rfl,hPT0⟩
 case round =>
  obtain ⟨k,ov,hk,rfl,rfl,hPT⟩:=hrel
  by_cases hlt:k<xs.length
  ·have hcx:wr.cell? ⟨xb,xoff+k,none⟩=some (dg xs[k]):=by
    exact (hx.grown hPT.grown (by simpa using hne)) k hlt
   have hcd:=hPT.cell (show k<ds.length by omega);have hfr:wr.frozen? ⟨db,pre.length+k,none⟩=false:=hPT.frozen _;have hov:ov<B64:=hPT.lt;have hmB:=hdx.get hlt;have hdB:=hdd.get (show k<ds.length by omega);obtain ⟨m,hm⟩:∃ m,m=xs[k]:=⟨_,rfl⟩;obtain ⟨d,hdk⟩:∃ d,d=ds[k]'(by omega):=⟨_,rfl⟩;rw [← hm] at hcx hmB;rw [← hdk] at hcd hdB;have Hm:=Lib.hid hm;clear hm;have Hd:=Lib.hid hdk;clear hdk;unfold dg at hcx hcd;have hkd:k<ds.length:=by omega
   go_wp2_with (first
    | (go_at_call 187;refine (mul64_any m n hmB hn _).mono ?_;rintro e w' ⟨hi,lo,rfl,hmul,rfl⟩;obtain ⟨s1,c1,hr1,hs1⟩:=add64_ex lo ov hmul.2.1 hov;obtain ⟨s2,c2,hr2,hs2⟩:=add64_ex d s1 hdB hs1.2.1;have hdig:=digit_plus hdB hmB hn hov hmul.1 hmul.2.1 hs1.1 hs1.2.1 hs2.1 hs2.2.1;have hw1:=wrap_u64 hi c1 hdig.1;have hw2:=wrap_u64' hi c1 c2 hdig.2.1;have Hdig:=Lib.hid hdig;clear hdig)
    )
   go_roundw
   case rel =>
    obtain ⟨_,g2,g3⟩:=Hdig.out;refine ⟨k+1,hi+c1+c2,by omega,by go_num,by go_num,?_⟩;rw [take_succ_val ds hkd,take_succ_val xs hlt,← Hm.out,← Hd.out];exact hPT.step hkd hs2.2.1 g2 fun E hE=>plus_step (o':=hi+c1+c2) hE g3
   case measure=>simp [intOf];omega
  ·have hkx:k=xs.length:=by omega
   subst hkx;rw [List.take_length] at hPT;have hPT2:PT w wr db T pre post ds (RP (val (ds.take xs.length)) (n*val xs) xs.length ov) xs.length ov:=hPT;clear hPT hPT0 hlt;go_wp2
   go_loopw [7,13] (fun o i wr=>∃ k ov:Nat,k≤ds.length∧i=.int .i64 k∧o=.int .u64 ov∧PT w wr db T pre post ds (RP (val (ds.take k)) (n*val xs) k ov) k ov)
    (fun _ i _=>ds.length-(intOf i).toNat)
   case atStart=>exact ⟨xs.length,ov,hle,rfl,rfl,hPT2⟩
   case round =>
    clear hPT2;obtain ⟨k,ov,hk,rfl,rfl,hPT⟩:=hrel
    by_cases ho:ov=0
    ·subst ho;go_wp2;go_ret;obtain ⟨es,e1,e2,e3,e4,E,e5,e6⟩:=hPT.done hk hdd;exact ⟨es,0,rfl,e1,e2,e3,e4,B64_pos,by rw [e5,val_split ds k hk];exact e6.done (.inl rfl)⟩
    ·by_cases hlt:k<ds.length
     ·have hcd:=hPT.cell hlt;have hfr:wr.frozen? ⟨db,pre.length+k,none⟩=false:=hPT.frozen _;have hov:ov<B64:=hPT.lt;have hdB:=hdd.get hlt;obtain ⟨d,hdk⟩:∃ d,d=ds[k]:=⟨_,rfl⟩;rw [← hdk] at hcd hdB;have Hd:=Lib.hid hdk;clear hdk;unfold dg at hcd;obtain ⟨s2,c2,hr2,hs2⟩:=add64_ex d ov hdB hov;go_wp2;go_roundw
      case rel =>
       refine ⟨k+1,c2,by omega,by go_num,by go_num,?_⟩;rw [take_succ_val ds hlt,← Hd.out];exact hPT.step hlt hs2.2.1 (Nat.lt_of_le_of_lt hs2.2.2 (by unfold B64;omega)) fun E hE=>hE.step hs2
      case measure=>simp [intOf];omega
     ·go_wp2;go_ret;have hke:k=ds.length:=by omega
      obtain ⟨es,e1,e2,e3,e4,E,e5,e6⟩:=hPT.done hk hdd;exact ⟨es,ov,rfl,e1,e2,e3,e4,hPT.lt,by rw [e5,val_split ds k hk];exact e6.done (.inr hke)⟩
def DX (w wr:World) (db:Nat) (T:TypeId) (pre post:List Value) (es ds:List Nat) (k:Nat):Prop:=
 Rw wr db T (pre++(es.take k++ds.drop k).map dg++post)∧w.grownBy wr (some db)
section
variable {w wr : World} {db : Nat} {T : TypeId} {pre post : List Value} {es ds : List Nat} {k : Nat}
theorem DX.cell (h:DX w wr db T pre post es ds k) (hl:es.length=ds.length) {j:Nat} (hj:k≤j) (hk:j<ds.length):wr.cell? ⟨db,pre.length+j,none⟩=some (dg ds[j]):=by
 have:=h.1.ds rfl j (by simp;omega)
 rw [this]
 congr 2
 rw [List.getElem_append_right (by simp;omega)];simp only [List.length_take,List.getElem_drop]
 congr 1
 omega
theorem DX.step (h:DX w wr db T pre post es ds k) (hl:es.length=ds.length) (hk:k<ds.length) (u:Value) :
  DX w ((wr.setCell ⟨db,pre.length+k,none⟩ u).setCell ⟨db,pre.length+k,none⟩ (dg (es[k]'(by omega)))).drew db T pre post es ds (k+1):=by
 refine ⟨?_,grown_drew (grown_setCell (grown_setCell h.2 rfl _) rfl _)⟩
 have:=((h.1.set_ (pre.length+k) u).set_ (pre.length+k) (dg (es[k]'(by omega)))).drew
 rw [List.set_set,setOf_ (by simp;omega) hk] at this;rw [List.take_succ_eq_append_getElem (by omega)];exact this
theorem DX.step1 (h:DX w wr db T pre post es ds k) (hl:es.length=ds.length) (hk:k<ds.length) :
  DX w (wr.setCell ⟨db,pre.length+k,none⟩ (dg (es[k]'(by omega)))) db T pre post es ds (k+1):=by
 refine ⟨?_,grown_setCell h.2 rfl _⟩
 have:=h.1.set_ (pre.length+k) (dg (es[k]'(by omega)))
 rw [setOf_ (by simp;omega) hk] at this;rw [List.take_succ_eq_append_getElem (by omega)];exact this
end
theorem or_down' (d e n:Nat) (hd:d<B64) (h:n<64) :
  bits .or .u64 ((d:Int) / 2 ^ n) (IntKind.u64.wrap ((e:Int)*2 ^ (64-n)))=((d / 2 ^ n+e*2 ^ (64-n) % B64:Nat):Int):=by
 have e1:((d:Int) / 2 ^ n)=((d / 2 ^ n:Nat):Int):=by simp
 have e2:IntKind.u64.wrap ((e:Int)*2 ^ (64-n))=((e*2 ^ (64-n) % B64:Nat):Int):=by
  rw [IntKind.wrap_u64,B64_eq];simp
 have h1:d / 2 ^ n<B64:=Nat.lt_of_le_of_lt (Nat.div_le_self _ _) hd;have h2:e*2 ^ (64-n) % B64<B64:=Nat.mod_lt _ B64_pos;rw [e1,e2,u64_or_nat _ _ h1 h2,or_down hd h]
theorem down_any (w:World) (db doff dc:Nat) (T:TypeId) (pre post:List Value) (ds:List Nat) (n:Nat)
  (hd:Rw w db T (pre++ds.map dg++post)) (hpre:pre.length=doff) (hdd:Dig ds) (hn:n<64) (hmax:ds.length≤1000000000000) :
  Calls Tryz.prog 133 #[.slice (some ⟨db,doff,none⟩) ds.length dc,.int .u64 n] w
   fun e w'=>e=.returned (.tuple #[])∧Rw w' db T (pre++(downs n ds).map dg++post)∧w.grownBy w' (some db):=by
 subst hpre;have hl:=length_downs n ds;have h0:DX w w db T pre post (downs n ds) ds 0:=⟨by simpa using hd,World.grownBy.refl w _⟩;have HL:=Lib.hid hl;clear hl;go_enter Tryz.func133,Tryz.ntmps133;go_wp2
 go_loopw [7] (fun i wr=>∃ k:Nat,k≤ds.length∧i=.int .i64 k∧DX w wr db T pre post (downs n ds) ds k)
  (fun i _=>ds.length-(intOf i).toNat)
 case atStart=>exact ⟨0,Nat.zero_le _,rfl,h0⟩
 case round =>
  clear h0;obtain ⟨k,hk,rfl,hDX⟩:=hrel
  by_cases hlt:k<ds.length
  ·have hcd:=hDX.cell HL.out (Nat.le_refl k) hlt;have hfr:wr.frozen? ⟨db,pre.length+k,none⟩=false:=hDX.1.frozen _;have hdB:=hdd.get hlt;have hget:=downs_get n ds k hlt;obtain ⟨d,hdk⟩:∃ d,d=ds[k]:=⟨_,rfl⟩;rw [← hdk] at hcd hdB hget;have Hd:=Lib.hid hdk;clear hdk;unfold dg at hcd
   by_cases hlt2:k+1<ds.length
   ·have hcd2:=hDX.cell HL.out (show k≤k+1 by omega) hlt2;obtain ⟨e,hde⟩:∃ e,e=ds[k+1]:=⟨_,rfl⟩;have hge:ds.getD (k+1) 0=e:=by rw [hde];simp [hlt2]
    rw [hge] at hget;rw [← hde] at hcd2;have Hg:=Lib.hid hget;clear hget;clear hde hge;unfold dg at hcd2;go_wp2
    go_region
    go_wp2;go_roundw
    case rel =>
     refine ⟨k+1,by omega,by go_num,?_⟩;rw [or_down' d e n hdB hn,← Hg.out];exact hDX.step HL.out hlt _
    case measure=>simp [intOf];omega
   ·have hge:ds.getD (k+1) 0=0:=by simp [hlt2]
    rw [hge,Nat.zero_mul,Nat.zero_mod,Nat.add_zero] at hget;have Hg:=Lib.hid hget;clear hget;clear hge;go_wp2;go_roundw
    case rel =>
     refine ⟨k+1,by omega,by go_num,?_⟩
     have:=hDX.step1 HL.out hlt
     rw [Hg.out] at this;simpa [dg] using this
    case measure=>simp [intOf];omega
  ·go_wp2;go_end0;obtain ⟨h1,h2⟩:=hDX;have hke:k=ds.length:=by omega
   subst hke;rw [List.drop_length,List.append_nil,List.take_of_length_le (by rw [HL.out];exact Nat.le_refl _)] at h1;exact ⟨rfl,h1,h2⟩
theorem info64:(Tryz.prog.info? 119).map (fun i=>(i.zero,i.size,i.bytes))=some (some (.int .u64 0),1,8):=by kernel_rfl
theorem size64:(Tryz.prog.info? 119).map (·.size)=some 1:=by kernel_rfl
def zeros (n:Nat):Array Value:=((List.replicate n 0).map dg).toArray
theorem make_row (n:Nat) (c:Int) (hc:c=(n:Int)) (hmax:n≤2000000000000):∀ w:World,
  (Instr.makeSlice 147 (.int .i64 c) (.int .i64 c)).run Tryz.prog w=.ok (.slice (some ⟨w.heap.size,0,none⟩) n n) (w.alloc (.cells (zeros n) 119)):=by
 intro w;subst hc;obtain ⟨i,hi,hz,hs,hb⟩:=info_parts info64;have h:=run_make (P:=Tryz.prog) w 147 119 i _ Tryz.underlying147 hi hz .i64 .i64 (n:Int) (n:Int) (by omega) (by omega) (by rw [hb];omega) (by omega);rw [h,hs];simp only [Int.toNat_natCast,Nat.mul_one];have e:madeCells (Value.cells (.int .u64 0)) n=zeros n:=by
  apply Array.toList_inj.1
  rw [show Value.cells (.int .u64 0)=#[.int .u64 0] from rfl,toList_madeCells_one];simp [dg,zeros]
 rw [e]
def UX (w wr:World) (g:Nat) (es old:List Nat) (k:Nat):Prop:=
 Rw wr g 119 ((old.take k++es.drop k).map dg)∧Below w.heap.size w wr
section
variable {w wr : World} {g : Nat} {es old : List Nat} {k : Nat}
theorem UX.cell (h:UX w wr g es old k) {j:Nat} (hj:j<k) (hk:j<old.length):wr.cell? ⟨g,j,none⟩=some (dg old[j]):=by
 rw [h.1.cell];simp only [List.map_append,List.map_take];rw [List.getElem?_append_left (by simp;omega),List.getElem?_take_of_lt hj];simp [hk]
theorem UX.step (h:UX w wr g es old (k+1)) (hl:es.length=old.length) (hk:k<old.length) (hg:w.heap.size≤g) :
  UX w (wr.setCell ⟨g,k,none⟩ (dg (es[k]'(by omega)))) g es old k:=by
 refine ⟨?_,h.2.setCell hg _⟩
 have:=h.1.set_ k (dg (es[k]'(by omega)))
 rw [List.map_append,List.set_append_left _ _ (by simp;omega),List.take_succ_eq_append_getElem hk,List.map_append,
  List.set_append_right _ _ (by simp;omega)] at this
 have e:k-(List.map dg (List.take k old)).length=0:=by simp;omega
 rw [e] at this;have e2:es.drop k=es[k]'(by omega)::es.drop (k+1):=List.drop_eq_getElem_cons (by omega);rw [e2];simpa only [List.map_append,List.map_cons,List.map_nil,List.set_cons_zero,List.append_assoc,List.cons_append,List.nil_append] using this
end
theorem UX.drew {w wr:World} {g:Nat} {es old:List Nat} {k:Nat} (h:UX w wr g es old k):UX w wr.drew g es old k:=⟨h.1.drew,h.2.drew⟩
theorem old_get {ds old:List Nat} (h:old=ds++[0]) {j:Nat} (hj:j<old.length):old[j]=ds.getD j 0:=by
 subst h
 rcases Nat.lt_or_ge j ds.length with hlt|hge
 ·simp [List.getElem_append_left hlt,hlt]
 ·have:j=ds.length:=by simp at hj;omega
  subst this;simp
theorem ups_at {n:Nat} {ds old es:List Nat} (he:es=ups n 0 ds) (ho:old=ds++[0]) {k:Nat} (h:k<es.length) :
  es[k]=old.getD k 0*2 ^ n % B64+(if k=0 then 0 else old.getD (k-1) 0 / 2 ^ (64-n)):=by
 subst he;have hk:k≤ds.length:=by rw [length_ups] at h;omega
 have hg:∀ j,j≤ds.length→old.getD j 0=ds.getD j 0:=fun j hj=>by
  have hj' : j<old.length:=by rw [ho];simp;omega
  rw [← old_get ho hj'];simp [hj']
 rw [ups_get,hg k hk,hg (k-1) (by omega)]
theorem or_up' (d e n:Nat) (he:e<B64) (h:n<64) :
  bits .or .u64 (IntKind.u64.wrap ((d:Int)*2 ^ n)) ((e:Int) / 2 ^ (64-n))=((d*2 ^ n % B64+e / 2 ^ (64-n):Nat):Int):=by
 have e1:((e:Int) / 2 ^ (64-n))=((e / 2 ^ (64-n):Nat):Int):=by simp
 have e2:IntKind.u64.wrap ((d:Int)*2 ^ n)=((d*2 ^ n % B64:Nat):Int):=by
  rw [IntKind.wrap_u64,B64_eq];simp
 have h1:e / 2 ^ (64-n)<B64:=Nat.lt_of_le_of_lt (Nat.div_le_self _ _) he;have h2:d*2 ^ n % B64<B64:=Nat.mod_lt _ B64_pos;rw [e1,e2,u64_or_nat _ _ h2 h1,or_up he h]
theorem up_any (w:World) (b off dc:Nat) (ds:List Nat) (n:Nat)
  (hd:Ds w b off ds) (hdd:Dig ds) (hn:n<64) (hmax:ds.length≤1000000000000) :
  Calls Tryz.prog 180 #[.slice (some ⟨b,off,none⟩) ds.length dc,.int .u64 n] w
   fun e w'=>e=.returned (.slice (some ⟨w.heap.size,0,none⟩) (ds.length+1) (ds.length+1))∧Rw w' w.heap.size 119 ((ups n 0 ds).map dg)∧Below w.heap.size w w':=by
 have hmk:=make_row (ds.length+1) ((ds.length:Int)+1) (by omega) (by omega);obtain ⟨old,hold⟩:∃ old,old=ds++[0]:=⟨_,rfl⟩;obtain ⟨es,hes⟩:∃ es,es=ups n 0 ds:=⟨_,rfl⟩;have HL:Hid (es.length=ds.length+1):=by rw [hes];exact length_ups n ds 0
 have HO:Hid (old.length=ds.length+1):=by rw [hold];simp [Hid]
 have Hes:=Lib.hid hes;clear hes;have Hold:=Lib.hid hold;clear hold;rw [← Hes.out];have HD:=Lib.hid hd;clear hd;go_enter Tryz.func180,Tryz.ntmps180;go_wp2_with ((with_reducible show wpList _ _ _ _ _ _);refine wpList_copy_splice rfl (.tmp 11) (.tmp 12) _ _ rfl 119 Tryz.underlying147 size64 (some ⟨w.heap.size,0,none⟩) (some ⟨b,off,none⟩) (ds.length+1) (ds.length+1) ds.length dc rfl rfl w.heap.size 0 ((List.replicate (ds.length+1) 0).map dg) 119 (Rw.new _ _ _) (ds.map dg) ?c1 ?c2 ?c3 ?c4 w.heap.size w ?c5 (Nat.le_refl _) ?_)
 case c1=>simp
 case c2 =>
  intro hpos j a hj;have hjl:j<ds.length:=(List.getElem?_eq_some_iff.1 hj).1;have h1:=HD.out j hjl;have hlt:=World.block_lt_of_cell? w _ h1;rw [World.cell?_alloc_lt w _ ⟨b,off+j,none⟩ hlt,h1];rw [List.getElem?_eq_getElem hjl] at hj
  injection hj with hj
  rw [hj]
 case c3=>simp
 case c4=>intro v hv;obtain ⟨x,_,rfl⟩:=List.mem_map.1 hv;rfl
 case c5=>exact (Below.refl _ _).alloc (Nat.le_refl _) _
 intro w2 hg2 hb2;have hsp:splice (List.replicate (ds.length+1) (dg 0)) 0 (ds.map dg)=old.map dg:=by
  rw [Hold.out];simp [splice,List.replicate_succ']
 rw [hsp] at hg2;have h0:UX w w2 w.heap.size es old (ds.length+1):=⟨by
  rw [List.take_of_length_le (by rw [HO.out];exact Nat.le_refl _),List.drop_of_length_le (by rw [HL.out];exact Nat.le_refl _),List.append_nil];exact hg2.out,hb2⟩
 clear hsp hg2 hb2 hmk;go_wp2
 go_loopw [6] (fun i wr=>∃ k:Nat,k≤ds.length∧i=.int .i64 k∧UX w wr w.heap.size es old (k+1))
  (fun i _=>(intOf i).toNat)
 case atStart=>exact ⟨ds.length,Nat.le_refl _,rfl,h0⟩
 case round =>
  clear h0;obtain ⟨k,hk,rfl,hUX⟩:=hrel;have hcd:=hUX.cell (j:=k) (by omega) (by rw [HO.out];omega);have hfr:wr.frozen? ⟨w.heap.size,k,none⟩=false:=hUX.1.frozen _;obtain ⟨d,hdk⟩:∃ d,d=old[k]'(by rw [HO.out];omega):=⟨_,rfl⟩;rw [← hdk] at hcd;have Hd:=Lib.hid hdk;clear hdk;unfold dg at hcd
  by_cases hlt:0<k
  ·have hcd2:=hUX.cell (j:=k-1) (by omega) (by rw [HO.out];omega);obtain ⟨e,hde⟩:∃ e,e=old[k-1]'(by rw [HO.out];omega):=⟨_,rfl⟩;rw [← hde] at hcd2;have He:=Lib.hid hde;clear hde;unfold dg at hcd2;go_wp2
   go_region
   go_wp2;go_roundw
   case rel =>
    refine ⟨k-1,by omega,by go_num,?_⟩;have hes:es[k]'(by rw [HL.out];omega)=d*2 ^ n % B64+e / 2 ^ (64-n):=by
     have h1:=ups_at Hes.out Hold.out (k:=k) (by rw [HL.out];omega);rw [if_neg (by omega)] at h1;rw [h1,Hd.out,He.out];simp [HO.out,show k<ds.length+1 by omega,show k-1<ds.length+1 by omega]
    have heB:e<B64:=by
     rw [He.out,old_get Hold.out]
     have:k-1<ds.length:=by omega
     simp only [List.getD_eq_getElem?_getD,List.getElem?_eq_getElem this,Option.getD_some];exact hdd.get this
    rw [or_up' d e n heB hn,← hes,show k-1+1=k by omega];exact (hUX.step (by rw [HL.out,HO.out]) (by rw [HO.out];omega) (Nat.le_refl _)).drew
   case measure=>simp [intOf];omega
  ·obtain rfl:k=0:=by omega
   go_wp2;go_ret;have hes:es[0]'(by rw [HL.out];omega)=d*2 ^ n % B64:=by
    have h1:=ups_at Hes.out Hold.out (k:=0) (by rw [HL.out];omega);rw [h1,Hd.out];simp [HO.out]
   have hfin:=hUX.step (by rw [HL.out,HO.out]) (by rw [HO.out];omega) (Nat.le_refl _);refine ⟨rfl,?_⟩;have e2:IntKind.u64.wrap ((d:Int)*2 ^ n)=((d*2 ^ n % B64:Nat):Int):=by
    rw [IntKind.wrap_u64,B64_eq];simp
   rw [e2,← hes];refine ⟨?_,hfin.2⟩;have h1:=hfin.1;rw [List.take_zero,List.nil_append,List.drop_zero] at h1;exact h1
def Own64 (w:World) (g cap:Nat) (ds:List Nat):Prop:=∃ T L,Rw w g T L∧ds.length≤cap∧cap=L.length∧cap≤maxLen∧L.take ds.length=ds.map dg
section
variable {w w' : World} {g cap : Nat}
theorem Own64.lt {ds:List Nat} (h:Own64 w g cap ds):g<w.heap.size:=by obtain ⟨_,_,h,_⟩:=h;exact h.lt
theorem Own64.le {ds:List Nat} (h:Own64 w g cap ds):ds.length≤cap:=by obtain ⟨_,_,_,h,_⟩:=h;exact h
theorem Own64.max {ds:List Nat} (h:Own64 w g cap ds):cap≤maxLen:=by obtain ⟨_,_,_,_,_,h,_⟩:=h;exact h
theorem Own64.ds {ds:List Nat} (h:Own64 w g cap ds):Ds w g 0 ds:=by
 obtain ⟨T,L,h,h1,h2,h3,h4⟩:=h;intro i hi;rw [Nat.zero_add,h.cell]
 have:(L.take ds.length)[i]?=(ds.map dg)[i]?:=by rw [h4]
 rw [List.getElem?_take_of_lt hi] at this;rw [this];simp [hi]
theorem Own64.grown {ds:List Nat} {row:Option Nat} (h:Own64 w g cap ds) (hg:w.grownBy w' row) (hne:some g≠row):Own64 w' g cap ds:=by
 obtain ⟨T,L,h,r⟩:=h;exact ⟨T,L,h.grown hg hne,r⟩
theorem Own64.below {ds:List Nat} {B:Nat} (h:Own64 w g cap ds) (hb:Below B w w') (hlt:g<B):Own64 w' g cap ds:=by
 obtain ⟨T,L,h,r⟩:=h;exact ⟨T,L,h.below hb hlt,r⟩
theorem Own64.alloc {ds:List Nat} (h:Own64 w g cap ds) (o:Obj):Own64 (w.alloc o) g cap ds:=by
 obtain ⟨T,L,h,r⟩:=h;exact ⟨T,L,h.alloc o,r⟩
theorem Own64.parts {ds:List Nat} (h:Own64 w g cap ds):∃ T post,Rw w g T ([]++ds.map dg++post)∧cap=ds.length+post.length∧cap≤maxLen:=by
 obtain ⟨T,L,h,h1,h2,h3,h4⟩:=h;refine ⟨T,L.drop ds.length,?_,by simp;omega,h3⟩;rw [List.nil_append,← h4,List.take_append_drop];exact h
theorem Own64.of_parts {ds:List Nat} {T:TypeId} {post:List Value} (h:Rw w g T ([]++ds.map dg++post)) (hc:cap=ds.length+post.length) (hm:cap≤maxLen):Own64 w g cap ds:=
 ⟨T,_,h,by omega,by simp [hc],hm,by simp⟩
theorem Own64.empty {T:TypeId} {L:List Value} (h:Rw w g T L) (hm:L.length≤maxLen):Own64 w g L.length []:=⟨T,L,h,Nat.zero_le _,rfl,hm,by simp [List.take_zero]⟩
end
theorem addr_add0 (g j:Nat):(⟨g,0,none⟩:Addr).add j=⟨g,j,none⟩:=by unfold Addr.add;split <;> simp_all
theorem run_append_digit (w:World) (ty:TypeId) (g cap:Nat) (ds:List Nat) (n:Nat) (hn:ds.length=n) (h:Own64 w g cap ds) (a:Addr) (x c:Nat) (hx:∀ j u,[dg x][j]?=some u→w.cell? (a.add j)=some u) (hmax:n≤10000000000000) :
  ∃ g' cap' w',(Builtin.append_ #[147,147] ty #[.slice (some ⟨g,0,none⟩) n cap,.slice (some a) 1 c]).run Tryz.prog w=.ok (.slice (some ⟨g',0,none⟩) (n+1) cap') w' ∧
   Own64 w' g' cap' (ds++[x])∧w.grownBy w' (some g)∧(g'=g∨g'=w.heap.size):=by
 subst hn;obtain ⟨i,hi,hz,hs,hb⟩:=info_parts info64;obtain ⟨T,L,hR,h1,h2,h3,h4⟩:=h;have h1c:∀ u∈[dg x],u.oneCell'=true:=by intro u hu;simp at hu;subst hu;rfl
 by_cases hroom:ds.length+1≤cap
 ·have hf:=run_firstCells_some (P:=Tryz.prog) w i.size 1 a 1 c [dg x] (by simp [hs]) hx;have hst:=run_storeCells_at Tryz.prog g (ds.length*i.size) T [dg x] 0 L.toArray w hR (by simp [hs];omega) h1c;simp only [Nat.add_zero] at hst;refine ⟨g,cap,w.setRow g (L.take ds.length++[dg x]++L.drop (ds.length+1)).toArray,?_,⟨T,L.take ds.length++[dg x]++L.drop (ds.length+1),?_,by simpa using hroom,?_,h3,?_⟩,?_,.inl rfl⟩
  ·rw [hs,Nat.mul_one] at hst;simp only [hs] at hf;simp [Builtin.append_,run_underlying Tryz.underlying147,sizeOf,typeInfo,hi,Builtin.lenOf,hroom,hs,hf,Addr.add_lit,hst]
  ·exact setRow_heap w g L.toArray _ T _ hR
  ·simp;omega
  ·rw [List.length_append,List.length_singleton,List.take_left' (by rw [List.length_append,List.length_take,List.length_singleton];omega),h4];simp
  ·exact ⟨rfl,rfl,rfl,by simp,fun k _ hk=>setRow_other w g k _ (fun e=>hk (by rw [e]))⟩
 ·have hcap:cap=ds.length:=by omega
  have hold:∀ j u,(ds.map dg)[j]?=some u→w.cell? ((⟨g,0,none⟩:Addr).add j)=some u:=by
   intro j u hj;rw [addr_add0,hR.cell,← hj,← h4,List.getElem?_take_of_lt]
   have:=(List.getElem?_eq_some_iff.1 hj).1
   simpa using this
  have hr:=run_append_grow (P:=Tryz.prog) w 147 ty 119 i _ Tryz.underlying147 hi hz ⟨g,0,none⟩ ds.length cap (ds.map dg) (by rw [List.length_map,hs,Nat.mul_one]) hold a 1 c [dg x] (by simp [hs]) hx (by omega) (by omega) (growslice_fits (by omega) (by rw [hb];omega));have hZs:=size_zeroCells (Value.cells (.int .u64 0)) (grownCap w (ds.length+1) cap 119-(ds.length+1));have hge:=grownCap_ge w (ds.length+1) cap 119;have hle:=grownCap_le_maxLen w (ds.length+1) cap 119 (by unfold maxLen;omega);rw [show (Value.cells (.int .u64 0)).size=1 from rfl,Nat.mul_one] at hZs;generalize Builtin.zeroCells (Value.cells (.int .u64 0)) (grownCap w (ds.length+1) cap 119-(ds.length+1))=Z at hr hZs;generalize grownCap w (ds.length+1) cap 119=G at *;have hL:(ds.map dg).toArray++[dg x].toArray++Z=(ds.map dg++[dg x]++Z.toList).toArray:=by
   apply Array.ext';simp
  rw [hL] at hr;refine ⟨_,_,_,hr,⟨119,ds.map dg++[dg x]++Z.toList,heap_alloc_new w.drew _,?_,?_,hle,?_⟩,⟨rfl,rfl,rfl,by simp,fun k hk _=>Below.heap_alloc w.drew _ k hk⟩,.inr rfl⟩
  ·rw [List.length_append,List.length_singleton];exact hge
  ·have hz' : Z.toList.length=Z.size:=Array.length_toList;rw [List.length_append,List.length_append,List.length_map,List.length_singleton,hz'];omega
  ·rw [List.length_append,List.length_singleton,List.take_left' (by simp)];simp
theorem minusTimes_any (w:World) (db doff dc xb xoff xc:Nat) (T:TypeId) (pre post:List Value) (ds xs:List Nat) (n:Nat)
  (hd:Rw w db T (pre++ds.map dg++post)) (hpre:pre.length=doff) (hx:Ds w xb xoff xs) (hne:xb≠db) (hdd:Dig ds) (hdx:Dig xs) (hn:n<B64)
  (hle:xs.length≤ds.length) (hmax:ds.length≤1000000000000) :
  Calls Tryz.prog 183 #[.slice (some ⟨db,doff,none⟩) ds.length dc,.slice (some ⟨xb,xoff,none⟩) xs.length xc,.int .u64 n] w
   fun e w'=>∃ (es:List Nat) (o:Nat),e=.returned (.int .u64 o)∧Rw w' db T (pre++es.map dg++post)∧w.grownBy w' (some db)∧es.length=ds.length∧Dig es∧o<B64 ∧
    val es+n*val xs=val ds+B64 ^ ds.length*o:=by
 subst hpre;have hPT0:PT w w db T pre post ds (RM (val (ds.take 0)) (n*val (xs.take 0)) 0 0) 0 0:=⟨[],rfl,Dig.nil,B64_pos,by simpa using hd,World.grownBy.refl w _,by simp [val,RM]⟩;go_enter Tryz.func183,Tryz.ntmps183;go_wp2
 go_loopw [7,16] (fun o i wr=>∃ k ov:Nat,k≤xs.length∧i=.int .i64 k∧o=.int .u64 ov∧PT w wr db T pre post ds (RM (val (ds.take k)) (n*val (xs.take k)) k ov) k ov)
  (fun _ i _=>xs.length-(intOf i).toNat)
 case atStart=>exact ⟨0,0,Nat.zero_le _,rfl,rfl,hPT0⟩
 case round =>
  obtain ⟨k,ov,hk,rfl,rfl,hPT⟩:=hrel
  by_cases hlt:k<xs.length
  ·have hcx:wr.cell? ⟨xb,xoff+k,none⟩=some (dg xs[k]):=by
    exact (hx.grown hPT.grown (by simpa using hne)) k hlt
   have hcd:=hPT.cell (show k<ds.length by omega);have hfr:wr.frozen? ⟨db,pre.length+k,none⟩=false:=hPT.frozen _;have hov:ov<B64:=hPT.lt;have hmB:=hdx.get hlt;have hdB:=hdd.get (show k<ds.length by omega);obtain ⟨m,hm⟩:∃ m,m=xs[k]:=⟨_,rfl⟩;obtain ⟨d,hdk⟩:∃ d,d=ds[k]'(by omega):=⟨_,rfl⟩;rw [← hm] at hcx hmB;rw [← hdk] at hcd hdB;have Hm:=Lib.hid hm;clear hm;have Hd:=Lib.hid hdk;clear hdk;unfold dg at hcx hcd;have hkd:k<ds.length:=by omega
   go_wp2_with (first
    | (go_at_call 187;refine (mul64_any m n hmB hn _).mono ?_;rintro e w' ⟨hi,lo,rfl,hmul,rfl⟩;obtain ⟨s1,c1,hr1,hs1⟩:=add64_ex lo ov hmul.2.1 hov;obtain ⟨s2,c2,hr2,hs2⟩:=sub64_ex d s1 hdB hs1.2.1;have hdig:=digit_minus hdB hmB hn hov hmul.1 hmul.2.1 hs1.1 hs1.2.1 hs2.1 hs2.2.1;have hw1:=wrap_u64 hi c1 hdig.1;have hw2:=wrap_u64' hi c1 c2 hdig.2.1;have Hdig:=Lib.hid hdig;clear hdig)
    )
   go_roundw
   case rel =>
    obtain ⟨_,g2,g3⟩:=Hdig.out;refine ⟨k+1,hi+c1+c2,by omega,by go_num,by go_num,?_⟩;rw [take_succ_val ds hkd,take_succ_val xs hlt,← Hm.out,← Hd.out];exact hPT.step hkd hs2.2.1 g2 fun E hE=>minus_step (o':=hi+c1+c2) hE g3
   case measure=>simp [intOf];omega
  ·have hkx:k=xs.length:=by omega
   subst hkx;rw [List.take_length] at hPT;have hPT2:PT w wr db T pre post ds (RM (val (ds.take xs.length)) (n*val xs) xs.length ov) xs.length ov:=hPT;clear hPT hPT0 hlt;go_wp2
   go_loopw [7,13] (fun o i wr=>∃ k ov:Nat,k≤ds.length∧i=.int .i64 k∧o=.int .u64 ov∧PT w wr db T pre post ds (RM (val (ds.take k)) (n*val xs) k ov) k ov)
    (fun _ i _=>ds.length-(intOf i).toNat)
   case atStart=>exact ⟨xs.length,ov,hle,rfl,rfl,hPT2⟩
   case round =>
    clear hPT2;obtain ⟨k,ov,hk,rfl,rfl,hPT⟩:=hrel
    by_cases ho:ov=0
    ·subst ho;go_wp2;go_ret;obtain ⟨es,e1,e2,e3,e4,E,e5,e6⟩:=hPT.done hk hdd;exact ⟨es,0,rfl,e1,e2,e3,e4,B64_pos,by rw [e5,val_split ds k hk];exact e6.done (.inl rfl)⟩
    ·by_cases hlt:k<ds.length
     ·have hcd:=hPT.cell hlt;have hfr:wr.frozen? ⟨db,pre.length+k,none⟩=false:=hPT.frozen _;have hov:ov<B64:=hPT.lt;have hdB:=hdd.get hlt;obtain ⟨d,hdk⟩:∃ d,d=ds[k]:=⟨_,rfl⟩;rw [← hdk] at hcd hdB;have Hd:=Lib.hid hdk;clear hdk;unfold dg at hcd;obtain ⟨s2,c2,hr2,hs2⟩:=sub64_ex d ov hdB hov;go_wp2;go_roundw
      case rel =>
       refine ⟨k+1,c2,by omega,by go_num,by go_num,?_⟩;rw [take_succ_val ds hlt,← Hd.out];exact hPT.step hlt hs2.2.1 (Nat.lt_of_le_of_lt hs2.2.2 (by unfold B64;omega)) fun E hE=>hE.step hs2
      case measure=>simp [intOf];omega
     ·go_wp2;go_ret;have hke:k=ds.length:=by omega
      obtain ⟨es,e1,e2,e3,e4,E,e5,e6⟩:=hPT.done hk hdd;exact ⟨es,ov,rfl,e1,e2,e3,e4,hPT.lt,by rw [e5,val_split ds k hk];exact e6.done (.inr hke)⟩
theorem minusTimes_at {w:World} {db doff dc xb xoff xc dl xl:Nat} {T:TypeId} {pre post:List Value} {ds xs:List Nat} {n:Nat}
  (hdl:ds.length=dl) (hxl:xs.length=xl) (hd:Rw w db T (pre++ds.map dg++post)) (hpre:pre.length=doff) (hx:Ds w xb xoff xs) (hne:xb≠db) (hdd:Dig ds) (hdx:Dig xs) (hn:n<B64)
  (hle:xs.length≤ds.length) (hmax:ds.length≤1000000000000) :
  Calls Tryz.prog 183 #[.slice (some ⟨db,doff,none⟩) dl dc,.slice (some ⟨xb,xoff,none⟩) xl xc,.int .u64 n] w
   fun e w'=>∃ (es:List Nat) (o:Nat),e=.returned (.int .u64 o)∧Rw w' db T (pre++es.map dg++post)∧w.grownBy w' (some db)∧es.length=dl∧Dig es∧o<B64 ∧
    val es+n*val xs=val ds+B64 ^ dl*o:=by
 subst hdl;subst hxl;exact minusTimes_any w db doff dc xb xoff xc T pre post ds xs n hd hpre hx hne hdd hdx hn hle hmax
theorem plusTimes_at {w:World} {db doff dc xb xoff xc dl xl:Nat} {T:TypeId} {pre post:List Value} {ds xs:List Nat} {n:Nat}
  (hdl:ds.length=dl) (hxl:xs.length=xl) (hd:Rw w db T (pre++ds.map dg++post)) (hpre:pre.length=doff) (hx:Ds w xb xoff xs) (hne:xb≠db) (hdd:Dig ds) (hdx:Dig xs) (hn:n<B64)
  (hle:xs.length≤ds.length) (hmax:ds.length≤1000000000000) :
  Calls Tryz.prog 179 #[.slice (some ⟨db,doff,none⟩) dl dc,.slice (some ⟨xb,xoff,none⟩) xl xc,.int .u64 n] w
   fun e w'=>∃ (es:List Nat) (o:Nat),e=.returned (.int .u64 o)∧Rw w' db T (pre++es.map dg++post)∧w.grownBy w' (some db)∧es.length=dl∧Dig es∧o<B64 ∧
    val es+B64 ^ dl*o=val ds+n*val xs:=by
 subst hdl;subst hxl;exact plusTimes_any w db doff dc xb xoff xc T pre post ds xs n hd hpre hx hne hdd hdx hn hle hmax
theorem wpList_append_digit {w:World} {ops:Array Oper} {rest:List Oper} {o:Oper} {a:Act} {Q:Exit→Act→World→Prop} (hgd:o.guard=none) (s y:Operand)
  (ho:o.op=.call { callee:=.builtin .append,args:=#[s,y],argTypes:=#[147,147] })
  (g cap:Nat) (ds:List Nat) (n:Nat) (hs:a.eval s=.slice (some ⟨g,0,none⟩) n cap) (hn:ds.length=n) (h:Own64 w g cap ds) (b:Addr) (x c:Nat) (hy:a.eval y=.slice (some b) 1 c)
  (hx:∀ j u,[dg x][j]?=some u→w.cell? (b.add j)=some u) (hmax:n≤10000000000000)
  (hk:∀ g' cap' w',Own64 w' g' cap' (ds++[x])→w.grownBy w' (some g)→(g'=g∨g'=w.heap.size)→wpList Tryz.prog ops Q rest (a.put o.dst (.slice (some ⟨g',0,none⟩) (n+1) cap')) w'):wpList Tryz.prog ops Q (o::rest) a w:=by
 refine wpList_plain hgd fun K hK=>?_;obtain ⟨g',cap',w',hr,h2,h3,h4⟩:=run_append_digit w o.type g cap ds n hn h b x c hx hmax;unfold Oper.wp execOp;simp only [ho,resolve,invoke,builtin,Sem.run_bind,Sem.run_pure,Result.andThen_ok,List.map_toArray,List.map_cons,List.map_nil,hs,hy,hr];exact hK _ _ (hk g' cap' w' h2 h3 h4)
def lenP:Value→Nat | .slice _ n _=>n|_=>0
theorem one_digit (w:World) (x:Nat):∀ j u,[dg x][j]?=some u→(w.alloc (.cells #[.int .u64 (x:Int)] 119)).cell? ((⟨w.heap.size,0,none⟩:Addr).add j)=some u:=by
 intro j u hj;have h:=(Rw.new w 119 [dg x]).cell j;rw [addr_add0];exact h.trans hj
theorem grown_new {a b c:World} {g g1:Nat} (h:a.grownBy b (some g)) (k:b.grownBy c (some g1)) (hg:g1=g∨a.heap.size≤g1):a.grownBy c (some g):=
 ⟨k.os.trans h.os,k.tape.trans h.tape,k.output.trans h.output,Nat.le_trans h.size k.size,fun i hi hne =>
  (k.block i (Nat.lt_of_lt_of_le hi h.size) (by simp at hne ⊢;omega)).trans (h.block i hi hne)⟩
def PL (w wr:World) (g m:Nat) (ds:List Nat) (g1 cap1:Nat) (ds1:List Nat):Prop:=
 Own64 wr g1 cap1 ds1∧w.grownBy wr (some g)∧(g1=g∨w.heap.size≤g1)∧Dig ds1∧val ds1=val ds∧ds1.length≤max ds.length m
theorem plus_any (w:World) (g cap n xb m xc:Nat) (ds xs:List Nat) (hd:Own64 w g cap ds) (hn:ds.length=n) (hx:Ds w xb 0 xs) (hxl:xs.length=m) (hne:xb≠g) (hxb:xb<w.heap.size) (hdd:Dig ds) (hdx:Dig xs) (hmax:n≤100000000000) (hmax2:m≤100000000000) :
  Calls Tryz.prog 189 #[.slice (some ⟨g,0,none⟩) n cap,.slice (some ⟨xb,0,none⟩) m xc] w
   fun e w'=>∃ g' cap' es,e=.returned (.slice (some ⟨g',0,none⟩) es.length cap')∧Own64 w' g' cap' es∧w.grownBy w' (some g)∧(g'=g∨w.heap.size≤g')∧Dig es∧val es=val ds+val xs∧es.length≤max n m+1:=by
 have hP:PL w w g m ds g cap ds:=⟨hd,World.grownBy.refl w _,.inl rfl,hdd,rfl,by omega⟩;have HX:=Lib.hid (And.intro hxl hx);clear hxl hx;subst hn;go_enter Tryz.func189,Tryz.ntmps189;go_wp2
 go_loopw [0] (fun v wr=>∃ (g1 cap1:Nat) (ds1:List Nat),v=.slice (some ⟨g1,0,none⟩) ds1.length cap1∧PL w wr g m ds g1 cap1 ds1)
  (fun v _=>m-lenP v)
 case atStart=>exact ⟨g,cap,ds,rfl,hP⟩
 case round =>
  clear hP;obtain ⟨g1,cap1,ds1,rfl,hP⟩:=hrel;obtain ⟨p1,p2,p3,p4,p5,p6⟩:=hP;have P5:=Lib.hid p5;clear p5;have hne1:xb≠g1:=by rcases p3 with h|h <;> omega
  by_cases hlt:ds1.length<m
  ·go_wp2_with (first
    | (at_builtin;refine wpList_append_digit rfl (.tmp 10) (.tmp 11) rfl g1 cap1 ds1 ds1.length rfl rfl (p1.alloc _) ⟨wr.heap.size,0,none⟩ 0 1 rfl (one_digit wr 0) (by omega) ?_))
   intro g2 cap2 w2 hO2 hg2 ha2;have hsz:=p2.size;have hP2:PL w w2 g m ds g2 cap2 (ds1++[0]):=by
    refine ⟨hO2,grown_new p2 (grown_trans (World.grownBy_alloc wr _ (some g1)) hg2) p3,?_,p4.snoc B64_pos,by rw [val_snoc,Nat.mul_zero,Nat.add_zero];exact P5.out,by simp;omega⟩
    rcases ha2 with h|h
    ·rw [h];exact p3
    ·omega
   clear hO2 hg2 ha2;go_wp2;go_roundw
   case rel=>exact ⟨g2,cap2,ds1++[0],by simp,hP2⟩
   case measure=>simp [lenP];omega
  ·have hle:m≤ds1.length:=by omega
   have hpre:([]:List Value).length=0:=rfl;obtain ⟨T,post,hR,hcp,hcm⟩:=p1.parts;have hxw:Ds wr xb 0 xs:=HX.out.2.grown p2 (by simpa using hne);have HCP:=Lib.hid hcp;clear hcp;go_wp2_with fail;refine (plusTimes_at (n:=1) rfl HX.out.1 hR rfl hxw hne1 p4 hdx (by unfold B64;omega) (by rw [HX.out.1];omega) (by omega)).mono ?_;rintro e w2 ⟨es,o,rfl,hR2,hg2,hel,hed,ho,hval⟩;rw [Nat.one_mul,P5.out] at hval;have hO2:Own64 w2 g1 cap1 es:=Own64.of_parts hR2 (by rw [hel,HCP.out]) hcm;have hgg:=grown_new p2 hg2 p3;have HE:=Lib.hid (And.intro hel hval);clear hel hval
   by_cases ho0:o=0
   ·subst ho0;go_wp2;go_ret;exact ⟨g1,cap1,es,by rw [HE.out.1];rfl,hO2,hgg,p3,hed,by have:=HE.out.2;simpa using this,by rw [HE.out.1];omega⟩
   ·have tno:((o:Int) != 0)=true:=by rw [bne_iff_ne];omega
    have ho1:o=1:=by
     have h1:=val_lt hed;have h2:=HE.out.2;have h3:=val_lt p4;have h4:=val_lt hdx;rw [P5.out] at h3;rw [HX.out.1] at h4;have h5:B64 ^ m≤B64 ^ ds1.length:=Nat.pow_le_pow_right B64_pos hle
     rcases Nat.lt_or_ge o 2 with h|h
     ·omega
     ·have:B64 ^ ds1.length*2≤B64 ^ ds1.length*o:=Nat.mul_le_mul_left _ h
      omega
    have hel:=HE.out.1;have hne2:es.length=ds1.length:=hel;clear hel;have HN:=Lib.hid hne2;clear hne2;go_wp2_with (first
     | (at_builtin;refine wpList_append_digit rfl (.tmp 17) (.tmp 18) rfl g1 cap1 es ds1.length rfl HN.out (hO2.alloc _) ⟨w2.heap.size,0,none⟩ 1 1 rfl (one_digit w2 1) (by omega) ?_))
    intro g3 cap3 w3 hO3 hg3 ha3;have hsz:=hgg.size;have hg4:=grown_new hgg (grown_trans (World.grownBy_alloc w2 _ (some g1)) hg3) p3;have hP3:g3=g∨w.heap.size≤g3:=by
     rcases ha3 with h|h
     ·rw [h];exact p3
     ·omega
    clear hg3 ha3;go_wp2;go_ret;refine ⟨g3,cap3,es++[1],by rw [List.length_append,HN.out];rfl,hO3,hg4,hP3,hed.snoc (by unfold B64;omega),?_,by rw [List.length_append,HN.out];simp;omega⟩;rw [val_snoc,HN.out]
    have:=HE.out.2
    rw [ho1] at this;exact this
theorem grow_any (w:World) (g cap n k:Nat) (ds:List Nat) (hd:Own64 w g cap ds) (hn:ds.length=n) (hmax:n≤1000000000000) (hk:k≤1000000000000) :
  Calls Tryz.prog 158 #[.slice (some ⟨g,0,none⟩) n cap,.int .i64 k] w
   fun e w'=>∃ g' cap',e=.returned (.slice (some ⟨g',0,none⟩) n cap')∧Own64 w' g' cap' ds∧w.grownBy w' (some g)∧(g'=g∨w.heap.size≤g'):=by
 obtain ⟨i,hi,hz,hs,hb⟩:=info_parts info64;have hcm:=hd.max;unfold maxLen at hcm
 by_cases hroom:n+k≤cap
 ·refine (Any8.slices_Grow_room Tryz.laysGrow (some ⟨g,0,none⟩) n cap k w (by omega) hcm (by omega) hroom).mono ?_;rintro e w' ⟨rfl,rfl⟩;exact ⟨g,cap,rfl,hd,World.grownBy.refl _ _,.inl rfl⟩
 ·obtain ⟨T,L,hR,h1,h2,h3,h4⟩:=hd;have hcs:∀ a,(some (⟨g,0,none⟩:Addr))=some a→∀ j v,L[j]?=some v→w.cell? (a.add j)=some v:=by
   intro a ha j v hj;rw [← Option.some.inj ha,addr_add0,hR.cell];exact hj
  refine (Any8.slices_Grow_grow Tryz.laysGrow i _ hi hz (by omega) (some ⟨g,0,none⟩) n cap k L w (by omega) (by omega) (by rw [hb];omega) (by omega) (by rw [hs];omega) (by intro h;cases h) hcs).mono ?_;rintro e w' ⟨rfl,rfl⟩;have hge:=grownCap_ge w (n+k) cap 119;have hle:=grownCap_le_maxLen w (n+k) cap 119 (by unfold maxLen;omega);show ∃ g' cap',Ending.returned (.slice (some ⟨w.heap.size,0,none⟩) n (grownCap w (n+k) cap 119))=_ ∧
   Own64 (w.drew.alloc (.cells (L.toArray++Builtin.zeroCells (Value.cells (.int .u64 0)) (n+k-cap)++Builtin.zeroCells (Value.cells (.int .u64 0)) (grownCap w (n+k) cap 119-(n+k))) 119)) g' cap' ds∧_∧_
  have hZ1:=size_zeroCells (Value.cells (.int .u64 0)) (n+k-cap);have hZ2:=size_zeroCells (Value.cells (.int .u64 0)) (grownCap w (n+k) cap 119-(n+k));rw [show (Value.cells (.int .u64 0)).size=1 from rfl,Nat.mul_one] at hZ1 hZ2;generalize Builtin.zeroCells (Value.cells (.int .u64 0)) (n+k-cap)=Z1 at *;generalize Builtin.zeroCells (Value.cells (.int .u64 0)) (grownCap w (n+k) cap 119-(n+k))=Z2 at *;generalize grownCap w (n+k) cap 119=G at *;have hL:L.toArray++Z1++Z2=(L++Z1.toList++Z2.toList).toArray:=by apply Array.ext';simp
  rw [hL];refine ⟨w.heap.size,G,rfl,⟨119,L++Z1.toList++Z2.toList,heap_alloc_new w.drew _,by omega,?_,hle,?_⟩,⟨rfl,rfl,rfl,by simp,fun k hk _=>Below.heap_alloc w.drew _ k hk⟩,.inr (Nat.le_refl _)⟩
  ·have e1:Z1.toList.length=Z1.size:=Array.length_toList;have e2:Z2.toList.length=Z2.size:=Array.length_toList;rw [List.length_append,List.length_append,e1,e2];omega
  ·rw [List.append_assoc,List.take_append_of_le_length (by omega)];exact h4
end Go.Proofs.YtemedphcafgolaaGreatDoor
