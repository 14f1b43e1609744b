/- Layer 1, laid together: DRound, DJoinNum. -/
import Derived.TacticsIn
import Derived.Test.YtiddgplapodleaaGreatDoorDParts
/- A region that draws its order,in a round of a range over a function: what holds of it outside a round holds there too. -/
namespace Go.Proofs.YtiddgplapodleaaGreatDoor
open Go.RowKit Go.Shelf
def noDefer (ops:Array Oper):Bool:=ops.all fun o=>match o.op with | .defer _=>false|_=>true
theorem noDefer_spec {ops:Array Oper} (h:noDefer ops=true) {i:Nat} {o:Oper} (ho:ops[i]?=some o):∀ c,o.op≠.defer c:=by
 intro c e;obtain ⟨hlt,rfl⟩:=Array.getElem?_eq_some_iff.1 ho;have h1:=(Array.all_eq_true.1 h) i hlt;rw [e] at h1
 cases h1
section
variable {P : Program} {l n : Nat} {Q : Exit→Act→World→Prop} {ops : Array Oper} {md : Region.Mode}
theorem rows_round {row:String} {args:Array Value} {w:World} {R:Value→World→Prop} (h:Rows P row args w R):RowsIn (Fence.wide.inRound l) n P row args w R:=
 fun c cs _=>let ⟨v,w',r,s⟩:=h c cs;⟨v,w',r,stepsIn_wide.2 s⟩
theorem oper_round {o:Oper} {a:Act} {w:World} {K:Act→World→Prop} (hd:∀ c,o.op≠.defer c) (h:o.wp P a w K Q):o.wpIn (Fence.wide.inRound l) n P a w K Q:=by
 refine ⟨fun _ _=>trivial,?_⟩;rw [Fence.inRound_round,Oper.semAt_some l _ _ hd];unfold Oper.wp at h;generalize (execOp a.eval o).run P w=r at *
 cases r with
 | ok x w' =>
  cases x <;> simp only [Oper.upon,Oper.uponIn] at h ⊢ <;>
   first
    | exact h
    | exact ⟨(fun e=>by cases e),CallsIn.inRound l (callsIn_wide.2 h)⟩
    | exact ⟨(fun e=>by cases e),rows_round h⟩
 | halt x w'=>cases x <;> simp only [Oper.upon,Oper.uponIn] at h ⊢ <;> exact h
theorem op_round {i:Nat} {a:Act} {w:World} {K K' : Act→World→Prop} (hd:noDefer ops=true) (hL:¬ LetsOut Q) (hK:∀ a w,K a w→K' a w) (h:wpOp P ops Q i K a w):wpOpIn (Fence.wide.inRound l) n P ops Q i K' a w:=by
 unfold wpOp at h;unfold wpOpIn
 cases ho:ops[i]? with
 | none=>rw [ho] at h;exact hK _ _ h
 | some o =>
  rw [ho] at h;simp only at h ⊢
  split
  ·rename_i hw
   simp only [hw,if_true] at h
   rcases h with h|h
   ·exact Oper.wpIn_mono hK (oper_round (noDefer_spec hd ho) h)
   ·exact absurd h.2 hL
  ·rename_i hw
   simp only [hw] at h;exact ⟨fun _ _=>trivial,hK _ _ h⟩
theorem any_round (hd:noDefer ops=true) (hL:¬ LetsOut Q):∀ (fuel:Nat) (L:Array Bool) (a:Act) (w:World),wpAny P md ops Q fuel L a w→wpAnyIn (Fence.wide.inRound l) n P md ops Q fuel L a w
 | 0,_,_,_,h=>h
 | fuel+1,_,_,_,h=>⟨h.1,fun i hi=>op_round hd hL (any_round hd hL fuel _) (h.2 i hi)⟩
theorem region_round {id:Nat} {a:Act} {w:World} (S:World→Prop) (hm:P.follows .mixedOrders=true) (hd:noDefer ops=true) (hL:¬ LetsOut Q)
  (h:wpAnyH P .any ops Q S ops.size (Array.replicate ops.size false) a w.drew):(Code.region id ops true).wpIn (Fence.wide.inRound l) n P Q a w:=
 wpIn_region_any hm (any_round hd hL _ _ _ _ (wpAny_of_held _ _ _ _ h))
theorem region_dag_round {id:Nat} {a:Act} {w:World} (S:World→Prop) (I:Nat→Array Bool→Act→World→Prop) (hm:P.follows .mixedOrders=true) (hd:noDefer ops=true) (hL:¬ LetsOut Q)
  (h0:I ops.size (Array.replicate ops.size false) a w.drew)
  (hstep:∀ f L a w,I f L a w→Hid (∀ f' L' a' w',f'<f→I f' L' a' w'→wpAnyH P .any ops Q S f' L' a' w')→wpAnyH P .any ops Q S f L a w):(Code.region id ops true).wpIn (Fence.wide.inRound l) n P Q a w:=
 region_round S hm hd hL (dag_all I hstep _ _ _ _ h0)
end
def valS (s:Nat):List Nat→Nat
 | []=>0
 | a::l=>a+s*valS s l
def pairN (s:Nat):List Nat→List Nat
 | a::b::l=>(a+s*b)::pairN s l
 | l=>l
theorem pairN_val (s:Nat):∀ l:List Nat,valS (s*s) (pairN s l)=valS s l
 | []=>rfl
 | [a]=>rfl
 | a::b::l=>by
  rw [pairN,valS,pairN_val s l,valS,valS,Nat.mul_add,Nat.mul_assoc];omega
theorem pairN_len (s:Nat):∀ l:List Nat,(pairN s l).length=(l.length+1) / 2
 | []=>rfl
 | [a]=>by simp [pairN]
 | a::b::l=>by
  rw [pairN,List.length_cons,pairN_len s l,List.length_cons,List.length_cons];omega
theorem pairN_two (s:Nat):∀ (l:List Nat) (k:Nat) (h:2*k+1<l.length) (h' : k<(pairN s l).length),(pairN s l)[k]=l[2*k]+s*l[2*k+1]
 | [],k,h,_=>by simp at h
 | [a],k,h,_=>by simp at h
 | a::b::l,0,h,_=>rfl
 | a::b::l,k+1,h,h'=>by
  have:=pairN_two s l k (by simp at h;omega) (by simpa [pairN] using h')
  simp only [pairN,List.getElem_cons_succ,this,show 2*(k+1)=2*k+1+1 by omega]
theorem pairN_one (s:Nat):∀ (l:List Nat) (k:Nat) (h:2*k+1=l.length) (h' : k<(pairN s l).length),(pairN s l)[k]=l[2*k]'(by omega)
 | [],k,h,_=>by simp at h
 | [a],k,h,_=>by
  have:k=0:=by simp at h;omega
  subst this;rfl
 | a::b::l,0,h,_=>by simp at h
 | a::b::l,k+1,h,h'=>by
  have:=pairN_one s l k (by simp at h;omega) (by simpa [pairN] using h')
  simp only [pairN,List.getElem_cons_succ,this,show 2*(k+1)=2*k+1+1 by omega]
theorem valS_le {s:Nat} (hs:0<s):∀ (l:List Nat) (x:Nat),x∈l→x≤valS s l
 | [],x,h=>by simp at h
 | a::l,x,h=>by
  rw [valS]
  rcases List.mem_cons.1 h with rfl|h
  ·exact Nat.le_add_right _ _
  ·have h1:=valS_le hs l x h;have h2:valS s l≤s*valS s l:=Nat.le_mul_of_pos_left _ hs;omega
def np (n:Nat):IV:=(false,fb n)
theorem row_np {l:List IV} (h:partsOk l):l=(l.map fun x=>num x.2).map np:=by
 rw [List.map_map]
 conv=>lhs;rw [← List.map_id l]
 refine List.map_congr_left fun x hx=>?_;obtain ⟨h1,_,m,hm⟩:=h x hx;show x=(false,fb (num x.2));rw [← hm,num_fb,hm];exact Prod.ext h1 rfl
theorem rowV_valS:∀ (n:Nat) (l:List IV),l.length=n→rowV l=valS (10 ^ 18) ((l.reverse).map fun x=>num x.2)
 | 0,l,h=>by rw [List.length_eq_zero_iff.1 h];rfl
 | n+1,l,h=>by
  obtain ⟨m,x,rfl⟩:∃ m x,l=m++[x]:=⟨l.dropLast,l.getLast (by rintro rfl;simp at h),(List.dropLast_concat_getLast _).symm⟩;rw [rowV_snoc,rowV_valS n m (by simpa using h),List.reverse_append,List.reverse_singleton,List.singleton_append,List.map_cons,valS,Nat.mul_comm,Nat.add_comm]
end Go.Proofs.YtiddgplapodleaaGreatDoor
