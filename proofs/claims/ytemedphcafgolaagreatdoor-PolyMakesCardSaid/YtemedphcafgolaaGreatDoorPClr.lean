/- clear of a row of terms of the program's own. No function is walked in this text. -/
import Derived.Test.YtemedphcafgolaaGreatDoorPOwn
namespace Go.Proofs.YtemedphcafgolaaGreatDoor
open Go.RowKit Go.Shelf Go.Lib
theorem zeroT_one (n:Nat):∀ v∈(Builtin.zeroCells (Value.cells (.agg #[.string ⟨#[]⟩,.bool false,.string ⟨#[]⟩,.int .i64 0])) n).toList,v.oneCell'=true:=by
 intro v hv;have hz:Value.cells (.agg #[.string ⟨#[]⟩,.bool false,.string ⟨#[]⟩,.int .i64 0])=#[.string ⟨#[]⟩,.bool false,.string ⟨#[]⟩,.int .i64 0]:=rfl;rw [hz] at hv;simp [Builtin.zeroCells] at hv;obtain ⟨a,-,rfl⟩:=hv
 rcases (show a % 4=0∨a % 4=1∨a % 4=2∨a % 4=3 by omega) with h|h|h|h <;> rw [h] <;> rfl
theorem run_clearT (w:World) (ty:TypeId) {B n c:Nat} {od:Option Addr} {xs:List Value} (h:w.ownsRow B 58 4 (.slice od n c) n xs) :
  ∃ w',(Builtin.clear_ #[22] ty #[.slice od n c]).run Tryz.prog w=.ok (.tuple #[]) w'∧w.grownBy w' (Value.slice od n c).ownBlock:=by
 obtain ⟨i,hi,hz,hs,hb⟩:=info_parts infoT4;have hT:=Tryz.underlying22
 rcases h.2 with ⟨e,rfl⟩|⟨g,cap,cur,e,hg,hcur,hn,hm,hsz,-⟩
 ·simp only [Value.slice.injEq] at e;obtain ⟨rfl,-,rfl⟩:=e;exact ⟨w,by simp [Builtin.clear_,run_underlying hT],grown_same _ _⟩
 ·simp only [Value.slice.injEq] at e;obtain ⟨rfl,-,rfl⟩:=e
  cases n with
  | zero=>exact ⟨w,by simp [Builtin.clear_,run_underlying hT],grown_same _ _⟩
  | succ n =>
   have hR:Rw w g 58 cur.toList:=hcur;have hst:=run_storeCells_at Tryz.prog g 0 58 (Builtin.zeroCells (Value.cells (.agg #[.string ⟨#[]⟩,.bool false,.string ⟨#[]⟩,.int .i64 0])) (n+1)).toList 0 cur w hcur (by
    rw [Array.length_toList,size_zeroCells]
    have:(Value.cells (.agg #[.string ⟨#[]⟩,.bool false,.string ⟨#[]⟩,.int .i64 0])).size=4:=rfl
    rw [this,hsz];omega) (zeroT_one _)
   simp only [Nat.add_zero] at hst;obtain ⟨cs,hst⟩:∃ cs,(storeCells ⟨g,0,none⟩ (Builtin.zeroCells (Value.cells (.agg #[.string ⟨#[]⟩,.bool false,.string ⟨#[]⟩,.int .i64 0])) (n+1)).toList).run Tryz.prog w=.ok () (w.setRow g cs):=⟨_,hst⟩;refine ⟨w.setRow g cs,by simp [Builtin.clear_,run_underlying hT,zeroValue,typeInfo,hi,hz,hst],⟨rfl,rfl,rfl,by simp,fun k _ hk=>setRow_other w g k _ (fun e=>hk (by rw [e];rfl))⟩⟩
theorem wpList_clearT {w:World} {ops:Array Oper} {rest:List Oper} {o:Oper} {a:Act} {Q:Exit→Act→World→Prop} (hgd:o.guard=none) (y:Operand)
  (ho:o.op=.call { callee:=.builtin .clear,args:=#[y],argTypes:=#[22] }) {B n c:Nat} {od:Option Addr} {xs:List Value} (hx:a.eval y=.slice od n c) (h:w.ownsRow B 58 4 (.slice od n c) n xs)
  (hk:∀ w',w.grownBy w' (Value.slice od n c).ownBlock→wpList Tryz.prog ops Q rest (a.put o.dst (.tuple #[])) w'):wpList Tryz.prog ops Q (o::rest) a w:=by
 refine wpList_plain hgd fun K hK=>?_;obtain ⟨w',hr,hg⟩:=run_clearT w o.type h;unfold Oper.wp execOp;simp only [ho,resolve,invoke,builtin,Sem.run_bind,Sem.run_pure,Result.andThen_ok,List.map_toArray,List.map_cons,List.map_nil,hx,hr];exact hK _ _ (hk w' hg)
theorem TAt.grown {w w' : World} {ad:Option Addr} {l:List TV} {row:Option Nat} (h:TAt w ad l) (hg:w.grownBy w' row) (hne:∀ lb lo,ad=some ⟨lb,lo,none⟩→0<l.length→some lb≠row):TAt w' ad l:=fun i hi=>by
 obtain ⟨lb,lo,e,hlt,c0,c1,c2,c3⟩:=h i hi;have hb:w'.heap[lb]?=w.heap[lb]?:=hg.block lb hlt (hne lb lo e (by omega));have hc:∀ (q:Nat) (x:Value),w.cell? ⟨lb,q,none⟩=some x→w'.cell? ⟨lb,q,none⟩=some x:=fun q x hx=>(World.cell?_of_block (a:=⟨lb,q,none⟩) hb).trans hx;exact ⟨lb,lo,e,Nat.lt_of_lt_of_le hlt hg.size,hc _ _ c0,hc _ _ c1,hc _ _ c2,hc _ _ c3⟩
end Go.Proofs.YtemedphcafgolaaGreatDoor
