/- append: what grows stays in its block, or moves to a new one; two rows that grow side by side. No function is walked in this text. -/
import Derived.Test.YtlmckjodahbgbaaGreatDoorBXApp
namespace Go.Proofs.YtlmckjodahbgbaaGreatDoor
open Go.RowKit Go.Shelf Go.Lib
section
variable {t e : TypeId} {i : TypeInfo} {z : Value} {size bytes : Nat} (h1 : Tryz.prog.underlying t = some (.slice e)) (h2 : Tryz.prog.info? e = some i) (h3 : i.zero = some z) (h4 : i.size = size) (h5 : i.bytes = bytes) (h6 : z.cells.size = size) (h7 : 0 < size) (h8 : bytes ≤ 1000)
include h1 h2 h3 h4 h5 h6 h7 h8
theorem append_where {w:World} {B k m oc:Nat} {v:Value} {L M:List NV} {b o:Nat} (ty:TypeId) (hown:w.ownsRow B e size v k (ncells L)) (h:NAt w (some ⟨b,o,none⟩) M) (hl:M.length*3=m*size) (hm:0<m) (hkm:k+m≤1000000) {v' : Value} {w' : World}
  (hr:(Builtin.append_ #[t,t] ty #[v,.slice (some ⟨b,o,none⟩) m oc]).run Tryz.prog w=.ok v' w'):∀ g,v'.ownBlock=some g→v.ownBlock=some g∨w.heap.size≤g:=by
 subst h4 h5;have hln:(ncells M).length=m*i.size:=by rw [ncells_len,hl]
 have hb1:(k+m)*i.bytes≤140737488355328:=Nat.le_trans (Nat.mul_le_mul hkm h8) (by decide)
 rcases hown.2 with ⟨rfl,rfl⟩|⟨g,cap,cur,rfl,hbg,hg,hnc,hcm,hcs,htake⟩
 ·have hr2:=run_append_nil (P:=Tryz.prog) w t ty e i z h1 h2 h3 ⟨b,o,none⟩ m oc (ncells M) hln h.reads hm (by omega) (by have:=hb1;rw [Nat.zero_add] at this;omega);rw [hr2] at hr
  injection hr with hv hw
  subst hv;intro g hg;simp only [Value.ownBlock,Option.some.injEq] at hg;exact .inr (Nat.le_of_eq hg)
 ·by_cases hroom:k+m≤cap
  ·have hfit:k*i.size+(ncells M).length≤cur.size:=by rw [hln,hcs,← Nat.add_mul];exact Nat.mul_le_mul_right _ hroom
   have hr2:=run_append_room (P:=Tryz.prog) w t ty e i h1 h2 g k cap cur hg ⟨b,o,none⟩ m oc (ncells M) hln h.reads (ncells_one M) hroom hfit;rw [hr2] at hr
   injection hr with hv hw
   subst hv;intro g' hg';exact .inl hg'
  ·have holds:∀ j u,(ncells L)[j]?=some u→w.cell? ((⟨g,0,none⟩:Addr).add j)=some u:=hown.cells (g:=g) rfl;have hr2:=run_append_grow (P:=Tryz.prog) w t ty e i z h1 h2 h3 ⟨g,0,none⟩ k cap (ncells L) hown.1 holds ⟨b,o,none⟩ m oc (ncells M) hln h.reads (by omega) (by omega) (growslice_fits (by omega) hb1);rw [hr2] at hr
   injection hr with hv hw
   subst hv;intro g' hg';simp only [Value.ownBlock,Option.some.injEq] at hg';exact .inr (Nat.le_of_eq hg')
theorem wpList_append_two {w:World} {ops:Array Oper} {rest:List Oper} {o:Oper} {a:Act} {Q:Exit→Act→World→Prop} (hgd:o.guard=none) (s y:Operand)
  (ho:o.op=.call { callee:=.builtin .append,args:=#[s,y],argTypes:=#[t,t] }) {B k m oc:Nat} {v:Value} {L M:List NV} {b f:Nat}
  (hs:a.eval s=v) (hown:w.ownsRow B e size v k (ncells L)) (hB:B≤w.heap.size) (hx:a.eval y=.slice (some ⟨b,f,none⟩) m oc) (h:NAt w (some ⟨b,f,none⟩) M) (hl:M.length*3=m*size) (hm:0<m) (hkm:k+m≤1000000)
  (hk:∀ v' w',w'.ownsRow B e size v' (k+m) (ncells (L++M))→w.grownBy w' v.ownBlock→(∀ g,v'.ownBlock=some g→v.ownBlock=some g∨w.heap.size≤g)→wpList Tryz.prog ops Q rest (a.put o.dst v') w'):wpList Tryz.prog ops Q (o::rest) a w:=by
 refine wpList_plain hgd fun K hK=>?_;obtain ⟨v',w',hr,g1,g2⟩:=run_append_nat h1 h2 h3 h4 h5 h6 h7 h8 (oc:=oc) o.type hown hB h hl hkm;have g3:=append_where h1 h2 h3 h4 h5 h6 h7 h8 o.type hown h hl hm hkm hr;unfold Oper.wp execOp;simp only [ho,resolve,invoke,builtin,Sem.run_bind,Sem.run_pure,Result.andThen_ok,List.map_toArray,List.map_cons,List.map_nil,hs,hx,hr];exact hK _ _ (hk v' w' g1 g2 g3)
end
end Go.Proofs.YtlmckjodahbgbaaGreatDoor
