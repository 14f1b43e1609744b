/- Layer 1, laid together: DTab, DLaw0. -/
import Derived.MakeChecks
import Derived.Test.YtiddgplapodleaaGreatDoorG5
import Derived.Test.YtiddgplapodleaaGreatDoorG6
/- The table of the powers of ten,out of what a statement's row lays. -/
namespace Go.Proofs.YtiddgplapodleaaGreatDoor
open Go.RowKit Go.Shelf
theorem tab_of_vars {P:Program} {W:World} {name:String} {k:IntKind} {zs:List Int} {g:Nat} {t e:TypeId} {n:Nat}
  (hg:P.globalNamed name=some g) (hty:(P.globals[g]?).map (·.type)=some t) (ht:P.underlying t=some (.array n e)) (he:P.underlying e=some (.int k)) (hce:P.cellsOf e=1) (hct:P.cellsOf t=n) :
  ∀ (l:List (String × DataW Unit)) (ps:List MemPlace),DataW.LaidVars P W l ps→(name,Lib.tabData k zs)∈l→Lib.TabIs P W name k zs
 | [],_,_,hm=>by cases hm
 | (n',d)::r,ps,⟨g',t',cs,fuel,p,q,hg',ht',hvar,hd,hr,_⟩,hm=>by
  rcases List.mem_cons.1 hm with e|hm
  ·obtain ⟨rfl,rfl⟩:=Prod.mk.inj e;obtain rfl:=Option.some.inj (hg.symm.trans hg');obtain rfl:=Option.some.inj (hty.symm.trans ht');unfold Lib.TabIs;rw [hvar,← Lib.cells_of_tab ht he hce hct hd]
  ·exact tab_of_vars hg hty ht he hce hct r q hr hm
theorem tab_of_laid {W:World} {laid:List (String × DataW Unit)} (hplain:(laid.all fun x=>x.2.handleName?.isNone)=true) (hm:("internal/strconv.uint64pow10",Lib.tabData .u64 Lib.pow10Tab)∈laid) (h:laidMetH Tryz.prog laid W):Lib.TabIs Tryz.prog W "internal/strconv.uint64pow10" .u64 Lib.pow10Tab:=by
 rw [MakeChecks.laidMetH_plain _ _ _ hplain] at h;obtain ⟨ps,h,_⟩:=h;exact tab_of_vars (g:=0) (t:=146) (e:=74) (n:=20) (by kernel_rfl) (by kernel_rfl) Tryz.underlying146 Tryz.underlying74 (by kernel_rfl) (by kernel_rfl) _ _ h hm
end Go.Proofs.YtiddgplapodleaaGreatDoor
