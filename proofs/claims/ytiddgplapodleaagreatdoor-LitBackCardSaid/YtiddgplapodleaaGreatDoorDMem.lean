/- Answers of an Int out of its block, and one or two numbers. -/
import Derived.Test.YtiddgplapodleaaGreatDoorHW
namespace Go.Proofs.YtiddgplapodleaaGreatDoor
open Go.RowKit Go.Shelf
theorem results_ctt {fn:Func} {p u u' : Tmp} {tmps:Array Value} {W:World} {r:Nat} {cs:Array Value} {v v' : Value} (h:fn.results=#[.cell p 26,.tmp u,.tmp u']) (hp:tmps.getD p undef=.pointer (some ⟨r,0,none⟩)) (hu:tmps.getD u undef=v) (hv:tmps.getD u' undef=v')
  (h1:Bk W r cs) (hc:cs.size=2):(results fn tmps).run Tryz.prog W=.ok (.tuple #[.agg cs,v,v']) W:=by
 have hp' : tmps[p]?.getD undef=.pointer (some ⟨r,0,none⟩):=by simpa using hp
 have hu' : tmps[u]?.getD undef=v:=by simpa using hu
 have hv' : tmps[u']?.getD undef=v':=by simpa using hv
 have e1:=run_loadVar_row (P:=Tryz.prog) W r _ 26 cs _ _ h1 Tryz.underlying26 rfl (by rw [hc];exact infoI);simp [results,h,hp',hu',hv',asAddr,e1]
theorem ret_ctt {fn:Func} {p u u' : Tmp} {tmps:Array Value} {W:World} {r:Nat} {x y v v' : Value} {Q:Ending→World→Prop} (h:fn.results=#[.cell p 26,.tmp u,.tmp u']) (hp:tmps.getD p undef=.pointer (some ⟨r,0,none⟩)) (hu:tmps.getD u undef=v) (hv:tmps.getD u' undef=v')
  (h1:Bk W r #[x,y]) (hQ:Q (.returned (.tuple #[.agg #[x,y],v,v'])) W):bodyPost Tryz.prog fn Q Exit.ret {tmps:=tmps,defers:=[] } W:=
 bodyPost_ret (results_ctt h hp hu hv h1 rfl) rfl hQ
end Go.Proofs.YtiddgplapodleaaGreatDoor
