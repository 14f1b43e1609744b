/- Answers of an Int out of its block, and one or two numbers. -/
import Derived.Test.YtfgolecbchhokaaGreatDoorWMem
namespace Go.Proofs.YtfgolecbchhokaaGreatDoor
open Go.RowKit Go.Shelf

theorem results_ct {fn : Func} {p u : Tmp} {tmps : Array Value} {W : World} {r : Nat} {cs : Array Value} {v : Value} (h : fn.results = #[.cell p 23, .tmp u]) (hp : tmps.getD p undef = .pointer (some ⟨r, 0, none⟩)) (hu : tmps.getD u undef = v)
    (h1 : Bk W r cs) (hc : cs.size = 2) : (results fn tmps).run Tryz.prog W = .ok (.tuple #[.agg cs, v]) W := by
  have hp' : tmps[p]?.getD undef = .pointer (some ⟨r, 0, none⟩) := by simpa using hp
  have hu' : tmps[u]?.getD undef = v := by simpa using hu
  have e1 := run_loadVar_row (P := Tryz.prog) W r _ 23 cs _ _ h1 Tryz.underlying23 rfl (by rw [hc]; exact infoI)
  simp [results, h, hp', hu', asAddr, e1]
theorem ret_ct {fn : Func} {p u : Tmp} {tmps : Array Value} {W : World} {r : Nat} {x y v : Value} {Q : Ending → World → Prop} (h : fn.results = #[.cell p 23, .tmp u]) (hp : tmps.getD p undef = .pointer (some ⟨r, 0, none⟩)) (hu : tmps.getD u undef = v)
    (h1 : Bk W r #[x, y]) (hQ : Q (.returned (.tuple #[.agg #[x, y], v])) W) : bodyPost Tryz.prog fn Q Exit.ret { tmps := tmps, defers := [] } W :=
  bodyPost_ret (results_ct h hp hu h1 rfl) rfl hQ
theorem results_ctt {fn : Func} {p u u' : Tmp} {tmps : Array Value} {W : World} {r : Nat} {cs : Array Value} {v v' : Value} (h : fn.results = #[.cell p 23, .tmp u, .tmp u']) (hp : tmps.getD p undef = .pointer (some ⟨r, 0, none⟩)) (hu : tmps.getD u undef = v) (hv : tmps.getD u' undef = v')
    (h1 : Bk W r cs) (hc : cs.size = 2) : (results fn tmps).run Tryz.prog W = .ok (.tuple #[.agg cs, v, v']) W := by
  have hp' : tmps[p]?.getD undef = .pointer (some ⟨r, 0, none⟩) := by simpa using hp
  have hu' : tmps[u]?.getD undef = v := by simpa using hu
  have hv' : tmps[u']?.getD undef = v' := by simpa using hv
  have e1 := run_loadVar_row (P := Tryz.prog) W r _ 23 cs _ _ h1 Tryz.underlying23 rfl (by rw [hc]; exact infoI)
  simp [results, h, hp', hu', hv', asAddr, e1]
theorem ret_ctt {fn : Func} {p u u' : Tmp} {tmps : Array Value} {W : World} {r : Nat} {x y v v' : Value} {Q : Ending → World → Prop} (h : fn.results = #[.cell p 23, .tmp u, .tmp u']) (hp : tmps.getD p undef = .pointer (some ⟨r, 0, none⟩)) (hu : tmps.getD u undef = v) (hv : tmps.getD u' undef = v')
    (h1 : Bk W r #[x, y]) (hQ : Q (.returned (.tuple #[.agg #[x, y], v, v'])) W) : bodyPost Tryz.prog fn Q Exit.ret { tmps := tmps, defers := [] } W :=
  bodyPost_ret (results_ctt h hp hu hv h1 rfl) rfl hQ
end Go.Proofs.YtfgolecbchhokaaGreatDoor
