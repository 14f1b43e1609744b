/- Layer 1, laid together: DTab, DLaw0. -/
import Derived.Test.YtfgolecbchhokaaGreatDoorDSpread
import Derived.MakeChecks
import Derived.Test.YtfgolecbchhokaaGreatDoorG5
import Derived.Test.YtfgolecbchhokaaGreatDoorG6
import Derived.Test.YtfgolecbchhokaaGreatDoorWRef1
import Derived.Deep.DeepFit
import Derived.Deep.RegionHeld3
/- The table of the powers of ten, out of what a statement's row lays. -/
namespace Go.Proofs.YtfgolecbchhokaaGreatDoor
open Go.RowKit Go.Shelf

theorem tab_of_vars {P : Program} {W : World} {name : String} {k : IntKind} {zs : List Int} {g : Nat} {t e : TypeId} {n : Nat}
    (hg : P.globalNamed name = some g) (hty : (P.globals[g]?).map (·.type) = some t) (ht : P.underlying t = some (.array n e)) (he : P.underlying e = some (.int k)) (hce : P.cellsOf e = 1) (hct : P.cellsOf t = n) :
    ∀ (l : List (String × DataW Unit)) (ps : List MemPlace), DataW.LaidVars P W l ps → (name, Lib.tabData k zs) ∈ l → Lib.TabIs P W name k zs
  | [], _, _, hm => by cases hm
  | (n', d) :: r, ps, ⟨g', t', cs, fuel, p, q, hg', ht', hvar, hd, hr, _⟩, hm => by
    rcases List.mem_cons.1 hm with e | hm
    · obtain ⟨rfl, rfl⟩ := Prod.mk.inj e
      obtain rfl := Option.some.inj (hg.symm.trans hg')
      obtain rfl := Option.some.inj (hty.symm.trans ht')
      unfold Lib.TabIs
      rw [hvar, ← Lib.cells_of_tab ht he hce hct hd]
    · exact tab_of_vars hg hty ht he hce hct r q hr hm
theorem tab_of_laid {W : World} {laid : List (String × DataW Unit)} (hplain : (laid.all fun x => x.2.handleName?.isNone) = true) (hm : ("internal/strconv.uint64pow10", Lib.tabData .u64 Lib.pow10Tab) ∈ laid) (h : laidMetH Tryz.prog laid W) : Lib.TabIs Tryz.prog W "internal/strconv.uint64pow10" .u64 Lib.pow10Tab := by
  rw [MakeChecks.laidMetH_plain _ _ _ hplain] at h
  obtain ⟨ps, h, _⟩ := h
  exact tab_of_vars (g := 0) (t := 177) (e := 79) (n := 20) (by kernel_rfl) (by kernel_rfl) Tryz.underlying177 Tryz.underlying79 (by kernel_rfl) (by kernel_rfl) _ _ h hm
end Go.Proofs.YtfgolecbchhokaaGreatDoor
/- The statements' own helpers: spoilt; and the chapter's examples. -/
namespace Go.Proofs.YtfgolecbchhokaaGreatDoor
open Go.RowKit Go.Shelf

set_option maxRecDepth 100000 in
set_option maxHeartbeats 800000 in
theorem lspoilt_any (w : World) (s : ByteArray) (hs : s.size ≤ 1000) (p : Nat) (hp : badPlace s.data.toList = p) (hbad : isBad s.data.toList = true) :
    Calls Tryz.prog 61 #[.string s, .int .i64 p] w (Ret (.bool true) w) := by
  have hb := Below.refl w.heap.size w
  go_enter Tryz.func61, Tryz.ntmps61
  go_wp2_with fail
  refine (parse_bad _ s hs p hp hbad).mono ?_
  rintro e W ⟨rfl, hq⟩
  replace hb := below_next hb hq
  clear hq
  replace hb := hb.alloc hb.size (.cells #[.bool false, .string ⟨#[]⟩] 23)
  go_wp2
  go_ret
  exact ⟨rfl, hb⟩

set_option maxRecDepth 100000 in
set_option maxHeartbeats 4000000 in
theorem dawake_any (w : World) (htab : Lib.TabIs Tryz.prog w "internal/strconv.uint64pow10" .u64 Lib.pow10Tab) :
    Calls Tryz.prog 14 #[] w (Ret (.bool true) w) := by
  have hb := Below.refl w.heap.size w
  go_enter Tryz.func14, Tryz.ntmps14
  go_wp2_with fail
  refine (parse_good _ ⟨#[45, 49, 50]⟩ (by decide) (by kernel_rfl) true ⟨#[12]⟩ (by kernel_rfl)).mono ?_
  rintro e W ⟨rfl, hq⟩
  replace hb := below_next hb hq
  clear hq
  obtain ⟨hA, hb2⟩ := blocks1 W #[Value.bool true, Value.string ⟨#[12]⟩]
  replace hb := below_next hb hb2
  clear hb2
  go_wp2_with fail
  generalize (W.alloc (Obj.cells #[Value.bool true, Value.string ⟨#[12]⟩] 23)) = W0 at *
  refine (parse_good _ ⟨#[45, 49, 48, 48, 48, 48, 48, 48, 48, 48, 48, 48, 48, 48, 48, 48, 48, 48, 48, 48, 48, 48, 48]⟩ (by decide) (by kernel_rfl) true ⟨#[54, 53, 201, 173, 197, 222, 160, 0, 0]⟩ (by kernel_rfl)).mono ?_
  rintro e V ⟨rfl, hq⟩
  replace hb := below_next hb hq
  replace hA := hA.below hq
  clear hq
  obtain ⟨hB, hb2⟩ := blocks1 V #[Value.bool true, Value.string ⟨#[54, 53, 201, 173, 197, 222, 160, 0, 0]⟩]
  replace hb := below_next hb hb2
  replace hA := hA.below hb2
  clear hb2
  go_wp2_with fail
  generalize (V.alloc (Obj.cells #[Value.bool true, Value.string ⟨#[54, 53, 201, 173, 197, 222, 160, 0, 0]⟩] 23)) = V0 at *
  replace hb := hb.drew
  have hin := And.intro hA.drew.cells hB.drew.cells
  clear hA hB
  go_region_held3 (fun w' => (w'.cell? ⟨W.heap.size, 0, none⟩ = some (.bool true) ∧ w'.cell? ⟨W.heap.size, 1, none⟩ = some (.string ⟨#[12]⟩)) ∧ (w'.cell? ⟨V.heap.size, 0, none⟩ = some (.bool true) ∧ w'.cell? ⟨V.heap.size, 1, none⟩ = some (.string ⟨#[54, 53, 201, 173, 197, 222, 160, 0, 0]⟩)))
    (first | assumption | exact held2 (by assumption) (by assumption))
    (first
     | (go_at_call 15; go_fit (print_any _ (tab_below htab hb) false ⟨#[]⟩ (by decide) ⟨#[48]⟩ (by kernel_rfl)); rintro e U ⟨rfl, hq⟩; replace hb := below_next hb hq)
     | (go_at_call 15; go_fit (print_any _ (tab_below htab hb) true ⟨#[54, 53, 201, 173, 197, 222, 160, 0, 0]⟩ (by decide) ⟨#[45, 49, 48, 48, 48, 48, 48, 48, 48, 48, 48, 48, 48, 48, 48, 48, 48, 48, 48, 48, 48, 48, 48]⟩ (by kernel_rfl)); rintro e U ⟨rfl, hq⟩; replace hb := below_next hb hq)
     | (go_at_call 60; go_fit (rof_any _ (-12) (by omega) (by omega) true ⟨#[12]⟩ (by kernel_rfl)); rintro e U ⟨rfl, hq⟩; replace hb := below_next hb hq)
     | (go_at_call 61; go_fit (lspoilt_any _ ⟨#[]⟩ (by decide) 0 (by kernel_rfl) (by kernel_rfl)); rintro e U ⟨rfl, hq⟩; replace hb := below_next hb hq)
     | (go_at_call 61; go_fit (lspoilt_any _ ⟨#[45]⟩ (by decide) 1 (by kernel_rfl) (by kernel_rfl)); rintro e U ⟨rfl, hq⟩; replace hb := below_next hb hq)
     | (go_at_call 61; go_fit (lspoilt_any _ ⟨#[45, 48]⟩ (by decide) 1 (by kernel_rfl) (by kernel_rfl)); rintro e U ⟨rfl, hq⟩; replace hb := below_next hb hq)
     | (go_at_call 61; go_fit (lspoilt_any _ ⟨#[48, 49]⟩ (by decide) 1 (by kernel_rfl) (by kernel_rfl)); rintro e U ⟨rfl, hq⟩; replace hb := below_next hb hq)
     | (go_at_call 61; go_fit (lspoilt_any _ ⟨#[49, 97]⟩ (by decide) 1 (by kernel_rfl) (by kernel_rfl)); rintro e U ⟨rfl, hq⟩; replace hb := below_next hb hq)
     | (go_at_call 61; go_fit (lspoilt_any _ ⟨#[43, 49]⟩ (by decide) 0 (by kernel_rfl) (by kernel_rfl)); rintro e U ⟨rfl, hq⟩; replace hb := below_next hb hq))
  go_wp2
  go_ret
  exact ⟨rfl, hb⟩
end Go.Proofs.YtfgolecbchhokaaGreatDoor
