/- The chapter's examples, walked. -/
import Derived.Test.YtmipcelnmmjplaaGreatDoorHQ
import Derived.Test.YtmipcelnmmjplaaGreatDoorHM
import Derived.Test.YtmipcelnmmjplaaGreatDoorHY
import Derived.Test.YtmipcelnmmjplaaGreatDoorHP
import Derived.Test.YtmipcelnmmjplaaGreatDoorHA
namespace Go.Proofs.YtmipcelnmmjplaaGreatDoor
open Go.RowKit Go.Shelf

set_option maxRecDepth 100000 in
set_option maxHeartbeats 4000000 in
theorem yawake_any (w : World) : Calls Tryz.prog 15 #[] w (Ret (.bool true) w) := by
  have hb := Below.refl w.heap.size w
  go_enter Tryz.func15, Tryz.ntmps15
  go_wp2_with fail
  refine (rof_any _ 12 (by omega) (by omega) false ⟨#[12]⟩ (by kernel_rfl)).mono ?_
  rintro e W ⟨rfl, hq⟩
  replace hb := below_next hb hq
  clear hq
  go_wp2_with fail
  refine (ymake_any _ false ⟨#[12]⟩ (-1) (by decide) (by omega) false ⟨#[3]⟩ 1 (by kernel_rfl)).mono ?_
  rintro e W ⟨rfl, hq⟩
  replace hb := below_next hb hq
  clear hq
  go_wp2_with fail
  refine (lnum_any _ 3 1 (by omega) (by omega) false ⟨#[3]⟩ 1 (by kernel_rfl)).mono ?_
  rintro e W ⟨rfl, hq⟩
  replace hb := below_next hb hq
  clear hq
  go_wp2_with fail
  refine (ymake_any _ false ⟨#[0]⟩ 5 (by decide) (by omega) false ⟨#[]⟩ 0 (by kernel_rfl)).mono ?_
  rintro e W ⟨rfl, hq⟩
  replace hb := below_next hb hq
  clear hq
  go_wp2_with fail
  refine (lnum_any _ 1 (-1) (by omega) (by omega) false ⟨#[1]⟩ (-1) (by kernel_rfl)).mono ?_
  rintro e W ⟨rfl, hq⟩
  replace hb := below_next hb hq
  clear hq
  go_wp2_with fail
  refine (lnum_any _ 1 (-2) (by omega) (by omega) false ⟨#[1]⟩ (-2) (by kernel_rfl)).mono ?_
  rintro e W ⟨rfl, hq⟩
  replace hb := below_next hb hq
  clear hq
  go_wp2_with fail
  replace hb := hb.alloc hb.size (Obj.cells #[Value.bool false, Value.string { data := #[1] }, Value.int IntKind.i64 (-1), Value.bool false, Value.string { data := #[1] }, Value.int IntKind.i64 (-2)] 25)
  refine (yadd_any _ _ [(false, ⟨#[1]⟩, (-1)), (false, ⟨#[1]⟩, (-2))] 2 2 rfl (by omega) (fun x h => by simp at h; rcases h with rfl | rfl <;> decide) (NAt.new W _ _ _ rfl) false ⟨#[3]⟩ (-2) (by kernel_rfl)).mono ?_
  rintro e W ⟨rfl, hq⟩
  replace hb := below_next hb hq
  clear hq
  go_wp2_with fail
  refine (lnum_any _ 3 (-2) (by omega) (by omega) false ⟨#[3]⟩ (-2) (by kernel_rfl)).mono ?_
  rintro e W ⟨rfl, hq⟩
  replace hb := below_next hb hq
  clear hq
  go_wp2_with fail
  refine (lnum_any _ 3 (-2) (by omega) (by omega) false ⟨#[3]⟩ (-2) (by kernel_rfl)).mono ?_
  rintro e W ⟨rfl, hq⟩
  replace hb := below_next hb hq
  clear hq
  go_wp2_with fail
  refine (lnum_any _ (-1) 1 (by omega) (by omega) true ⟨#[1]⟩ 1 (by kernel_rfl)).mono ?_
  rintro e W ⟨rfl, hq⟩
  replace hb := below_next hb hq
  clear hq
  go_wp2_with fail
  replace hb := hb.alloc hb.size (Obj.cells #[Value.bool false, Value.string { data := #[3] }, Value.int IntKind.i64 (-2), Value.bool true, Value.string { data := #[1] }, Value.int IntKind.i64 1] 25)
  refine (ymul_any _ W.heap.size 0 [(false, ⟨#[3]⟩, (-2)), (true, ⟨#[1]⟩, 1)] 2 2 rfl (by omega) (by omega) (by omega) (fun x h => by simp at h; rcases h with rfl | rfl <;> decide) (NAt.new W _ _ _ rfl) true ⟨#[3]⟩ (-1) (by kernel_rfl)).mono ?_
  rintro e W ⟨rfl, hq⟩
  replace hb := below_next hb hq
  clear hq
  go_wp2_with fail
  refine (lnum_any _ (-3) (-1) (by omega) (by omega) true ⟨#[3]⟩ (-1) (by kernel_rfl)).mono ?_
  rintro e W ⟨rfl, hq⟩
  replace hb := below_next hb hq
  clear hq
  go_wp2_with fail
  refine (lnum_any _ 1 0 (by omega) (by omega) false ⟨#[1]⟩ 0 (by kernel_rfl)).mono ?_
  rintro e W ⟨rfl, hq⟩
  replace hb := below_next hb hq
  clear hq
  go_wp2_with fail
  refine (lnum_any _ 1 0 (by omega) (by omega) false ⟨#[1]⟩ 0 (by kernel_rfl)).mono ?_
  rintro e W ⟨rfl, hq⟩
  replace hb := below_next hb hq
  clear hq
  go_wp2_with fail
  refine (ysub_any _ false false ⟨#[1]⟩ ⟨#[1]⟩ 0 0 (by decide) (by decide) (by omega) (by omega) false ⟨#[]⟩ 0 (by kernel_rfl)).mono ?_
  rintro e W ⟨rfl, hq⟩
  replace hb := below_next hb hq
  clear hq
  go_wp2_with fail
  refine (lnum_any _ (-3) (-3) (by omega) (by omega) true ⟨#[3]⟩ (-3) (by kernel_rfl)).mono ?_
  rintro e W ⟨rfl, hq⟩
  replace hb := below_next hb hq
  clear hq
  go_wp2_with fail
  refine (yfloor_any _ true ⟨#[3]⟩ (-3) 1 (by decide) (by omega) (by omega) true ⟨#[1]⟩ (-1) (by kernel_rfl)).mono ?_
  rintro e W ⟨rfl, hq⟩
  replace hb := below_next hb hq
  clear hq
  go_wp2_with fail
  refine (lnum_any _ (-1) (-1) (by omega) (by omega) true ⟨#[1]⟩ (-1) (by kernel_rfl)).mono ?_
  rintro e W ⟨rfl, hq⟩
  replace hb := below_next hb hq
  clear hq
  go_wp2_with fail
  refine (lnum_any _ (-3) (-3) (by omega) (by omega) true ⟨#[3]⟩ (-3) (by kernel_rfl)).mono ?_
  rintro e W ⟨rfl, hq⟩
  replace hb := below_next hb hq
  clear hq
  go_wp2_with fail
  refine (yceil_any _ true ⟨#[3]⟩ (-3) 1 (by decide) (by omega) (by omega) false ⟨#[]⟩ 0 (by kernel_rfl) 0 (by kernel_rfl)).mono ?_
  rintro e W ⟨rfl, hq⟩
  replace hb := below_next hb hq
  clear hq
  go_wp2_with fail
  refine (lnum_any _ 5 0 (by omega) (by omega) false ⟨#[5]⟩ 0 (by kernel_rfl)).mono ?_
  rintro e W ⟨rfl, hq⟩
  replace hb := below_next hb hq
  clear hq
  go_wp2_with fail
  refine (yfloor_any _ false ⟨#[5]⟩ 0 (-2) (by decide) (by omega) (by omega) false ⟨#[1]⟩ 2 (by kernel_rfl)).mono ?_
  rintro e W ⟨rfl, hq⟩
  replace hb := below_next hb hq
  clear hq
  go_wp2_with fail
  refine (lnum_any _ 4 0 (by omega) (by omega) false ⟨#[1]⟩ 2 (by kernel_rfl)).mono ?_
  rintro e W ⟨rfl, hq⟩
  replace hb := below_next hb hq
  clear hq
  go_wp2_with fail
  refine (rof_any _ 2 (by omega) (by omega) false ⟨#[2]⟩ (by kernel_rfl)).mono ?_
  rintro e W ⟨rfl, hq⟩
  replace hb := below_next hb hq
  clear hq
  go_wp2_with fail
  refine (lnum_any _ 1 (-2) (by omega) (by omega) false ⟨#[1]⟩ (-2) (by kernel_rfl)).mono ?_
  rintro e W ⟨rfl, hq⟩
  replace hb := below_next hb hq
  clear hq
  go_wp2_with fail
  refine (ycmp_any _ false false ⟨#[2]⟩ ⟨#[1]⟩ (-3) (-2) (by decide) (by decide) (by omega) (by omega) 0 (by kernel_rfl)).mono ?_
  rintro e W ⟨rfl, hq⟩
  replace hb := below_next hb hq
  clear hq
  go_wp2_with fail
  refine (lnum_any _ 3 0 (by omega) (by omega) false ⟨#[3]⟩ 0 (by kernel_rfl)).mono ?_
  rintro e W ⟨rfl, hq⟩
  replace hb := below_next hb hq
  clear hq
  go_wp2_with fail
  refine (yshift_any _ false ⟨#[3]⟩ 0 (-2) (by decide) (by omega) (by omega) false ⟨#[3]⟩ (-2) (by kernel_rfl)).mono ?_
  rintro e W ⟨rfl, hq⟩
  replace hb := below_next hb hq
  clear hq
  go_wp2_with fail
  refine (lnum_any _ 3 (-2) (by omega) (by omega) false ⟨#[3]⟩ (-2) (by kernel_rfl)).mono ?_
  rintro e W ⟨rfl, hq⟩
  replace hb := below_next hb hq
  clear hq
  go_wp2_with fail
  refine (lnum_any _ 1 (-1) (by omega) (by omega) false ⟨#[1]⟩ (-1) (by kernel_rfl)).mono ?_
  rintro e W ⟨rfl, hq⟩
  replace hb := below_next hb hq
  clear hq
  go_wp2_with fail
  refine (ypow_some _ false ⟨#[1]⟩ (-1) 3 (by decide) (by omega) (by omega) (by omega) false ⟨#[1]⟩ (-3) (by kernel_rfl)).mono ?_
  rintro e W ⟨rfl, hq⟩
  replace hb := below_next hb hq
  clear hq
  go_wp2_with fail
  refine (lnum_any _ 1 (-3) (by omega) (by omega) false ⟨#[1]⟩ (-3) (by kernel_rfl)).mono ?_
  rintro e W ⟨rfl, hq⟩
  replace hb := below_next hb hq
  clear hq
  go_wp2
  go_ret
  exact ⟨rfl, hb⟩
end Go.Proofs.YtmipcelnmmjplaaGreatDoor
