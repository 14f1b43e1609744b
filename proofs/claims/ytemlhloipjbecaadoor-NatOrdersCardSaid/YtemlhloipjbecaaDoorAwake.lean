/- The first chapter's examples. -/
import Derived.Test.YtemlhloipjbecaaDoorUse
namespace Go.Proofs.YtemlhloipjbecaaDoor
open Go.RowKit Go.Shelf

set_option maxRecDepth 100000 in
set_option maxHeartbeats 2000000 in
theorem awake_any (w : World) : Calls Tryd.prog 12 #[] w (Ret (.bool true) w) := by
  have hb := Below.refl w.heap.size w
  go_enter Tryd.func12, Tryd.ntmps12
  go_wp2_with fail
  refine (use_sub _ ⟨#[1, 0]⟩ ⟨#[1]⟩ ⟨#[255]⟩ true (by decide) (by decide) (by kernel_rfl) (by kernel_rfl)).mono ?_
  rintro e W ⟨rfl, hc⟩
  replace hb := below_next hb hc; clear hc
  go_wp2_with fail
  refine (use_sub _ ⟨#[1]⟩ ⟨#[2]⟩ ⟨#[]⟩ false (by decide) (by decide) (by kernel_rfl) (by kernel_rfl)).mono ?_
  rintro e W ⟨rfl, hc⟩
  replace hb := below_next hb hc; clear hc
  go_wp2_with fail
  refine (use_div _ ⟨#[1, 1]⟩ ⟨#[16]⟩ (.tuple #[.string ⟨#[16]⟩, .string ⟨#[1]⟩, .bool true]) (by decide) (by decide) (by kernel_rfl)).mono ?_
  rintro e W ⟨rfl, hc⟩
  replace hb := below_next hb hc; clear hc
  go_wp2_with fail
  refine (use_div _ ⟨#[1]⟩ ⟨#[0]⟩ (.tuple #[.string ⟨#[]⟩, .string ⟨#[]⟩, .bool false]) (by decide) (by decide) (by kernel_rfl)).mono ?_
  rintro e W ⟨rfl, hc⟩
  replace hb := below_next hb hc; clear hc
  go_wp2_with fail
  refine (use_of _ ⟨#[]⟩ 0 B64_pos (by kernel_rfl)).mono ?_
  rintro e W ⟨rfl, hc⟩
  replace hb := below_next hb hc; clear hc
  go_wp2_with fail
  refine (use_of _ ⟨#[1, 2]⟩ 258 (by unfold B64; omega) (by kernel_rfl)).mono ?_
  rintro e W ⟨rfl, hc⟩
  replace hb := below_next hb hc; clear hc
  go_wp2_with fail
  refine (use_add _ ⟨#[255]⟩ ⟨#[1]⟩ ⟨#[1, 0]⟩ (by decide) (by decide) (by kernel_rfl)).mono ?_
  rintro e W ⟨rfl, hc⟩
  replace hb := below_next hb hc; clear hc
  go_wp2_with fail
  refine (use_mul _ ⟨#[255]⟩ ⟨#[255]⟩ ⟨#[254, 1]⟩ (by decide) (by decide) (by kernel_rfl)).mono ?_
  rintro e W ⟨rfl, hc⟩
  replace hb := below_next hb hc; clear hc
  go_wp2_with fail
  refine (use_shl _ ⟨#[3]⟩ ⟨#[6, 0]⟩ 9 (by decide) (by omega) (by kernel_rfl)).mono ?_
  rintro e W ⟨rfl, hc⟩
  replace hb := below_next hb hc; clear hc
  go_wp2_with fail
  refine (use_shr _ ⟨#[6, 0]⟩ ⟨#[3]⟩ 9 (by decide) (by omega) (by kernel_rfl)).mono ?_
  rintro e W ⟨rfl, hc⟩
  replace hb := below_next hb hc; clear hc
  go_wp2_with fail
  refine (use_zeros _ ⟨#[6, 0]⟩ 9 (by decide) (by kernel_rfl)).mono ?_
  rintro e W ⟨rfl, hc⟩
  replace hb := below_next hb hc; clear hc
  go_wp2_with fail
  refine (use_len _ ⟨#[6, 0]⟩ 11 (by decide) (by kernel_rfl)).mono ?_
  rintro e W ⟨rfl, hc⟩
  replace hb := below_next hb hc; clear hc
  go_wp2_with fail
  refine (use_cmp _ ⟨#[0, 5]⟩ ⟨#[5]⟩ 0 (by kernel_rfl)).mono ?_
  rintro e W ⟨rfl, hc⟩
  replace hb := below_next hb hc; clear hc
  go_wp2_with fail
  refine (use_trim _ ⟨#[0, 5]⟩ ⟨#[5]⟩ (by decide) (by kernel_rfl)).mono ?_
  rintro e W ⟨rfl, hc⟩
  replace hb := below_next hb hc; clear hc
  go_wp2
  go_ret
  exact ⟨rfl, hb⟩
end Go.Proofs.YtemlhloipjbecaaDoor
