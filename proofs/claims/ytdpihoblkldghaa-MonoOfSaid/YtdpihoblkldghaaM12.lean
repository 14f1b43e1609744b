/- The chapter's examples; walked. -/
import Derived.Test.YtdpihoblkldghaaM11
namespace Go.Proofs.Ytdpihoblkldghaa
open Go.RowKit Go.Lib

theorem ri_new (w : World) (ns : List Int) : RI (w.alloc (.cells (ns.map (Value.int .i64)).toArray 3)) (some ⟨w.heap.size, 0, none⟩) ns := by
  refine RI.of_rw (pre := []) (post := []) (t := 3) ?_ rfl
  simpa using Rw.new w 3 (ns.map (Value.int .i64))
theorem rs_new (w : World) (L : List ByteArray) : RS (w.alloc (.cells (L.map Value.string).toArray 9)) (some ⟨w.heap.size, 0, none⟩) L := fun i hi => by
  have h := Rw.new w 9 (L.map Value.string)
  refine ⟨_, 0, rfl, h.lt, ?_⟩
  rw [Nat.zero_add, h.cell]
  simp [hi]
theorem below_new {w W W' : World} {o : Obj} (hb : Below w.heap.size w W) (hc : Below (W.alloc o).heap.size (W.alloc o) W') : Below w.heap.size w W' :=
  below_next (hb.alloc hb.size o) hc

set_option maxRecDepth 100000 in
set_option maxHeartbeats 6400000 in
theorem awake_any (w : World) : Calls Try.prog 8 #[] w (Ret (.bool true) w) := by
  have hb := Below.refl w.heap.size w
  go_enter Try.func8, Try.ntmps8
  go_wp2_with fail
  refine (of_any _ _ [2, 0, 1] 3 3 rfl (by omega) (ri_new w [2, 0, 1]) ⟨#[2, 0, 1]⟩ 0 (by kernel_rfl) (by kernel_rfl)).mono ?_
  rintro e W1 ⟨rfl, hq⟩
  replace hb := below_new hb hq
  clear hq
  go_wp2_with fail
  refine (of_any _ _ [128] 1 1 rfl (by omega) (ri_new W1 [128]) ⟨#[]⟩ 3 (by kernel_rfl) (by kernel_rfl)).mono ?_
  rintro e W2 ⟨rfl, hq⟩
  replace hb := below_new hb hq
  clear hq
  go_wp2_with fail
  refine (mul_any _ ⟨#[2, 0]⟩ ⟨#[1, 3]⟩ (by decide) (by decide) ⟨#[3, 3]⟩ 0 (by kernel_rfl) (by kernel_rfl)).mono ?_
  rintro e W3 ⟨rfl, hq⟩
  replace hb := below_next hb hq
  clear hq
  go_wp2_with fail
  refine (mul_any _ ⟨#[100]⟩ ⟨#[28]⟩ (by decide) (by decide) ⟨#[]⟩ 3 (by kernel_rfl) (by kernel_rfl)).mono ?_
  rintro e W4 ⟨rfl, hq⟩
  replace hb := below_next hb hq
  clear hq
  go_wp2_with fail
  refine (mul_any _ ⟨#[1]⟩ ⟨#[1, 1]⟩ (by decide) (by decide) ⟨#[]⟩ 1 (by kernel_rfl) (by kernel_rfl)).mono ?_
  rintro e W5 ⟨rfl, hq⟩
  replace hb := below_next hb hq
  clear hq
  go_wp2_with fail
  refine (div_any _ ⟨#[3, 3]⟩ ⟨#[1, 3]⟩ (by decide) (by decide) ⟨#[2, 0]⟩ true (by kernel_rfl) (by kernel_rfl)).mono ?_
  rintro e W6 ⟨rfl, hq⟩
  replace hb := below_next hb hq
  clear hq
  go_wp2_with fail
  refine (div_any _ ⟨#[1]⟩ ⟨#[2]⟩ (by decide) (by decide) ⟨#[]⟩ false (by kernel_rfl) (by kernel_rfl)).mono ?_
  rintro e W7 ⟨rfl, hq⟩
  replace hb := below_next hb hq
  clear hq
  go_wp2_with fail
  refine (degree_any _ ⟨#[2, 0, 1]⟩ (by decide) 3 (by kernel_rfl)).mono ?_
  rintro e W8 ⟨rfl, hq⟩
  replace hb := below_next hb hq
  clear hq
  go_wp2_with fail
  refine (all_any _ _ [1, 1] 2 2 rfl (by omega) (ri_new W8 [1, 1]) [⟨#[0, 0]⟩, ⟨#[0, 1]⟩, ⟨#[1, 0]⟩, ⟨#[1, 1]⟩] (by kernel_rfl)).mono ?_
  rintro e W9 ⟨ad, c, rfl, hrs, hq⟩
  replace hb := below_new hb hq
  clear hq
  simp only [List.length_cons, List.length_nil, Nat.zero_add, Nat.reduceAdd]
  have hrs2 := hrs.next ((Below.refl W9.heap.size W9).alloc (Nat.le_refl _) (.cells #[.string ⟨#[0, 0]⟩, .string ⟨#[0, 1]⟩, .string ⟨#[1, 0]⟩, .string ⟨#[1, 1]⟩] 9))
  go_wp2_with fail
  refine (rsame_same _ _ _ [⟨#[0, 0]⟩, ⟨#[0, 1]⟩, ⟨#[1, 0]⟩, ⟨#[1, 1]⟩] 4 _ _ rfl (by omega) hrs2 (rs_new W9 [⟨#[0, 0]⟩, ⟨#[0, 1]⟩, ⟨#[1, 0]⟩, ⟨#[1, 1]⟩])).mono ?_
  rintro e W10 ⟨rfl, hq⟩
  replace hb := below_new hb hq
  clear hq hrs hrs2
  go_wp2_with fail
  refine (all_any _ none [] 0 0 rfl (by omega) (RI.nil _ _) [⟨#[]⟩] (by kernel_rfl)).mono ?_
  rintro e W11 ⟨ad2, c2, rfl, hrs, hq⟩
  replace hb := below_next hb hq
  clear hq hrs
  simp only [List.length_cons, List.length_nil, Nat.zero_add]
  go_wp2_with fail
  refine (all_any _ _ [-1] 1 1 rfl (by omega) (ri_new W11 [-1]) [] (by kernel_rfl)).mono ?_
  rintro e W12 ⟨ad3, c3, rfl, hrs, hq⟩
  replace hb := below_new hb hq
  clear hq hrs
  simp only [List.length_nil]
  go_wp2
  go_ret
  exact ⟨rfl, hb⟩
end Go.Proofs.Ytdpihoblkldghaa
