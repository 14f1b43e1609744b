/- The statements' own helpers: of, divides; and the chapter's examples. -/
import Derived.Test.YtmenngmejehofaaGreatDoorWRef1
import Derived.Test.YtmenngmejehofaaGreatDoorWUse
import Derived.Test.YtmenngmejehofaaGreatDoorWDiv
import Derived.Test.YtmenngmejehofaaGreatDoorWShift
import Derived.Test.YtmenngmejehofaaGreatDoorWPow
import Derived.Test.YtmenngmejehofaaGreatDoorWAdd3
namespace Go.Proofs.YtmenngmejehofaaGreatDoor
open Go.RowKit Go.Shelf

set_option maxRecDepth 100000 in
set_option maxHeartbeats 400000 in
theorem lof_any (w : World) (n : Int) (h1 : -9223372036854775808 ≤ n) (h2 : n ≤ 9223372036854775807) (z : Bool) (o : ByteArray) (hz : wf (n) = wi z o) :
    Calls Tryz.prog 20 #[.int .i64 n] w (Ret (.agg #[.bool z, .string o]) w) := by
  have HZ := Lib.hid hz; clear hz
  go_enter Tryz.func20, Tryz.ntmps20
  go_wp2_with fail
  obtain ⟨hC, hb⟩ := blocks1 w #[Value.bool false, Value.string { data := #[] }]
  generalize (w.alloc (Obj.cells #[Value.bool false, Value.string { data := #[] }] 23)) = W0 at *
  refine (rof_any _ n h1 h2 z o HZ.out).mono ?_
  rintro e W ⟨rfl, hq⟩
  replace hb := below_next hb hq
  replace hC := hC.below hq
  clear hq 
  obtain ⟨hC0, hC1, hC2, hC3⟩ := hC.facts
  go_wp2
  exact ret_whole rfl rfl (hC.set_ _ _) ⟨rfl, below_set2 hb (by omega) _ _ _ _⟩

theorem nm2 {a : Int} (h : -1000 ≤ a ∧ a ≤ 1000) : ∃ z o, wf a = wi z o ∧ wv z o = a ∧ o.size ≤ 2 := nmw (by have : (256 : Nat) ^ 2 = 65536 := rfl; omega)

set_option maxRecDepth 100000 in
set_option maxHeartbeats 800000 in
theorem divides_any (w : World) (a b q r : Int) (ha : -1000 ≤ a ∧ a ≤ 1000) (hb' : -1000 ≤ b ∧ b ≤ 1000) (hb0 : b ≠ 0) (hq : a / b = q) (hr : a % b = r) (hq' : -1000 ≤ q ∧ q ≤ 1000) (hr' : -1000 ≤ r ∧ r ≤ 1000) :
    Calls Tryz.prog 48 #[.int .i64 a, .int .i64 b, .int .i64 q, .int .i64 r] w (Ret (.bool true) w) := by
  have hb := Below.refl w.heap.size w
  obtain ⟨za, oa, ea, va, sa⟩ := nm2 ha
  obtain ⟨zb, ob, eb, vb, sb⟩ := nm2 hb'
  obtain ⟨zq, oq, eq, vq, sq⟩ := nm2 hq'
  obtain ⟨zr, or, er, vr, sr⟩ := nm2 hr'
  have h1 : wv zb ob ≠ 0 := by rw [vb]; exact hb0
  have h2 : wf (wv za oa / wv zb ob) = wi zq oq := by rw [va, vb, hq, eq]
  have h3 : wf (wv za oa % wv zb ob) = wi zr or := by rw [va, vb, hr, er]
  have HE := Lib.hid (And.intro ea (And.intro eb (And.intro eq er)))
  have HH := Lib.hid (And.intro h1 (And.intro h2 h3))
  clear ea eb eq er va vb vq vr h1 h2 h3 hq hr hb0
  go_enter Tryz.func48, Tryz.ntmps48
  go_wp2_with fail
  refine (lof_any _ a (by omega) (by omega) za oa HE.out.1).mono ?_
  rintro e W ⟨rfl, hq⟩
  replace hb := below_next hb hq
  clear hq 
  go_wp2_with fail
  refine (lof_any _ b (by omega) (by omega) zb ob HE.out.2.1).mono ?_
  rintro e W ⟨rfl, hq⟩
  replace hb := below_next hb hq
  clear hq 
  go_wp2_with fail
  refine (wdiv_any _ za zb oa ob (by omega) (by omega) HH.out.1 zq oq HH.out.2.1 zr or HH.out.2.2).mono ?_
  rintro e W ⟨rfl, hq⟩
  replace hb := below_next hb hq
  clear hq 
  go_wp2_with fail
  obtain ⟨hA, hB, hb2⟩ := blocks2 W #[Value.bool zq, Value.string oq] #[Value.bool zr, Value.string or]
  replace hb := below_next hb hb2
  generalize ((W.alloc (Obj.cells #[Value.bool zq, Value.string oq] 23)).alloc (Obj.cells #[Value.bool zr, Value.string or] 23)) = W0 at *
  replace hb := hb.drew
  have hin := And.intro hA.drew.cells hB.drew.cells
  clear hA hB hb2
  go_region_held3 (fun w' => (w'.cell? ⟨W.heap.size, 0, none⟩ = some (.bool zq) ∧ w'.cell? ⟨W.heap.size, 1, none⟩ = some (.string oq)) ∧ (w'.cell? ⟨W.heap.size + 1, 0, none⟩ = some (.bool zr) ∧ w'.cell? ⟨W.heap.size + 1, 1, none⟩ = some (.string or)))
    (first | assumption | exact held2 (by assumption) (by assumption))
    (first
     | (go_at_call 20; refine (lof_any _ q (by omega) (by omega) zq oq HE.out.2.2.1).mono ?_; rintro e V ⟨rfl, hq1⟩; replace hb := below_next hb hq1)
     | (go_at_call 20; refine (lof_any _ r (by omega) (by omega) zr or HE.out.2.2.2).mono ?_; rintro e V ⟨rfl, hq1⟩; replace hb := below_next hb hq1))
  go_wp2
  go_ret
  exact ⟨rfl, hb⟩

set_option maxRecDepth 100000 in
set_option maxHeartbeats 4000000 in
theorem wawake_any (w : World)  :
    Calls Tryz.prog 16 #[] w (Ret (.bool true) w) := by
  have hb := Below.refl w.heap.size w
  go_enter Tryz.func16, Tryz.ntmps16
  go_wp2_with fail
  refine (lof_any _ 1 (by omega) (by omega) false ⟨#[1]⟩ (by kernel_rfl)).mono ?_
  rintro e W ⟨rfl, hq⟩
  replace hb := below_next hb hq
  clear hq 
  go_wp2_with fail
  refine (wdiv_none _ false true ⟨#[1]⟩ ⟨#[]⟩ (by decide) (by decide) (by kernel_rfl)).mono ?_
  rintro e W ⟨rfl, hq⟩
  replace hb := below_next hb hq
  clear hq 
  go_wp2_with fail
  obtain ⟨_, _, hb2⟩ := blocks2 W #[Value.bool false, Value.string { data := #[] }] #[Value.bool false, Value.string { data := #[] }]
  replace hb := below_next hb hb2; clear hb2
  generalize ((W.alloc (Obj.cells #[Value.bool false, Value.string { data := #[] }] 23)).alloc (Obj.cells #[Value.bool false, Value.string { data := #[] }] 23)) = W0 at *
  refine (wof_any _ (-5) (by omega) (by omega) true ⟨#[5]⟩ (by kernel_rfl)).mono ?_
  rintro e W ⟨rfl, hq⟩
  replace hb := below_next hb hq
  clear hq 
  go_wp2_with fail
  refine (lof_any _ 5 (by omega) (by omega) false ⟨#[5]⟩ (by kernel_rfl)).mono ?_
  rintro e W ⟨rfl, hq⟩
  replace hb := below_next hb hq
  clear hq 
  go_wp2_with fail
  refine (lof_any _ (-7) (by omega) (by omega) true ⟨#[7]⟩ (by kernel_rfl)).mono ?_
  rintro e W ⟨rfl, hq⟩
  replace hb := below_next hb hq
  clear hq 
  go_wp2_with fail
  refine (use_wadd2 _ false true ⟨#[5]⟩ ⟨#[7]⟩ (by decide) (by decide) true ⟨#[2]⟩ (by kernel_rfl)).mono ?_
  rintro e W ⟨rfl, hq⟩
  replace hb := below_next hb hq
  clear hq 
  go_wp2_with fail
  refine (lof_any _ (-2) (by omega) (by omega) true ⟨#[2]⟩ (by kernel_rfl)).mono ?_
  rintro e W ⟨rfl, hq⟩
  replace hb := below_next hb hq
  clear hq 
  go_wp2_with fail
  refine (lof_any _ (-3) (by omega) (by omega) true ⟨#[3]⟩ (by kernel_rfl)).mono ?_
  rintro e W ⟨rfl, hq⟩
  replace hb := below_next hb hq
  clear hq 
  go_wp2_with fail
  refine (lof_any _ 5 (by omega) (by omega) false ⟨#[5]⟩ (by kernel_rfl)).mono ?_
  rintro e W ⟨rfl, hq⟩
  replace hb := below_next hb hq
  clear hq 
  go_wp2_with fail
  refine (lof_any _ (-1) (by omega) (by omega) true ⟨#[1]⟩ (by kernel_rfl)).mono ?_
  rintro e W ⟨rfl, hq⟩
  replace hb := below_next hb hq
  clear hq 
  go_wp2_with fail
  refine (use_wmul3 _ true false true ⟨#[3]⟩ ⟨#[5]⟩ ⟨#[1]⟩ (by decide) (by decide) (by decide) false ⟨#[15]⟩ (by kernel_rfl)).mono ?_
  rintro e W ⟨rfl, hq⟩
  replace hb := below_next hb hq
  clear hq 
  go_wp2_with fail
  refine (lof_any _ 15 (by omega) (by omega) false ⟨#[15]⟩ (by kernel_rfl)).mono ?_
  rintro e W ⟨rfl, hq⟩
  replace hb := below_next hb hq
  clear hq 
  go_wp2_with fail
  refine (wmul_none _ _ _ false ⟨#[1]⟩ (by kernel_rfl)).mono ?_
  rintro e W ⟨rfl, hq⟩
  replace hb := below_next hb hq
  clear hq 
  go_wp2_with fail
  refine (lof_any _ 1 (by omega) (by omega) false ⟨#[1]⟩ (by kernel_rfl)).mono ?_
  rintro e W ⟨rfl, hq⟩
  replace hb := below_next hb hq
  clear hq 
  go_wp2_with fail
  refine (divides_any _ (-7) 2 (-4) 1 (by omega) (by omega) (by omega) (by decide) (by decide) (by omega) (by omega)).mono ?_
  rintro e W ⟨rfl, hq⟩
  replace hb := below_next hb hq
  clear hq 
  go_wp2_with fail
  refine (divides_any _ 7 (-2) (-3) 1 (by omega) (by omega) (by omega) (by decide) (by decide) (by omega) (by omega)).mono ?_
  rintro e W ⟨rfl, hq⟩
  replace hb := below_next hb hq
  clear hq 
  go_wp2_with fail
  refine (lof_any _ (-5) (by omega) (by omega) true ⟨#[5]⟩ (by kernel_rfl)).mono ?_
  rintro e W ⟨rfl, hq⟩
  replace hb := below_next hb hq
  clear hq 
  go_wp2_with fail
  refine (wshift_any _ true ⟨#[5]⟩ 1 (by decide) (by omega) (by omega) true ⟨#[10]⟩ (by kernel_rfl)).mono ?_
  rintro e W ⟨rfl, hq⟩
  replace hb := below_next hb hq
  clear hq 
  go_wp2_with fail
  refine (lof_any _ (-10) (by omega) (by omega) true ⟨#[10]⟩ (by kernel_rfl)).mono ?_
  rintro e W ⟨rfl, hq⟩
  replace hb := below_next hb hq
  clear hq 
  go_wp2_with fail
  refine (lof_any _ (-5) (by omega) (by omega) true ⟨#[5]⟩ (by kernel_rfl)).mono ?_
  rintro e W ⟨rfl, hq⟩
  replace hb := below_next hb hq
  clear hq 
  go_wp2_with fail
  refine (wshift_any _ true ⟨#[5]⟩ (-1) (by decide) (by omega) (by omega) true ⟨#[3]⟩ (by kernel_rfl)).mono ?_
  rintro e W ⟨rfl, hq⟩
  replace hb := below_next hb hq
  clear hq 
  go_wp2_with fail
  refine (lof_any _ (-3) (by omega) (by omega) true ⟨#[3]⟩ (by kernel_rfl)).mono ?_
  rintro e W ⟨rfl, hq⟩
  replace hb := below_next hb hq
  clear hq 
  go_wp2_with fail
  refine (lof_any _ (-2) (by omega) (by omega) true ⟨#[2]⟩ (by kernel_rfl)).mono ?_
  rintro e W ⟨rfl, hq⟩
  replace hb := below_next hb hq
  clear hq 
  go_wp2_with fail
  refine (wpow_some _ true ⟨#[2]⟩ 3 (by decide) (by omega) (by omega) true ⟨#[8]⟩ (by kernel_rfl)).mono ?_
  rintro e W ⟨rfl, hq⟩
  replace hb := below_next hb hq
  clear hq 
  go_wp2_with fail
  refine (lof_any _ (-8) (by omega) (by omega) true ⟨#[8]⟩ (by kernel_rfl)).mono ?_
  rintro e W ⟨rfl, hq⟩
  replace hb := below_next hb hq
  clear hq 
  go_wp2_with fail
  refine (lof_any _ 0 (by omega) (by omega) false ⟨#[]⟩ (by kernel_rfl)).mono ?_
  rintro e W ⟨rfl, hq⟩
  replace hb := below_next hb hq
  clear hq 
  go_wp2_with fail
  refine (wpow_none _ false ⟨#[]⟩ 0 (by omega) false ⟨#[1]⟩ (by kernel_rfl)).mono ?_
  rintro e W ⟨rfl, hq⟩
  replace hb := below_next hb hq
  clear hq 
  go_wp2_with fail
  refine (lof_any _ 1 (by omega) (by omega) false ⟨#[1]⟩ (by kernel_rfl)).mono ?_
  rintro e W ⟨rfl, hq⟩
  replace hb := below_next hb hq
  clear hq 
  go_wp2_with fail
  refine (lof_any _ (-1) (by omega) (by omega) true ⟨#[1]⟩ (by kernel_rfl)).mono ?_
  rintro e W ⟨rfl, hq⟩
  replace hb := below_next hb hq
  clear hq 
  go_wp2_with fail
  refine (lof_any _ 0 (by omega) (by omega) false ⟨#[]⟩ (by kernel_rfl)).mono ?_
  rintro e W ⟨rfl, hq⟩
  replace hb := below_next hb hq
  clear hq 
  go_wp2_with fail
  refine (wcmp_any _ true false ⟨#[1]⟩ ⟨#[]⟩ (by decide) (by decide) (-1) (by kernel_rfl)).mono ?_
  rintro e W ⟨rfl, hq⟩
  replace hb := below_next hb hq
  clear hq 
  go_wp2
  go_ret
  exact ⟨rfl, hb⟩
end Go.Proofs.YtmenngmejehofaaGreatDoor
