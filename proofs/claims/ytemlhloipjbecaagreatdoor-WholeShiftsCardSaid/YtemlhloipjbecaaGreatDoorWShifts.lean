/- The law of Shift: it answers true for all. -/
import Derived.Test.YtemlhloipjbecaaGreatDoorWHeld
import Derived.Test.YtemlhloipjbecaaGreatDoorWLaw0
import Derived.Test.YtemlhloipjbecaaGreatDoorWRef8
import Derived.Deep.DeepFit
namespace Go.Proofs.YtemlhloipjbecaaGreatDoor
open Go.RowKit Go.Shelf

set_option maxRecDepth 100000 in
set_option maxHeartbeats 8000000 in
theorem wshifts_any (w : World) (n : Bool) (s : ByteArray) (k : Int) (hk : (Lit.int .i64 k).wf = true) :
    Calls Tryz.prog 7 #[wi n s, .int .i64 k] w (Ret (.bool true) w) := by
  have hk1 : -9223372036854775808 ≤ k ∧ k ≤ 9223372036854775807 := by
    simp [Lit.wf, IntKind.min, IntKind.max, IntKind.signed, IntKind.bits] at hk
    omega
  clear hk
  have hsz : (w.alloc (Obj.cells #[Value.bool n, Value.string s] 23)).heap.size = w.heap.size + 1 := by rw [World.size_alloc]
  obtain ⟨r, hr⟩ : ∃ r, (decide (60 < s.size)) = r := ⟨_, rfl⟩
  have HR := Lib.hid hr; clear hr
  unfold wi
  go_enter Tryz.func7, Tryz.ntmps7
  go_wp2_with fail
  obtain ⟨hA, hb⟩ := blocks1 w #[Value.bool n, Value.string s]
  generalize (w.alloc (Obj.cells #[Value.bool n, Value.string s] 23)) = W0 at *
  have hu := clong1 W0 60 n s r HR.out
  rw [hsz] at hu
  refine hu.mono ?_
  rintro e W1 ⟨rfl, hq⟩
  replace hb := below_next (hb.alloc hb.size (Obj.cells #[Value.bool n, Value.string s] 23)) hq
  replace hA := (hA.alloc (Obj.cells #[Value.bool n, Value.string s] 23)).below hq
  clear hu hq hsz
  cases r
  case true =>
    clear HR
    go_wp2_with fail
    refine (wawake_any _).mono ?_
    rintro e W2 ⟨rfl, hq⟩
    replace hb := below_next hb hq
    go_wp2
    go_ret
    exact ⟨rfl, hb⟩
  have hss := HR.out
  clear HR
  have hs0 : s.size ≤ 60 := by simpa using hss
  clear hss
  obtain ⟨hA0, hA1⟩ := hA.cells
  by_cases hg : 1000 < k
  · clear hA0 hA1
    go_wp2_with fail
    refine (wawake_any _).mono ?_
    rintro e W2 ⟨rfl, hq⟩
    replace hb := below_next hb hq
    go_wp2
    go_ret
    exact ⟨rfl, hb⟩
  · obtain ⟨z, o, ez⟩ : ∃ z o, wf (shiftI (wv n s) k) = wi z o := ⟨_, _, rfl⟩
    have HE := Lib.hid ez; clear ez
    clear hA0 hA1
    have hA0 := hA.cells
    have hin : (fun w' => Below w.heap.size w w' ∧ (w'.cell? ⟨w.heap.size, 0, none⟩ = some (.bool n) ∧ w'.cell? ⟨w.heap.size, 1, none⟩ = some (.string s))) W1.drew := ⟨hb.drew, hA.drew.cells⟩
    obtain ⟨hA0, hA1⟩ := hA0
    clear hb hA
    go_wp2_with fail
    go_region_held3 (fun w' => Below w.heap.size w w' ∧ (w'.cell? ⟨w.heap.size, 0, none⟩ = some (.bool n) ∧ w'.cell? ⟨w.heap.size, 1, none⟩ = some (.string s)))
      (first | assumption | exact hb1 (by assumption) (by assumption) | exact ab1 (by assumption))
      (first
         | (go_at_call 35; go_fit (wshift_any _ n s k (by omega) hk1.1 (by omega) z o HE.out); rintro e V ⟨rfl, hq⟩)
         | (go_at_call 36; go_fit (rshift_any _ n s k (by omega) hk1.1 (by omega) z o HE.out); rintro e V ⟨rfl, hq⟩)
         | (go_at_call 12; go_fit (wawake_any _); rintro e V ⟨rfl, hq⟩))
    rename_i hout
    go_wp2
    go_ret
    exact ⟨rfl, hout.1⟩
end Go.Proofs.YtemlhloipjbecaaGreatDoor
