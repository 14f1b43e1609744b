/- DyadForms: for every input it answers true. -/
import Derived.Test.YtpahmnifkinpiaaGreatDoorYFormsNeg
import Derived.Test.YtpahmnifkinpiaaGreatDoorYFormsPos
namespace Go.Proofs.YtpahmnifkinpiaaGreatDoor
open Go.RowKit Go.Shelf

set_option maxRecDepth 100000 in
set_option maxHeartbeats 1600000 in
theorem forms_law (w : World) (m : Bool) (s : ByteArray) (e : Int) (_hs : s.size ≤ maxLen) (_he : (Lit.int .i64 e).wf = true) (n : Int) (hn : (Lit.int .i64 n).wf = true) (by' : Int) (_hby : (Lit.int .i64 by').wf = true) :
    Calls Tryz.prog 3 #[nu m s e, .int .i64 n, .int .i64 by'] w (Ret (.bool true) w) := by
  have hn' := i64_wf hn
  obtain ⟨r, hr⟩ : ∃ r, longD 60 500 [(m, s, e)] = r := ⟨_, rfl⟩
  have HR := Lib.hid hr
  cases r with
  | true =>
    clear hr
    unfold nu
    go_enter Tryz.func3, Tryz.ntmps3
    go_wp2_with fail
    have hb := ((Below.refl w.heap.size w).alloc (Nat.le_refl _) (Obj.cells #[Value.bool m, Value.string s, Value.int IntKind.i64 e] 25)).alloc (by rw [World.size_alloc]; omega) (Obj.cells #[Value.bool m, Value.string s, Value.int IntKind.i64 e] 25)
    have hA := (Nk.new w m s e).alloc (Obj.cells #[Value.bool m, Value.string s, Value.int IntKind.i64 e] 25)
    have hrow := NAt.new (w.alloc (Obj.cells #[Value.bool m, Value.string s, Value.int IntKind.i64 e] 25)) 25 [(m, s, e)] #[.bool m, .string s, .int .i64 e] rfl
    rw [World.size_alloc] at hrow
    generalize ((w.alloc (Obj.cells #[Value.bool m, Value.string s, Value.int IntKind.i64 e] 25)).alloc (Obj.cells #[Value.bool m, Value.string s, Value.int IntKind.i64 e] 25)) = W0 at *
    refine (longd_any _ 60 500 (by omega) _ [(m, s, e)] 1 1 rfl (by omega) hrow).mono ?_
    rintro e1 W ⟨rfl, hq⟩
    replace hb := below_next hb hq
    replace hA := hA.below hq
    clear hq hrow
    rw [HR.out]
    clear hA
    go_wp2_with fail
    refine (yawake_any _).mono ?_
    rintro e1 V ⟨rfl, hq⟩
    replace hb := below_next hb hq
    clear hq
    go_wp2
    go_ret
    exact ⟨rfl, hb⟩
  | false =>
    have hbd := longd_false hr (m, s, e) (by simp)
    simp only at hbd
    clear hr
    by_cases hb1 : by' < -500 ∨ 500 < by'
    · unfold nu
      go_enter Tryz.func3, Tryz.ntmps3
      go_wp2_with fail
      have hb := ((Below.refl w.heap.size w).alloc (Nat.le_refl _) (Obj.cells #[Value.bool m, Value.string s, Value.int IntKind.i64 e] 25)).alloc (by rw [World.size_alloc]; omega) (Obj.cells #[Value.bool m, Value.string s, Value.int IntKind.i64 e] 25)
      have hA := (Nk.new w m s e).alloc (Obj.cells #[Value.bool m, Value.string s, Value.int IntKind.i64 e] 25)
      have hrow := NAt.new (w.alloc (Obj.cells #[Value.bool m, Value.string s, Value.int IntKind.i64 e] 25)) 25 [(m, s, e)] #[.bool m, .string s, .int .i64 e] rfl
      rw [World.size_alloc] at hrow
      generalize ((w.alloc (Obj.cells #[Value.bool m, Value.string s, Value.int IntKind.i64 e] 25)).alloc (Obj.cells #[Value.bool m, Value.string s, Value.int IntKind.i64 e] 25)) = W0 at *
      refine (longd_any _ 60 500 (by omega) _ [(m, s, e)] 1 1 rfl (by omega) hrow).mono ?_
      rintro e1 W ⟨rfl, hq⟩
      replace hb := below_next hb hq
      replace hA := hA.below hq
      clear hq hrow
      rw [HR.out]
      by_cases hb2 : by' < -500
      · have d1 : decide (by' < -500) = true := decide_eq_true hb2
        clear hA
        go_wp2_with fail
        refine (yawake_any _).mono ?_
        rintro e1 V ⟨rfl, hq⟩
        replace hb := below_next hb hq
        clear hq
        go_wp2
        go_ret
        exact ⟨rfl, hb⟩
      · have d1 : decide (by' < -500) = false := decide_eq_false hb2
        have d2 : decide (500 < by') = true := decide_eq_true (by omega)
        clear hA
        go_wp2_with fail
        refine (yawake_any _).mono ?_
        rintro e1 V ⟨rfl, hq⟩
        replace hb := below_next hb hq
        clear hq
        go_wp2
        go_ret
        exact ⟨rfl, hb⟩
    · by_cases hc : sg (wv m s) < 0
      · exact forms_neg w m s e hbd HR n hn' by' (by omega) _ rfl hc
      · exact forms_pos w m s e hbd HR n hn' by' (by omega) _ rfl hc
end Go.Proofs.YtpahmnifkinpiaaGreatDoor
