/- DyadGrid: for every input it answers true. -/
import Derived.Test.YtpahmnifkinpiaaGreatDoorYGridNn
import Derived.Test.YtpahmnifkinpiaaGreatDoorYGridZn
import Derived.Test.YtpahmnifkinpiaaGreatDoorYGridNz
import Derived.Test.YtpahmnifkinpiaaGreatDoorYGridOn0
import Derived.Test.YtpahmnifkinpiaaGreatDoorYGridOnn
namespace Go.Proofs.YtpahmnifkinpiaaGreatDoor
open Go.RowKit Go.Shelf

theorem empty_list {o : ByteArray} (h : o ≠ ⟨#[]⟩) : o.toList.isEmpty = false := by
  obtain ⟨d⟩ := o
  rw [ByteArray.toList_eq]
  cases hd : d.toList with
  | nil =>
    exfalso
    apply h
    congr 1
    exact Array.toList_eq_nil_iff.1 hd
  | cons x t => rfl
theorem empty_ne {o : ByteArray} (h : o ≠ ⟨#[]⟩) : ¬o.toList = [] := by
  have := empty_list h
  intro h2
  rw [h2] at this
  cases this
theorem text_eq {o q : ByteArray} (h : o.toList = q.toList) : o = q := by
  obtain ⟨d⟩ := o
  obtain ⟨c⟩ := q
  rw [ByteArray.toList_eq, ByteArray.toList_eq] at h
  congr 1
  exact Array.toList_inj.1 h
theorem step_form (p : Int) : df (nv false ⟨#[1]⟩ (0 + -p)) = nu false ⟨#[1]⟩ (-p) := by
  rw [Int.zero_add]
  exact df_odd (by kernel_rfl) (by kernel_rfl)
theorem step_of (q p : Int) : Dyadic.ofIntWithPrec (q + 1) p - .ofIntWithPrec q p = nv false ⟨#[1]⟩ (-p) := by
  rw [of_sub]
  unfold nv
  rw [Int.neg_neg, show q + 1 - q = 1 by omega]
  rfl
theorem grid_small (w : World) (m : Bool) (s : ByteArray) (e : Int) (hbd : s.size ≤ 150 ∧ -500 ≤ e ∧ e ≤ 500) (HR : Hid (longD 150 500 [(m, s, e)] = false)) (p : Int) (hp : -1000 ≤ p ∧ p ≤ 1000) : Calls Tryz.prog 9 #[nu m s e, .int .i64 p] w (Ret (.bool true) w) := by
  obtain ⟨z1, o1, e1, k1⟩ := df_some ((nv m s e).roundDown p)
  obtain ⟨z2, o2, e2, k2⟩ := df_some (ceilD (nv m s e) p)
  obtain ⟨z3, o3, e3, k3⟩ := df_some (nv m s e)
  have hB : Bnd (nv m s e) 275 500 := Bnd.of (B := 150) (K := 125) 500 hbd.1 (by omega) (by omega)
  have okA : Ok3 s e := by unfold Ok3; omega
  have ok3 := hB.ok (by omega) (by omega) k3
  have hs := step_form p
  rcases grid_cases m s e p with ⟨hf, hc, Y, hY⟩ | ⟨q, hf, hc, h1, h2, hoff⟩
  · rw [hf, k3] at k1
    rw [hc, k3] at k2
    obtain ⟨rfl, rfl, rfl⟩ := nu_inj k1
    obtain ⟨rfl, rfl, rfl⟩ := nu_inj k2
    have hv := form_nv k3
    have h0 : dsg (nv z3 o3 e3 - nv m s e) = 0 := by rw [hv, sub_self']; rfl
    have h0' : dsg (nv m s e - nv z3 o3 e3) = 0 := by rw [hv, sub_self']; rfl
    have hk := k3
    rw [hY] at hk
    rcases form_of hk with ⟨rfl, rfl, rfl⟩ | ⟨hz, hge⟩
    · exact grid_on0 w m s e hbd HR p hp 0 0 (Lib.hid ⟨by rw [hf]; exact k3, by rw [hc]; exact k3, k3, h0, h0', trivial, hs⟩) (Lib.hid ⟨ok3, ok3, ok3, okA⟩) rfl rfl
    · exact grid_onn w m s e hbd HR p hp z3 o3 e3 0 0 (Lib.hid ⟨by rw [hf]; exact k3, by rw [hc]; exact k3, k3, h0, h0', trivial, hs⟩) (Lib.hid ⟨ok3, ok3, ok3, okA⟩) rfl rfl (empty_list hz) (decide_eq_true hge)
  · have v1 := form_nv k1
    have v2 := form_nv k2
    have hz3 := form_off k3 hoff
    have k1' := k1
    have k2' := k2
    rw [hf] at k1'
    rw [hc] at k2'
    have hsub : df (nv z2 o2 e2 - nv z1 o1 e1) = nu false ⟨#[1]⟩ (-p) := by
      rw [v1, v2, hf, hc, step_of]
      exact df_odd (by kernel_rfl) (by kernel_rfl)
    have hd1 : dsg (nv z1 o1 e1 - nv m s e) ≤ 0 := by rw [v1, hf]; exact h1
    have hd2 : dsg (nv m s e - nv z2 o2 e2) ≤ 0 := by rw [v2, hc]; exact h2
    have hne : nv z1 o1 e1 ≠ nv z2 o2 e2 := by
      rw [v1, v2, hf, hc]
      intro hh
      have := of_inj hh
      omega
    have hfc : z1 = z2 → o1.toList = o2.toList → ¬e1 = e2 := fun a b c => hne (by rw [a, text_eq b, c])
    have okF : Ok3 o1 e1 := floor_ok hbd hp k1
    have okC : Ok3 o2 e2 := ceil_ok hbd hp k2
    have hlt : decide (-p ≤ e3) = false := decide_eq_false (by omega)
    have e01 : decide (0 < dsg (nv z1 o1 e1 - nv m s e)) = false := decide_eq_false (by omega)
    have e02 : decide (0 < dsg (nv m s e - nv z2 o2 e2)) = false := decide_eq_false (by omega)
    rcases form_of k1' with ⟨rfl, rfl, rfl⟩ | ⟨n1, g1⟩
    · rcases form_of k2' with ⟨rfl, rfl, rfl⟩ | ⟨n2, g2⟩
      · exact absurd rfl (hfc rfl rfl)
      · exact grid_zn w m s e hbd HR p hp z2 o2 e2 z3 o3 e3 _ _ (Lib.hid ⟨k1, k2, k3, rfl, rfl, hsub, hs⟩) (Lib.hid ⟨okF, okC, ok3, okA⟩) e01 e02 (empty_list n2) (decide_eq_true g2) (empty_list hz3.1) hlt
    · rcases form_of k2' with ⟨rfl, rfl, rfl⟩ | ⟨n2, g2⟩
      · exact grid_nz w m s e hbd HR p hp z1 o1 e1 z3 o3 e3 _ _ (Lib.hid ⟨k1, k2, k3, rfl, rfl, hsub, hs⟩) (Lib.hid ⟨okF, okC, ok3, okA⟩) e01 e02 (empty_list n1) (decide_eq_true g1) (empty_list hz3.1) hlt
      · exact grid_nn w m s e hbd HR p hp z1 o1 e1 z2 o2 e2 z3 o3 e3 _ _ (Lib.hid ⟨k1, k2, k3, rfl, rfl, hsub, hs⟩) (Lib.hid ⟨okF, okC, ok3, okA⟩) e01 e02 (empty_list n1) (decide_eq_true g1) (empty_list n2) (decide_eq_true g2) (empty_list hz3.1) hlt hfc

set_option maxRecDepth 100000 in
set_option maxHeartbeats 1600000 in
theorem grid_law (w : World) (m : Bool) (s : ByteArray) (e : Int) (_hs : s.size ≤ maxLen) (_he : (Lit.int .i64 e).wf = true) (p : Int) (_hp : (Lit.int .i64 p).wf = true) :
    Calls Tryz.prog 9 #[nu m s e, .int .i64 p] w (Ret (.bool true) w) := by
  obtain ⟨r, hr⟩ : ∃ r, longD 150 500 [(m, s, e)] = r := ⟨_, rfl⟩
  have HR := Lib.hid hr
  cases r with
  | true =>
    clear hr
    unfold nu
    go_enter Tryz.func9, Tryz.ntmps9
    go_wp2_with fail
    have hb := ((Below.refl w.heap.size w).alloc (Nat.le_refl _) (Obj.cells #[Value.bool m, Value.string s, Value.int IntKind.i64 e] 25)).alloc (by rw [World.size_alloc]; omega) (Obj.cells #[Value.bool m, Value.string s, Value.int IntKind.i64 e] 25)
    have hA := (Nk.new w m s e).alloc (Obj.cells #[Value.bool m, Value.string s, Value.int IntKind.i64 e] 25)
    have hrow := NAt.new (w.alloc (Obj.cells #[Value.bool m, Value.string s, Value.int IntKind.i64 e] 25)) 25 [(m, s, e)] #[.bool m, .string s, .int .i64 e] rfl
    rw [World.size_alloc] at hrow
    generalize ((w.alloc (Obj.cells #[Value.bool m, Value.string s, Value.int IntKind.i64 e] 25)).alloc (Obj.cells #[Value.bool m, Value.string s, Value.int IntKind.i64 e] 25)) = W0 at *
    refine (longd_any _ 150 500 (by omega) _ [(m, s, e)] 1 1 rfl (by omega) hrow).mono ?_
    rintro e9 W ⟨rfl, hq⟩
    replace hb := below_next hb hq
    replace hA := hA.below hq
    clear hq hrow
    rw [HR.out]
    clear hA
    go_wp2_with fail
    refine (yawake_any _).mono ?_
    rintro e9 V ⟨rfl, hq⟩
    replace hb := below_next hb hq
    clear hq
    go_wp2
    go_ret
    exact ⟨rfl, hb⟩
  | false =>
    have hbd := longd_false hr (m, s, e) (by simp)
    simp only at hbd
    clear hr
    by_cases hb1 : p < -1000 ∨ 1000 < p
    · unfold nu
      go_enter Tryz.func9, Tryz.ntmps9
      go_wp2_with fail
      have hb := ((Below.refl w.heap.size w).alloc (Nat.le_refl _) (Obj.cells #[Value.bool m, Value.string s, Value.int IntKind.i64 e] 25)).alloc (by rw [World.size_alloc]; omega) (Obj.cells #[Value.bool m, Value.string s, Value.int IntKind.i64 e] 25)
      have hA := (Nk.new w m s e).alloc (Obj.cells #[Value.bool m, Value.string s, Value.int IntKind.i64 e] 25)
      have hrow := NAt.new (w.alloc (Obj.cells #[Value.bool m, Value.string s, Value.int IntKind.i64 e] 25)) 25 [(m, s, e)] #[.bool m, .string s, .int .i64 e] rfl
      rw [World.size_alloc] at hrow
      generalize ((w.alloc (Obj.cells #[Value.bool m, Value.string s, Value.int IntKind.i64 e] 25)).alloc (Obj.cells #[Value.bool m, Value.string s, Value.int IntKind.i64 e] 25)) = W0 at *
      refine (longd_any _ 150 500 (by omega) _ [(m, s, e)] 1 1 rfl (by omega) hrow).mono ?_
      rintro e9 W ⟨rfl, hq⟩
      replace hb := below_next hb hq
      replace hA := hA.below hq
      clear hq hrow
      rw [HR.out]
      by_cases hb2 : p < -1000
      · have d1 : decide (p < -1000) = true := decide_eq_true hb2
        clear hA
        go_wp2_with fail
        refine (yawake_any _).mono ?_
        rintro e9 V ⟨rfl, hq⟩
        replace hb := below_next hb hq
        clear hq
        go_wp2
        go_ret
        exact ⟨rfl, hb⟩
      · have d1 : decide (p < -1000) = false := decide_eq_false hb2
        have d2 : decide (1000 < p) = true := decide_eq_true (by omega)
        clear hA
        go_wp2_with fail
        refine (yawake_any _).mono ?_
        rintro e9 V ⟨rfl, hq⟩
        replace hb := below_next hb hq
        clear hq
        go_wp2
        go_ret
        exact ⟨rfl, hb⟩
    · exact grid_small w m s e hbd HR p (by omega)
end Go.Proofs.YtpahmnifkinpiaaGreatDoor
