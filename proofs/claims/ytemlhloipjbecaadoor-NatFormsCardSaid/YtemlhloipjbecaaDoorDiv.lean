/- Quotient and rest of two texts, walked. -/
import Derived.Test.YtemlhloipjbecaaDoorRoom
import Derived.Deep.RegionLaw
namespace Go.Proofs.YtemlhloipjbecaaDoor
open Go.RowKit Go.Shelf

theorem Two.drew {w W : World} {g1 cap1 g2 cap2 : Nat} {xs ys : List Nat} (h : Two w W g1 cap1 xs g2 cap2 ys) : Two w W.drew g1 cap1 xs g2 cap2 ys :=
  ⟨h.1, h.2.1, h.2.2.1, h.2.2.2.1, h.2.2.2.2.1, h.2.2.2.2.2.drew⟩
theorem Top.zero {ds : List Nat} (h : Top ds) : val ds = 0 ↔ ds = [] := by
  constructor
  · intro h0
    refine Classical.byContradiction fun hn => ?_
    have := h.ge hn
    have := Nat.pow_pos (n := ds.length - 1) B64_pos
    omega
  · rintro rfl; rfl
theorem Top.last {ds : List Nat} (h : Top ds) (hn : ds ≠ []) : 0 < ds.getD (ds.length - 1) 0 := by
  rcases h with h | ⟨l, d, rfl, hd⟩
  · exact absurd h hn
  · simp
    omega
/-- What Div answers, as one value. -/
def divV (a b : Nat) : Value := if b = 0 then .tuple #[.string (fb 0), .string (fb 0), .bool false] else .tuple #[.string (fb (a / b)), .string (fb (a % b)), .bool true]

set_option maxRecDepth 100000 in
set_option maxHeartbeats 800000 in
theorem div_any (w : World) (s t : ByteArray) (hs : s.size ≤ 100000000) (ht : t.size ≤ 100000000) :
    Calls Tryd.prog 30 #[.string s, .string t] w fun e w' => e = .returned (divV (num s) (num t)) ∧ Below w.heap.size w w' := by
  go_enter Tryd.func30, Tryd.ntmps30
  go_wp2
  have hT := (rooms_two w).drew
  unfold roomZ at hT
  refine wp_region_any (by kernel_rfl) ?_
  change wpAny _ _ _ _ _ _ _ (World.drew _)
  generalize World.drew _ = W at *
  refine wpAny_take (i := 0) (v := ?v0) rfl (by kernel_rfl) (by kernel_rfl) (by kernel_rfl) (fun _ _ _ h => h) (Or.inl ⟨by rfl, ?y0⟩) ?_
  case y0 => intro w; go_simp; first | done | with_reducible rfl
  refine wpAny_take (i := 1) (v := ?v1) rfl (by kernel_rfl) (by kernel_rfl) (by kernel_rfl) (fun _ _ _ h => h) (Or.inl ⟨by rfl, ?y1⟩) ?_
  case y1 => intro w; go_simp; first | done | with_reducible rfl
  refine wpAny_take (i := 3) (v := ?v3) rfl (by kernel_rfl) (by kernel_rfl) (by kernel_rfl) (fun _ _ _ h => h) (Or.inl ⟨by rfl, ?y3⟩) ?_
  case y3 => intro w; go_simp; first | done | with_reducible rfl
  refine wpAny_take (i := 4) (v := ?v4) rfl (by kernel_rfl) (by kernel_rfl) (by kernel_rfl) (fun _ _ _ h => h) (Or.inl ⟨by rfl, ?y4⟩) ?_
  case y4 => intro w; go_simp; first | done | with_reducible rfl
  refine wpAny_ready (rs := [2]) (by kernel_rfl) (by simp) ?_
  refine AllReady.cons rfl (fun K hK => ?_) AllReady.nil
  go_simp
  refine (read_any _ w.heap.size 16 s hT.1 (by omega)).mono ?_
  rintro e w1 ⟨g1, cap1, xs, rfl, hO, hg, ha, hdx, hvx, htx, hlx⟩
  have hT1 := hT.first hO hg ha
  clear hT hO hg ha
  refine hK _ _ ?_
  clear hK K
  refine wpAny_ready (rs := [5]) (by kernel_rfl) (by simp) ?_
  refine AllReady.cons rfl (fun K hK => ?_) AllReady.nil
  go_simp
  refine (read_any _ (w.heap.size + 1) 16 t hT1.2.1 (by omega)).mono ?_
  rintro e w2 ⟨g2, cap2, ys, rfl, hO, hg, ha, hdy, hvy, hty, hly⟩
  have hT2 := hT1.second hO hg ha
  clear hT1 hO hg ha
  refine hK _ _ ?_
  clear hK K
  refine wpAny_take (i := 6) (v := ?v6) rfl (by kernel_rfl) (by kernel_rfl) (by kernel_rfl) (fun _ _ _ h => h) (Or.inl ⟨by rfl, ?y6⟩) ?_
  case y6 => intro w; go_simp; first | done | with_reducible rfl
  refine wpAny_take (i := 7) (v := ?v7) rfl (by kernel_rfl) (by kernel_rfl) (by kernel_rfl) (fun _ _ _ h => h) (Or.inl ⟨by rfl, ?y7⟩) ?_
  case y7 => intro w; go_simp; first | done | with_reducible rfl
  refine wpAny_done (by kernel_rfl) ?_ _
  go_simp
  obtain ⟨t1, t2, t3, t4, t5, t6⟩ := hT2
  by_cases hy0 : ys = []
  · have hn0 : num t = 0 := by rw [← hvy]; exact (Top.zero hty).2 hy0
    subst hy0
    have HV : Hid (divV (num s) (num t) = .tuple #[.string (fb 0), .string (fb 0), .bool false]) := by unfold divV; rw [if_pos hn0]; exact rfl
    clear hvy hn0 hty
    go_wp2
    go_ret3
    exact ⟨by rw [HV.out]; rfl, t6⟩
  · have hyl : 0 < ys.length := List.length_pos_iff.2 hy0
    have hn0 : num t ≠ 0 := by rw [← hvy]; exact fun h => hy0 ((Top.zero hty).1 h)
    have c0 : ((ys.length : Int) == 0) = false := by simp; exact hy0
    by_cases hlt : xs.length < ys.length
    · have hst : num s < num t := by
        refine Nat.lt_of_not_le fun h => ?_
        have := Top.length_le hdx hty (by rw [hvx, hvy]; exact h)
        omega
      have HV : Hid (divV (num s) (num t) = .tuple #[.string (fb 0), .string (fb (num s)), .bool true]) := by unfold divV; rw [if_neg hn0, Nat.div_eq_of_lt hst, Nat.mod_eq_of_lt hst]; exact rfl
      have HX := Lib.hid hvx
      clear hvx hvy hst hn0 hty htx
      go_wp2_with fail
      refine (text_any _ g1 0 cap1 _ xs t1.ds rfl hdx (by omega) t1.le t1.max).mono ?_
      rintro e w4 ⟨rfl, hb4⟩
      go_wp2
      go_ret3
      exact ⟨by rw [HV.out, ← HX.out]; rfl, t6.trans (hb4.mono t6.size)⟩
    · have hle : ys.length ≤ xs.length := by omega
      have HV : Hid (divV (num s) (num t) = .tuple #[.string (fb (val xs / val ys)), .string (fb (val xs % val ys)), .bool true]) := by unfold divV; rw [if_neg hn0, hvx, hvy]; exact rfl
      have htop := Top.last hty hy0
      clear hvx hvy hn0 hty htx
      go_wp2_with fail
      refine (divide_any _ g1 0 cap1 g2 0 cap2 xs.length ys.length xs ys t1.ds t2.ds rfl rfl hdx hdy hyl hle (by omega) htop).mono ?_
      rintro e w3 ⟨qg, xg, Q, R, rfl, hQ, hR, hQl, hRl, hQd, hRd, hQv, hRv, hb3⟩
      have hb3' := t6.trans (hb3.mono t6.size)
      have HE := Lib.hid (And.intro hQv (And.intro hRv (And.intro hQl hRl))); clear hQv hRv hQl hRl
      go_wp2_with fail
      refine (text_any _ qg 0 _ _ Q hQ.ds0 HE.out.2.2.1 hQd (by omega) (Nat.le_refl _) (by omega)).mono ?_
      rintro e w4 ⟨rfl, hb4⟩
      have hR4 := hR.below hb4 hR.lt
      go_wp2_with fail
      refine (text_any _ xg 0 _ _ R hR4.ds0 HE.out.2.2.2 hRd (by omega) (Nat.le_refl _) (by omega)).mono ?_
      rintro e w5 ⟨rfl, hb5⟩
      have hb4' := hb3'.trans (hb4.mono hb3'.size)
      go_wp2
      go_ret3
      exact ⟨by rw [HV.out, ← HE.out.1, ← HE.out.2.1]; rfl, hb4'.trans (hb5.mono hb4'.size)⟩
end Go.Proofs.YtemlhloipjbecaaDoor
