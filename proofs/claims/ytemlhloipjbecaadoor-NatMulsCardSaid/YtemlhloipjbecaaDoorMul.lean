/- The product of two texts, walked. -/
import Derived.Test.YtemlhloipjbecaaDoorZero
import Derived.Deep.RegionLaw
namespace Go.Proofs.YtemlhloipjbecaaDoor
open Go.RowKit Go.Shelf

/-- Thirty-two noughts. -/
def bothZ : Obj := .cells #[.int .u64 0, .int .u64 0, .int .u64 0, .int .u64 0, .int .u64 0, .int .u64 0, .int .u64 0, .int .u64 0, .int .u64 0, .int .u64 0, .int .u64 0, .int .u64 0, .int .u64 0, .int .u64 0, .int .u64 0, .int .u64 0, .int .u64 0, .int .u64 0, .int .u64 0, .int .u64 0, .int .u64 0, .int .u64 0, .int .u64 0, .int .u64 0, .int .u64 0, .int .u64 0, .int .u64 0, .int .u64 0, .int .u64 0, .int .u64 0, .int .u64 0, .int .u64 0] 63
theorem both_own (w : World) : Own64 (w.alloc bothZ) w.heap.size 32 [] := by
  have h := Rw.new w 63 ((List.replicate 32 0).map dg)
  exact Own64.empty (L := (List.replicate 32 0).map dg) h (by unfold maxLen; simp)
def intM : Value → Nat | .int _ n => n.toNat | _ => 0

/-- Three rows that lie in three blocks, all behind what there was in w. -/
def Thr (w W : World) (g1 c1 : Nat) (xs : List Nat) (g2 c2 : Nat) (ys : List Nat) (g3 c3 : Nat) (zs : List Nat) : Prop :=
  Two w W g1 c1 xs g2 c2 ys ∧ Own64 W g3 c3 zs ∧ g3 ≠ g1 ∧ g3 ≠ g2 ∧ w.heap.size ≤ g3
theorem rooms_three (w : World) : Thr w (((w.alloc roomZ).alloc roomZ).alloc bothZ) w.heap.size 16 [] (w.heap.size + 1) 16 [] (w.heap.size + 1 + 1) 32 [] := by
  obtain ⟨h1, h2, h3, h4, h5, h6⟩ := rooms_two w
  have h := both_own ((w.alloc roomZ).alloc roomZ)
  rw [World.size_alloc, World.size_alloc] at h
  exact ⟨⟨h1.alloc _, h2.alloc _, h3, h4, h5, h6.alloc h6.size _⟩, h, by omega, by omega, by omega⟩
section
variable {w W w1 : World} {g1 c1 g2 c2 g3 c3 g4 c4 : Nat} {xs ys zs us : List Nat}
theorem Thr.drew (h : Thr w W g1 c1 xs g2 c2 ys g3 c3 zs) : Thr w W.drew g1 c1 xs g2 c2 ys g3 c3 zs :=
  ⟨⟨h.1.1, h.1.2.1, h.1.2.2.1, h.1.2.2.2.1, h.1.2.2.2.2.1, h.1.2.2.2.2.2.drew⟩, h.2⟩
theorem Thr.first (h : Thr w W g1 c1 xs g2 c2 ys g3 c3 zs) (hO : Own64 w1 g4 c4 us) (hg : W.grownBy w1 (some g1)) (ha : g4 = g1 ∨ W.heap.size ≤ g4) : Thr w w1 g4 c4 us g2 c2 ys g3 c3 zs := by
  obtain ⟨k1, k2, k3, k4, k5⟩ := h
  have l := k2.lt
  exact ⟨k1.first hO hg ha, k2.grown hg (by simp; omega), by omega, k4, k5⟩
theorem Thr.second (h : Thr w W g1 c1 xs g2 c2 ys g3 c3 zs) (hO : Own64 w1 g4 c4 us) (hg : W.grownBy w1 (some g2)) (ha : g4 = g2 ∨ W.heap.size ≤ g4) : Thr w w1 g1 c1 xs g4 c4 us g3 c3 zs := by
  obtain ⟨k1, k2, k3, k4, k5⟩ := h
  have l := k2.lt
  exact ⟨k1.second hO hg ha, k2.grown hg (by simp; omega), k3, by omega, k5⟩
theorem Thr.third (h : Thr w W g1 c1 xs g2 c2 ys g3 c3 zs) (hO : Own64 w1 g4 c4 us) (hg : W.grownBy w1 (some g3)) (ha : g4 = g3 ∨ W.heap.size ≤ g4) : Thr w w1 g1 c1 xs g2 c2 ys g4 c4 us := by
  obtain ⟨⟨h1, h2, h3, h4, h5, h6⟩, k2, k3, k4, k5⟩ := h
  have l1 := h1.lt
  have l2 := h2.lt
  have hsz := h6.size
  exact ⟨⟨h1.grown hg (by simp; omega), h2.grown hg (by simp; omega), h3, h4, h5, below_grown h6 hsz hg k5⟩, hO, by omega, by omega, by omega⟩
end
/-- Between the rounds of Mul. -/
def MU (w wr : World) (g1 : Nat) (xs : List Nat) (g2 : Nat) (ys : List Nat) (g3 : Nat) (T : TypeId) (post : List Value) (es : List Nat) (k : Nat) : Prop :=
  Ds wr g1 0 xs ∧ Ds wr g2 0 ys ∧ Rw wr g3 T ([] ++ es.map dg ++ post) ∧ Dig es ∧ es.length = xs.length + ys.length ∧ val es = val (xs.take k) * val ys ∧ Below w.heap.size w wr
theorem MU.step {w wr w1 : World} {g1 g2 g3 k o : Nat} {xs ys es us : List Nat} {T : TypeId} {post : List Value} (h : MU w wr g1 xs g2 ys g3 T post es k) (hdx : Dig xs) (hdy : Dig ys) (hk : k < xs.length) (h13 : g3 ≠ g1) (h23 : g3 ≠ g2) (hw : w.heap.size ≤ g3)
    (hR : Rw w1 g3 T ((es.take k).map dg ++ us.map dg ++ post)) (hg : wr.grownBy w1 (some g3)) (hul : us.length = (es.drop k).length) (hdu : Dig us) (hv : val us + B64 ^ (es.drop k).length * o = val (es.drop k) + xs[k] * val ys) : MU w w1 g1 xs g2 ys g3 T post (es.take k ++ us) (k + 1) := by
  obtain ⟨h1, h2, h3, h4, h5, h6, h7⟩ := h
  have hkl : k ≤ es.length := by omega
  have hlen : (es.take k ++ us).length = xs.length + ys.length := by rw [List.length_append, hul, List.length_take, List.length_drop]; omega
  have hd : Dig (es.take k ++ us) := (h4.take k).append hdu
  refine ⟨h1.grown hg (by simp; omega), h2.grown hg (by simp; omega), by rw [List.nil_append, List.map_append]; exact hR, hd, hlen, ?_, below_grown h7 h7.size hg hw⟩
  have e1 := val_append (es.take k) us
  have e2 := val_split es k hkl
  have e3 := take_succ_val xs hk
  have elen : (es.take k).length = k := by rw [List.length_take]; omega
  rw [elen] at e1
  have hB := val_lt hd
  rw [hlen] at hB
  have hx := val_lt (hdx.take (k + 1))
  have hy := val_lt hdy
  have hxl : (xs.take (k + 1)).length = k + 1 := by rw [List.length_take]; omega
  rw [hxl] at hx
  have hdl : (es.drop k).length = xs.length + ys.length - k := by rw [List.length_drop, h5]
  rw [hdl] at hv
  -- the whole equation
  have hpow : B64 ^ k * B64 ^ (xs.length + ys.length - k) = B64 ^ (xs.length + ys.length) := by rw [← Nat.pow_add]; congr 1; omega
  have hEq : val (es.take k ++ us) + B64 ^ (xs.length + ys.length) * o = val (xs.take (k + 1)) * val ys := by
    have := congrArg (fun x => val (es.take k) + B64 ^ k * x) hv
    simp only [Nat.mul_add, ← Nat.mul_assoc] at this
    rw [hpow] at this
    rw [e1, e3, Nat.add_mul, ← h6, e2]
    omega
  have hlt : val (xs.take (k + 1)) * val ys < B64 ^ (xs.length + ys.length) := by
    have a1 : val (xs.take (k + 1)) * val ys ≤ B64 ^ (k + 1) * val ys := Nat.mul_le_mul_right _ (Nat.le_of_lt hx)
    have a2 : B64 ^ (k + 1) * val ys < B64 ^ (k + 1) * B64 ^ ys.length := Nat.mul_lt_mul_of_pos_left hy (Nat.pow_pos B64_pos)
    have a3 : B64 ^ (k + 1) * B64 ^ ys.length ≤ B64 ^ (xs.length + ys.length) := by
      rw [← Nat.pow_add]
      exact Nat.pow_le_pow_right B64_pos (by omega)
    omega
  have ho : o = 0 := by
    cases o with
    | zero => rfl
    | succ o => rw [Nat.mul_succ] at hEq; omega
  rw [ho, Nat.mul_zero, Nat.add_zero] at hEq
  exact hEq

set_option maxRecDepth 100000 in
set_option maxHeartbeats 800000 in
theorem mul_any (w : World) (s t : ByteArray) (hs : s.size ≤ 100000000) (ht : t.size ≤ 100000000) :
    Calls Tryd.prog 28 #[.string s, .string t] w fun e w' => e = .returned (.string (fb (num s * num t))) ∧ Below w.heap.size w w' := by
  go_enter Tryd.func28, Tryd.ntmps28
  go_wp2
  have hT := (rooms_three w).drew
  unfold roomZ bothZ at hT
  refine wp_region_any (by kernel_rfl) ?_
  change wpAny _ _ _ _ _ _ _ (World.drew _)
  generalize World.drew _ = W at *
  refine wpAny_take (i := 0) (v := ?v0) rfl (by kernel_rfl) (by kernel_rfl) (by kernel_rfl) (fun _ _ _ h => h) (Or.inl ⟨by rfl, ?y0⟩) ?_
  case y0 => intro w; go_simp; first | done | with_reducible rfl
  refine wpAny_take (i := 1) (v := ?v1) rfl (by kernel_rfl) (by kernel_rfl) (by kernel_rfl) (fun _ _ _ h => h) (Or.inl ⟨by rfl, ?y1⟩) ?_
  case y1 => intro w; go_simp; first | done | with_reducible rfl
  refine wpAny_take (i := 3) (v := ?v3) rfl (by kernel_rfl) (by kernel_rfl) (by kernel_rfl) (fun _ _ _ h => h) (Or.inl ⟨by rfl, ?y3⟩) ?_
  case y3 => intro w; go_simp; first | done | with_reducible rfl
  refine wpAny_take (i := 4) (v := ?v4) rfl (by kernel_rfl) (by kernel_rfl) (by kernel_rfl) (fun _ _ _ h => h) (Or.inl ⟨by rfl, ?y4⟩) ?_
  case y4 => intro w; go_simp; first | done | with_reducible rfl
  refine wpAny_ready (rs := [2]) (by kernel_rfl) (by simp) ?_
  refine AllReady.cons rfl (fun K hK => ?_) AllReady.nil
  go_simp
  refine (read_any _ w.heap.size 16 s hT.1.1 (by omega)).mono ?_
  rintro e w1 ⟨g1, cap1, xs, rfl, hO, hg, ha, hdx, hvx, htx, hlx⟩
  have hT1 := hT.first hO hg ha
  clear hT hO hg ha
  refine hK _ _ ?_
  clear hK K
  refine wpAny_ready (rs := [5]) (by kernel_rfl) (by simp) ?_
  refine AllReady.cons rfl (fun K hK => ?_) AllReady.nil
  go_simp
  refine (read_any _ (w.heap.size + 1) 16 t hT1.1.2.1 (by omega)).mono ?_
  rintro e w2 ⟨g2, cap2, ys, rfl, hO, hg, ha, hdy, hvy, hty, hly⟩
  have hT2 := hT1.second hO hg ha
  clear hT1 hO hg ha
  refine hK _ _ ?_
  clear hK K
  refine wpAny_take (i := 6) (v := ?v6) rfl (by kernel_rfl) (by kernel_rfl) (by kernel_rfl) (fun _ _ _ h => h) (Or.inl ⟨by rfl, ?y6⟩) ?_
  case y6 => intro w; go_simp; first | done | with_reducible rfl
  refine wpAny_take (i := 7) (v := ?v7) rfl (by kernel_rfl) (by kernel_rfl) (by kernel_rfl) (fun _ _ _ h => h) (Or.inl ⟨by rfl, ?y7⟩) ?_
  case y7 => intro w; go_simp; first | done | with_reducible rfl
  refine wpAny_done (by kernel_rfl) ?_ _
  go_simp
  go_wp2_with (first
    | (at_builtin; refine wpList_append_zeros rfl (.tmp 19) (.tmp 24) rfl (w.heap.size + 1 + 1) 32 rfl hT2.2.1 (xs.length + ys.length) _ (by omega) rfl (by omega) ?_))
  intro g3 cap3 w3 hO3 hg3 ha3
  have hT3 := hT2.third hO3 hg3 ha3
  clear hT2 hO3 hg3 ha3
  obtain ⟨⟨t1, t2, t3, t4, t5, t6⟩, t7, t8, t9, t10⟩ := hT3
  obtain ⟨T, post, hR, hcp, hcm⟩ := t7.parts
  rw [List.length_replicate] at hcp
  have hMU : MU w w3 g1 xs g2 ys g3 T post (List.replicate (xs.length + ys.length) 0) 0 := by
    refine ⟨t1.ds, t2.ds, hR, Dig.replicate _, by simp, ?_, t6⟩
    rw [val_replicate]
    simp [val]
  have HC := Lib.hid (And.intro hcp hcm)
  have hcap : xs.length + ys.length ≤ cap3 := by omega
  have HX := Lib.hid (And.intro hvx hvy)
  clear t1 t2 t6 t7 hR hcp hcm hvx hvy htx hty
  go_wp2
  go_loopw [28] (fun i wr => ∃ (k : Nat) (es : List Nat), k ≤ xs.length ∧ i = .int .i64 k ∧ MU w wr g1 xs g2 ys g3 T post es k)
    (fun i _ => xs.length - intM i)
  case atStart => exact ⟨0, _, Nat.zero_le _, rfl, hMU⟩
  case round =>
    clear hMU
    obtain ⟨k, es, hk, rfl, hMU⟩ := hrel
    by_cases hlt : k < xs.length
    · have hcx := hMU.1 k hlt
      rw [Nat.zero_add] at hcx
      unfold dg at hcx
      obtain ⟨x, hx⟩ : ∃ x, x = xs[k] := ⟨_, rfl⟩
      rw [← hx] at hcx
      have hxB : x < B64 := by rw [hx]; exact hdx.get hlt
      have hel : es.length = xs.length + ys.length := hMU.2.2.2.2.1
      have hR3 : Rw wr g3 T ((es.take k).map dg ++ (es.drop k).map dg ++ post) := by
        rw [← List.map_append, List.take_append_drop]; exact hMU.2.2.1
      have HX2 := Lib.hid (And.intro hx hel); clear hx
      go_wp2_with fail
      refine (plusTimes_at (n := x) (by rw [List.length_drop, hel]) rfl hR3 (by simp; omega) hMU.2.1 (Ne.symm t9) (hMU.2.2.2.1.drop k) hdy hxB (by simp; omega) (by simp; omega)).mono ?_
      rintro e w4 ⟨us, o, rfl, hR4, hg4, hul, hdu, _, hval⟩
      have hMU4 : MU w w4 g1 xs g2 ys g3 T post (es.take k ++ us) (k + 1) := by
        refine hMU.step hdx hdy hlt t8 t9 t10 hR4 hg4 (by rw [hul, List.length_drop, hel]) hdu (o := o) ?_
        rw [List.length_drop, hel, ← HX2.out.1]
        exact hval
      clear hMU hR4 hg4 hul hdu hval hR3 hel
      go_wp2
      go_roundw
      case rel => exact ⟨k + 1, _, by omega, by simp, hMU4⟩
      case measure => simp [intM]; omega
    · have hkn : k = xs.length := by omega
      obtain ⟨_, _, m3, m4, m5, m6, m7⟩ := hMU
      have hds : Ds wr g3 0 es := Rw.ds m3 rfl
      go_wp2_with fail
      refine (text_any _ g3 0 cap3 _ es hds m5 m4 (by omega) hcap HC.out.2).mono ?_
      rintro e w4 ⟨rfl, hb4⟩
      have hve : val es = num s * num t := by rw [m6, hkn, List.take_length, HX.out.1, HX.out.2]
      clear m6
      go_wp2
      go_ret
      exact ⟨rfl, m7.trans (hb4.mono m7.size)⟩
end Go.Proofs.YtemlhloipjbecaaDoor
