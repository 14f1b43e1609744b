/- A text moved up, walked. -/
import Derived.Test.YtemlhloipjbecaaDoorZero
namespace Go.Proofs.YtemlhloipjbecaaDoor
open Go.RowKit Go.Shelf

/-- Moved up by n, where n is not below 0. -/
def shlN (a : Nat) (n : Int) : Nat := if n < 0 then a else a * 2 ^ n.toNat
theorem val_shl (m : Nat) (xs : List Nat) : val (List.replicate (m / 64) 0 ++ ups (m % 64) 0 xs) = val xs * 2 ^ m := by
  rw [val_append, val_replicate, List.length_replicate, val_ups (Nat.mod_lt _ (by omega)), Nat.zero_add, Nat.add_zero]
  have e : B64 ^ (m / 64) = 2 ^ (64 * (m / 64)) := by rw [Nat.pow_mul]; rfl
  rw [e, Nat.mul_comm, Nat.mul_assoc, ← Nat.pow_add]
  congr 2
  omega

set_option maxRecDepth 100000 in
set_option maxHeartbeats 800000 in
theorem shl_any (w : World) (s : ByteArray) (n : Int) (hs : s.size ≤ 100000000) (hn : n ≤ 1000000000) :
    Calls Tryd.prog 32 #[.string s, .int .i64 n] w fun e w' => e = .returned (.string (fb (shlN (num s) n))) ∧ Below w.heap.size w w' := by
  have h1 := fb_num_size s
  go_enter Tryd.func32, Tryd.ntmps32
  go_wp2_with fail
  refine (bare_any _ s).mono ?_
  rintro e w' ⟨rfl, rfl⟩
  by_cases h0 : num s = 0
  · have hE := empty_of h0
    have HV : Hid (shlN (num s) n = num s) := by unfold shlN; rw [h0]; split; exact rfl; rw [Nat.zero_mul]; exact rfl
    clear h0
    go_wp2_with fail
    refine (clone_any _ _ (by omega)).mono ?_
    rintro e w' ⟨rfl, hb⟩
    go_wp2
    go_ret
    exact ⟨by rw [HV.out]; rfl, hb⟩
  · have hE := empty_not h0
    by_cases hn0 : n < 0
    · have HV : Hid (shlN (num s) n = num s) := by unfold shlN; rw [if_pos hn0]; exact rfl
      have hd : decide (n < 0) = true := by simpa using hn0
      clear h0 hn0
      go_wp2_with fail
      refine (clone_any _ _ (by omega)).mono ?_
      rintro e w' ⟨rfl, hb⟩
      go_wp2
      go_ret
      exact ⟨by rw [HV.out]; rfl, hb⟩
    · obtain ⟨m, rfl⟩ : ∃ m : Nat, n = m := ⟨n.toNat, by omega⟩
      have HV : Hid (shlN (num s) (m : Int) = num s * 2 ^ m) := by unfold shlN; rw [if_neg hn0]; exact rfl
      clear hn0 h0
      have hq : ((m : Int) / 64) = ((m / 64 : Nat) : Int) := by omega
      have HQ := Lib.hid hq; clear hq
      have hT := rooms_two w
      unfold roomZ at hT
      go_wp2_with (first
        | (at_builtin; refine wpList_append_zeros rfl (.tmp 24) (.tmp 26) rfl (w.heap.size + 1) 16 rfl hT.2.1 (m / 64) _ HQ.out rfl (by omega) ?_))
      intro g2 cap2 w1 hO hg ha
      have hT1 := hT.second hO hg (by rcases ha with h | h; exact .inl h; right; rw [World.size_alloc, World.size_alloc]; exact h)
      clear hT hO hg ha
      go_wp2_with fail
      refine (read_any _ w.heap.size 16 _ hT1.1 (by omega)).mono ?_
      rintro e w2 ⟨g1, cap1, xs, rfl, hO, hg, ha, hdx, hvx, _, hlx⟩
      have hT2 := hT1.first hO hg ha
      clear hT1 hO hg ha
      rw [num_fb] at hvx
      have hm : (m : Int) % 64 = ((m % 64 : Nat) : Int) := by omega
      have hw : IntKind.u64.wrap ((m : Int) % 64) = ((m % 64 : Nat) : Int) := by rw [IntKind.wrap_u64]; omega
      have hw2 : IntKind.u64.wrap ((m % 64 : Nat) : Int) = ((m % 64 : Nat) : Int) := by rw [← hm]; exact hw
      have HM := Lib.hid hm; clear hm
      obtain ⟨t1, t2, t3, t4, t5, t6⟩ := hT2
      go_wp2_with fail
      refine (up_at (n := m % 64) rfl t1.ds hdx (Nat.mod_lt _ (by omega)) (by omega)).mono ?_
      rintro e w3 ⟨rfl, hR, hb⟩
      have t2' := t2.below hb t2.lt
      have hb3 := t6.trans (hb.mono t6.size)
      have hul : (ups (m % 64) 0 xs).length = xs.length + 1 := length_ups _ _ _
      have hud := dig_ups (n := m % 64) (Nat.mod_lt _ (by omega)) hdx (c := 0) (Nat.two_pow_pos _)
      have hvs := val_shl m xs
      have HU := Lib.hid (And.intro hul hvs); clear hul hvs
      generalize ups (m % 64) 0 xs = us at *
      go_wp2_with (first
        | (at_builtin; refine wpList_append_row rfl (.tmp 28) (.tmp 35) rfl g2 cap2 (List.replicate (m / 64) 0) (m / 64) rfl (by simp) t2' w2.heap.size us (xs.length + 1) _ rfl HU.out.1 hR.ds0 (by omega) (by omega) ?_))
      intro g4 cap4 w4 hO4 hg4 ha4
      have hb4 := below_grown hb3 hb3.size hg4 t5
      go_wp2_with fail
      refine (text_any _ g4 0 cap4 _ _ hO4.ds (by simp [HU.out.1]) ((Dig.replicate _).append hud) (by omega) (by have := hO4.le; simp [HU.out.1] at this; omega) hO4.max).mono ?_
      rintro e w5 ⟨rfl, hb5⟩
      go_wp2
      go_ret
      exact ⟨by rw [HV.out, ← hvx, ← HU.out.2]; rfl, hb4.trans (hb5.mono hb4.size)⟩
end Go.Proofs.YtemlhloipjbecaaDoor
