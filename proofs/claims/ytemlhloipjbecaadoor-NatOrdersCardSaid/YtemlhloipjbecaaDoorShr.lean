/- A text moved down, walked. -/
import Derived.Test.YtemlhloipjbecaaDoorRoom
import Derived.Deep.RegionLaw
namespace Go.Proofs.YtemlhloipjbecaaDoor
open Go.RowKit Go.Shelf

/-- Moved down by n, where n is not below 0. -/
def shrN (a : Nat) (n : Int) : Nat := if n < 0 then a else a / 2 ^ n.toNat
theorem pow256 (k : Nat) : 256 ^ k = 2 ^ (8 * k) := by rw [Nat.pow_mul]
theorem shr_zero {a m k : Nat} (ha : a < 256 ^ k) (h : k ≤ m / 8) : a / 2 ^ m = 0 := by
  refine Nat.div_eq_of_lt (Nat.lt_of_lt_of_le ha ?_)
  rw [pow256]
  exact Nat.pow_le_pow_right (by omega) (by omega)
theorem shr_parts (a m : Nat) : a / 256 ^ (m / 8) / 2 ^ (m % 8) = a / 2 ^ m := by
  rw [pow256, Nat.div_div_eq_div_mul, ← Nat.pow_add]
  congr 2
  omega
theorem num_head (t : ByteArray) (k : Nat) (h : k ≤ t.size) : num (t.extract 0 (t.size - k)) = num t / 256 ^ k := by
  have hl : t.data.toList.length = t.size := rfl
  have h1 : (t.extract 0 (t.size - k)).data.toList = t.data.toList.take (t.size - k) := by
    rw [ByteArray.data_extract, Array.toList_extract, List.extract_eq_take_drop]; simp
  unfold num
  rw [h1]
  have h2 := numL_append (t.data.toList.take (t.size - k)) (t.data.toList.drop (t.size - k))
  rw [List.take_append_drop] at h2
  have h3 := numL_lt (t.data.toList.drop (t.size - k))
  have h4 : (t.data.toList.drop (t.size - k)).length = k := by rw [List.length_drop, hl]; omega
  rw [h4] at h2 h3
  rw [h2, Nat.mul_comm, Nat.mul_add_div (Nat.pow_pos (by omega)), Nat.div_eq_of_lt h3, Nat.add_zero]

set_option maxRecDepth 100000 in
set_option maxHeartbeats 800000 in
theorem shr_any (w : World) (s : ByteArray) (n : Int) (hs : s.size ≤ 100000000) (hn : n ≤ 9223372036854775807) :
    Calls Tryd.prog 34 #[.string s, .int .i64 n] w fun e w' => e = .returned (.string (fb (shrN (num s) n))) ∧ Below w.heap.size w w' := by
  have h1 := fb_num_size s
  go_enter Tryd.func34, Tryd.ntmps34
  go_wp2_with fail
  refine (bare_any _ s).mono ?_
  rintro e w' ⟨rfl, rfl⟩
  by_cases hn0 : n < 0
  · have HV : Hid (shrN (num s) n = num s) := by unfold shrN; rw [if_pos hn0]; exact rfl
    have hd : decide (n < 0) = true := by simpa using hn0
    clear hn0
    go_wp2_with fail
    refine (clone_any _ _ (by omega)).mono ?_
    rintro e w' ⟨rfl, hb⟩
    go_wp2
    go_ret
    exact ⟨by rw [HV.out]; rfl, hb⟩
  · obtain ⟨m, rfl⟩ : ∃ m : Nat, n = m := ⟨n.toNat, by omega⟩
    have HV : Hid (shrN (num s) (m : Int) = num s / 2 ^ m) := by unfold shrN; rw [if_neg hn0]; exact rfl
    clear hn0
    by_cases hbig : (fb (num s)).size ≤ m / 8
    · have hd : decide (((fb (num s)).size : Int) ≤ (m : Int) / 8) = true := by simp; omega
      have hz : num s / 2 ^ m = 0 := by
        have := num_lt (fb (num s))
        rw [num_fb] at this
        exact shr_zero this hbig
      have HZ := Lib.hid hz; clear hz hbig
      go_wp2
      go_ret
      exact ⟨by rw [HV.out, HZ.out]; rfl, Below.refl _ _⟩
    · have hd : decide (((fb (num s)).size : Int) ≤ (m : Int) / 8) = false := by simp; omega
      obtain ⟨q, hq⟩ : ∃ q, q = m / 8 := ⟨_, rfl⟩
      have hqm : (m : Int) / 8 = (q : Int) := by omega
      have hqs : q < (fb (num s)).size := by omega
      have hnh := num_head (fb (num s)) q (by omega)
      rw [num_fb] at hnh
      have hsub : (((fb (num s)).size : Int) - (q : Int)).toNat = (fb (num s)).size - q := by omega
      have HQ := Lib.hid (And.intro hq hnh); clear hq hnh
      have wq : IntKind.i64.wrap (q : Int) = (q : Int) := by rw [IntKind.wrap_i64]; omega
      have wsq : IntKind.i64.wrap (((fb (num s)).size : Int) - (q : Int)) = ((fb (num s)).size : Int) - (q : Int) := by rw [IntKind.wrap_i64]; omega
      have b0 : (0 : Int) ≤ ((fb (num s)).size : Int) - (q : Int) := by omega
      have hqle : q ≤ (fb (num s)).size := by omega
      have b1 : ((fb (num s)).size : Int) - (q : Int) ≤ ((fb (num s)).size : Int) := by omega
      have hT : Own64 (w.alloc roomZ).drew w.heap.size 16 [] := (room_own w).drew
      have hB : Below w.heap.size w (w.alloc roomZ).drew := ((Below.refl _ _).alloc (Nat.le_refl _) _).drew
      have hB2 : w.heap.size ≤ (w.alloc roomZ).drew.heap.size := hB.size
      unfold roomZ at hT hB hB2
      clear hbig
      go_wp2
      refine wp_region_any (by kernel_rfl) ?_
      change wpAny _ _ _ _ _ _ _ (World.drew _)
      generalize World.drew _ = W at *
      refine wpAny_take (i := 0) (v := ?v0) rfl (by kernel_rfl) (by kernel_rfl) (by kernel_rfl) (fun _ _ _ h => h) (Or.inl ⟨by rfl, ?y0⟩) ?_
      case y0 => intro w; go_simp; first | done | with_reducible rfl
      refine wpAny_take (i := 1) (v := ?v1) rfl (by kernel_rfl) (by kernel_rfl) (by kernel_rfl) (fun _ _ _ h => h) (Or.inl ⟨by rfl, ?y1⟩) ?_
      case y1 => intro w; go_simp; first | done | with_reducible rfl
      refine wpAny_take (i := 2) (v := ?v2) rfl (by kernel_rfl) (by kernel_rfl) (by kernel_rfl) (fun _ _ _ h => h) (Or.inl ⟨by rfl, ?y2⟩) ?_
      case y2 => intro w; go_simp; first | done | with_reducible rfl
      refine wpAny_take (i := 3) (v := ?v3) rfl (by kernel_rfl) (by kernel_rfl) (by kernel_rfl) (fun _ _ _ h => h) (Or.inl ⟨by rfl, ?y3⟩) ?_
      case y3 => intro w; go_simp; first | done | with_reducible rfl
      refine wpAny_take (i := 4) (v := ?v4) rfl (by kernel_rfl) (by kernel_rfl) (by kernel_rfl) (fun _ _ _ h => h) (Or.inl ⟨by rfl, ?y4⟩) ?_
      case y4 => intro w; go_simp; first | done | with_reducible rfl
      refine wpAny_take (i := 5) (v := ?v5) rfl (by kernel_rfl) (by kernel_rfl) (by kernel_rfl) (fun _ _ _ h => h) (Or.inl ⟨by rfl, ?y5⟩) ?_
      case y5 => intro w; go_simp; first | done | with_reducible rfl
      refine wpAny_take (i := 6) (v := ?v6) rfl (by kernel_rfl) (by kernel_rfl) (by kernel_rfl) (fun _ _ _ h => h) (Or.inl ⟨by rfl, ?y6⟩) ?_
      case y6 => intro w; go_simp; first | done | with_reducible rfl
      refine wpAny_take (i := 7) (v := ?v7) rfl (by kernel_rfl) (by kernel_rfl) (by kernel_rfl) (fun _ _ _ h => h) (Or.inl ⟨by rfl, ?y7⟩) ?_
      case y7 => intro w; go_simp; first | done | with_reducible rfl
      refine wpAny_ready (rs := [8]) (by kernel_rfl) (by simp) ?_
      refine AllReady.cons rfl (fun K hK => ?_) AllReady.nil
      go_simp
      have hts : ((fb (num s)).extract 0 ((fb (num s)).size - q)).size = (fb (num s)).size - q := by rw [ByteArray.size_extract]; omega
      have HTS := Lib.hid hts; clear hts
      refine (read_any _ w.heap.size 16 _ hT (by rw [HTS.out]; omega)).mono ?_
      rintro e w1 ⟨g1, cap1, xs, rfl, hO, hg, ha, hdx, hvx, _, hlx⟩
      refine hK _ _ ?_
      clear hK K
      refine wpAny_take (i := 9) (v := ?v9) rfl (by kernel_rfl) (by kernel_rfl) (by kernel_rfl) (fun _ _ _ h => h) (Or.inl ⟨by rfl, ?y9⟩) ?_
      case y9 => intro w; go_simp; first | done | with_reducible rfl
      refine wpAny_done (by kernel_rfl) ?_ _
      go_simp
      have hb1 := below_grown hB hB2 hg (Nat.le_refl _)
      have hg1 : w.heap.size ≤ g1 := by omega
      rw [HQ.out.2, HQ.out.1] at hvx
      rw [HTS.out] at hlx
      clear hT hB hB2 hg ha
      have hm : (m : Int) % 8 = ((m % 8 : Nat) : Int) := by omega
      have hw : IntKind.u64.wrap ((m : Int) % 8) = ((m % 8 : Nat) : Int) := by rw [IntKind.wrap_u64]; omega
      have hw2 : IntKind.u64.wrap ((m % 8 : Nat) : Int) = ((m % 8 : Nat) : Int) := by rw [← hm]; exact hw
      have HM := Lib.hid hm; clear hm
      obtain ⟨T, post, hR, hcp, hcm⟩ := hO.parts
      have HC := Lib.hid (And.intro hcp hcm); clear hcp hcm
      go_wp2_with fail
      refine (down_any _ g1 0 cap1 T [] post xs (m % 8) hR rfl hdx (by omega) (by omega)).mono ?_
      rintro e w2 ⟨rfl, hR2, hg2⟩
      have hb2 := below_grown hb1 hb1.size hg2 hg1
      have hds : Ds w2 g1 0 (downs (m % 8) xs) := Rw.ds hR2 rfl
      have hdd := dig_downs (n := m % 8) (by omega) hdx
      have hvd := val_downs (n := m % 8) (by omega) xs
      have hld := length_downs (m % 8) xs
      rw [hvx, shr_parts] at hvd
      go_wp2_with fail
      refine (text_any _ g1 0 cap1 _ _ hds hld hdd (by omega) (by rw [HC.out.1]; omega) HC.out.2).mono ?_
      rintro e w3 ⟨rfl, hb3⟩
      go_wp2
      go_ret
      exact ⟨by rw [HV.out]; rfl, hb2.trans (hb3.mono hb2.size)⟩
end Go.Proofs.YtemlhloipjbecaaDoor
