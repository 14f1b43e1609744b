/- math/bits.Div64 at a divisor whose highest bit is 1, walked. -/
import Derived.Test.YtemlhloipjbecaaDoorRow1
import Derived.Test.YtemlhloipjbecaaDoorDivNum
import Derived.Deep.CutBlock
import Derived.Deep.DeepCutAuto
namespace Go.Proofs.YtemlhloipjbecaaDoor
open Go.RowKit Go.Shelf

theorem bitLen_norm (y : Nat) (h1 : 9223372036854775808 ≤ y) (h2 : y < B64) : Lib.bitLen y = 64 := by
  unfold B64 at h2
  rw [Lib.bitLen_shift 63 y (by omega) (by omega), show y / 2 ^ 63 = 1 by omega]
  rfl
theorem wrap_of (a : Nat) : ∃ b : Nat, IntKind.u64.wrap ((a : Nat) : Int) = (b : Int) ∧ b = a % 18446744073709551616 := ⟨_, by rw [IntKind.wrap_u64]; omega, rfl⟩
theorem lz_norm (y : Nat) (h1 : 9223372036854775808 ≤ y) (h2 : y < B64) (w : World) :
    Calls Tryd.prog 37 #[.int .u64 y] w fun e w' => e = .returned (.int .i64 0) ∧ w = w' :=
  (Tryd.bits_LeadingZeros64 (y : Int) w (by omega) (by unfold B64 at h2; omega)).mono fun e w' ⟨he, hw⟩ => by
    refine ⟨?_, hw.symm⟩
    rw [he, Int.toNat_natCast, bitLen_norm y h1 h2]
    rfl

set_option maxRecDepth 100000 in
set_option maxHeartbeats 400000 in
theorem div64_any (w : World) (hi lo y : Nat) (h1 : 9223372036854775808 ≤ y) (h2 : y < B64) (hlt : hi < y) (hlo : lo < B64) :
    Calls Tryd.prog 94 #[.int .u64 hi, .int .u64 lo, .int .u64 y] w fun e w' => ∃ q r : Nat, e = .returned (.tuple #[.int .u64 q, .int .u64 r]) ∧ q * y + r = hi * B64 + lo ∧ r < y ∧ q < B64 ∧ ∃ k, w' = w.drewN k := by
  by_cases h0 : hi = 0
  · subst h0
    have wq : IntKind.u64.wrap ((lo : Int) / (y : Int)) = (lo : Int) / (y : Int) := by
      have h3 : lo / y ≤ lo := Nat.div_le_self _ _
      unfold B64 at hlo
      rw [IntKind.wrap_u64, ← Int.natCast_ediv]
      generalize lo / y = t at h3
      omega
    go_enter Tryd.func94, Tryd.ntmps94
    go_wp2
    go_quiet (fail)
    go_wp2
    go_ret2
    refine ⟨lo / y, lo % y, ?_, ?_, Nat.mod_lt _ (by omega), ?_, _, rfl⟩
    · simp
    · rw [Nat.zero_mul, Nat.zero_add, Nat.mul_comm]; exact Nat.div_add_mod lo y
    · exact Nat.lt_of_le_of_lt (Nat.div_le_self _ _) hlo
  · have hb1 : ((y : Int) == 0) = false := by rw [beq_eq_false_iff_ne]; omega
    have hb2 : ¬ ((y : Int) ≤ (hi : Int)) := by omega
    have hb3 : ((hi : Int) == 0) = false := by rw [beq_eq_false_iff_ne]; omega
    obtain ⟨y1, y0, hy0, hy1, hyy⟩ : ∃ y1 y0 : Nat, y0 < 4294967296 ∧ y1 < 4294967296 ∧ y = y1 * 4294967296 + y0 := ⟨y / 4294967296, y % 4294967296, by omega, by unfold B64 at h2; omega, by omega⟩
    obtain ⟨u1, u0, hu0, hu1, huu⟩ : ∃ u1 u0 : Nat, u0 < 4294967296 ∧ u1 < 4294967296 ∧ lo = u1 * 4294967296 + u0 := ⟨lo / 4294967296, lo % 4294967296, by omega, by unfold B64 at hlo; omega, by omega⟩
    have wy : IntKind.u64.wrap (y : Int) = (y : Int) := by unfold B64 at h2; rw [IntKind.wrap_u64]; omega
    have wh : IntKind.u64.wrap (hi : Int) = (hi : Int) := by unfold B64 at h2; rw [IntKind.wrap_u64]; omega
    have wl : IntKind.u64.wrap (lo : Int) = (lo : Int) := by unfold B64 at hlo; rw [IntKind.wrap_u64]; omega
    have ey1 : (y : Int) / 4294967296 = (y1 : Int) := by omega
    have ey0 : bits .and .u64 (y : Int) 4294967295 = (y0 : Int) := by
      have := Mul64.maskN y h2
      rw [this]; omega
    have el1 : (lo : Int) / 4294967296 = (u1 : Int) := by omega
    have el0 : bits .and .u64 (lo : Int) 4294967295 = (u0 : Int) := by
      have := Mul64.maskN lo hlo
      rw [this]; omega
    have el : (lo : Int) / 18446744073709551616 = 0 := by unfold B64 at hlo; omega
    have eo : bits .or .u64 (hi : Int) 0 = (hi : Int) := by
      have := u64_or_nat hi 0 (by unfold B64 at h2; omega) (by omega)
      simpa using this
    have Hyy := Lib.hid hyy; clear hyy
    have Huu := Lib.hid huu; clear huu
    have hy1p : 2147483648 ≤ y1 := by have := Hyy.out; omega
    have G0 := Lib.hid (gs_init (u := u1) Hyy.out hy1p hy1 hy0 hlt hu1)
    obtain ⟨q, hq⟩ : ∃ q, q = hi / y1 := ⟨_, rfl⟩
    obtain ⟨r, hr⟩ : ∃ r, r = hi % y1 := ⟨_, rfl⟩
    rw [← hq, ← hr] at G0
    have wq : IntKind.u64.wrap ((hi : Int) / (y1 : Int)) = (q : Int) := by
      have h3 := G0.out.2.2.1
      rw [IntKind.wrap_u64, hq]
      rw [hq] at h3
      rw [← Int.natCast_ediv]; omega
    have wq2 : IntKind.u64.wrap ((q : Int) * (y1 : Int)) = (q : Int) * (y1 : Int) := by
      have h3 := G0.out.1
      have e := Int.natCast_mul q y1
      rw [IntKind.wrap_u64, ← e]; unfold B64 at h2; omega
    have wq3 : IntKind.u64.wrap ((hi : Int) - (q : Int) * (y1 : Int)) = (r : Int) := by
      have h3 := G0.out.1
      have e := Int.natCast_mul q y1
      rw [IntKind.wrap_u64, ← e]; unfold B64 at h2; omega
    clear hq hr
    go_enter Tryd.func94, Tryd.ntmps94
    go_upto_block 0 with (go_at_call 37; refine (lz_norm y h1 h2 _).mono ?_; rintro e w' ⟨rfl, rfl⟩)
    go_cut [15, 16] (fun s t wx => ∃ q r : Nat, s = .int .u64 q ∧ t = .int .u64 r ∧ Rt y (hi * 4294967296 + u1) q ∧ w = wx)
    case first =>
      go_wp2
      go_loop [15, 16] (fun s t => ∃ q r : Nat, s = .int .u64 q ∧ t = .int .u64 r ∧ Gs y1 y hi u1 q r) (fun s _ => (intOf s).toNat)
      case atStart => exact ⟨q, r, rfl, rfl, G0.out⟩
      case round =>
        clear wq wq2 wq3 G0
        obtain ⟨q, r, rfl, rfl, hG⟩ := hrel
        have hr := hG.2.1
        have hq := hG.2.2.1
        have w3 : IntKind.u64.wrap (4294967296 * (r : Int)) = 4294967296 * (r : Int) := by rw [IntKind.wrap_u64]; omega
        have w4 : IntKind.u64.wrap (4294967296 * (r : Int) + (u1 : Int)) = 4294967296 * (r : Int) + (u1 : Int) := by rw [IntKind.wrap_u64]; omega
        have w5 : IntKind.u64.wrap ((r : Int) + (y1 : Int)) = (r : Int) + (y1 : Int) := by rw [IntKind.wrap_u64]; omega
        have w6 : IntKind.u64.wrap ((q : Int) * (y0 : Int)) = (q : Int) * (y0 : Int) := by
          have h3 : q * y0 ≤ 4294967297 * 4294967295 := Nat.mul_le_mul hq (by omega)
          have e := Int.natCast_mul q y0
          rw [IntKind.wrap_u64, ← e]; omega
        have eq0 : (q : Int) * (y0 : Int) = ((q * y0 : Nat) : Int) := (Int.natCast_mul q y0).symm
        by_cases hA : 4294967296 ≤ q ∨ 4294967296 * r + u1 < q * y0
        · obtain ⟨d1, d2, d3, d4⟩ := gs_dec Hyy.out hlt hu1 hG hA
          have w7 : IntKind.u64.wrap ((q : Int) - 1) = (q : Int) - 1 := by rw [IntKind.wrap_u64]; omega
          have eq1 : (((q - 1 : Nat)) : Int) = (q : Int) - 1 := by omega
          have D := Lib.hid (And.intro d1 (And.intro d2 (And.intro d3 d4))); clear d1 d2 d3 d4
          have HG := Lib.hid hG; clear hG
          have EQ1 := Lib.hid eq1; clear eq1
          by_cases hB : 4294967296 ≤ r + y1
          · have tB : decide ((4294967296 : Int) ≤ (r : Int) + (y1 : Int)) = true := by simp; omega
            have hR := gs_break Hyy.out hy0 D.out.2.1 D.out.2.2.1 D.out.2.2.2 hB
            have HR := Lib.hid hR; clear hR hB
            by_cases hA1 : 4294967296 ≤ q
            · have tA : decide ((4294967296 : Int) ≤ (q : Int)) = true := by simp; omega
              clear hA hA1 hr hq eq0
              go_wp2
              go_meet
              exact ⟨q - 1, r + y1, by rw [EQ1.out], by go_num, HR.out, rfl⟩
            · have tA : decide ((4294967296 : Int) ≤ (q : Int)) = false := by simp; omega
              have tC : decide (4294967296 * (r : Int) + (u1 : Int) < (q : Int) * (y0 : Int)) = true := by rw [eq0]; simp only [decide_eq_true_eq]; omega
              clear hA hA1 hr hq eq0
              go_wp2
              go_meet
              exact ⟨q - 1, r + y1, by rw [EQ1.out], by go_num, HR.out, rfl⟩
          · have tB : decide ((4294967296 : Int) ≤ (r : Int) + (y1 : Int)) = false := by simp; omega
            have hR : Gs y1 y hi u1 (q - 1) (r + y1) := ⟨D.out.2.1, by omega, by have := D.out.2.2.1; omega, D.out.2.2.2⟩
            have HR := Lib.hid hR; clear hR hB
            have HD1 := Lib.hid D.out.1
            by_cases hA1 : 4294967296 ≤ q
            · have tA : decide ((4294967296 : Int) ≤ (q : Int)) = true := by simp; omega
              clear hA hA1 hr hq eq0
              go_wp2
              go_round
              case rel => exact ⟨q - 1, r + y1, by rw [EQ1.out], by go_num, HR.out⟩
              case measure => have := HD1.out; simp [intOf]; omega
            · have tA : decide ((4294967296 : Int) ≤ (q : Int)) = false := by simp; omega
              have tC : decide (4294967296 * (r : Int) + (u1 : Int) < (q : Int) * (y0 : Int)) = true := by rw [eq0]; simp only [decide_eq_true_eq]; omega
              clear hA hA1 hr hq eq0
              go_wp2
              go_round
              case rel => exact ⟨q - 1, r + y1, by rw [EQ1.out], by go_num, HR.out⟩
              case measure => have := HD1.out; simp [intOf]; omega
        · have tA : decide ((4294967296 : Int) ≤ (q : Int)) = false := by simp; omega
          have tC : decide (4294967296 * (r : Int) + (u1 : Int) < (q : Int) * (y0 : Int)) = false := by rw [eq0]; simp only [decide_eq_false_iff_not]; omega
          have hR := gs_exit Hyy.out hG (by omega)
          have HR := Lib.hid hR; clear hR hA hr hq hG eq0
          go_wp2
          go_meet
          exact ⟨q, r, rfl, rfl, HR.out, rfl⟩
    case rest =>
      clear wq wq2 wq3 G0
      obtain ⟨qa, ra, rfl, rfl, hRa, rfl⟩ := hcut
      obtain ⟨hv1, hv2⟩ := rt_rest hRa hlt hu1
      have hv3 := hRa.1
      obtain ⟨v, hv⟩ : ∃ v, v = hi * 4294967296 + u1 - qa * y := ⟨_, rfl⟩
      rw [← hv] at hv1
      have eN : qa * y + v = hi * 4294967296 + u1 := by omega
      clear hv hv3 hRa
      obtain ⟨a1, ea1, fa1⟩ := wrap_of (hi * 4294967296)
      obtain ⟨a2, ea2, fa2⟩ := wrap_of (a1 + u1)
      obtain ⟨a3, ea3, fa3⟩ := wrap_of (qa * y)
      have ev : IntKind.u64.wrap ((a2 : Int) - (a3 : Int)) = (v : Int) := by unfold B64 at h2; rw [IntKind.wrap_u64]; omega
      have G1 := Lib.hid (gs_init (hi := v) (u := u0) Hyy.out hy1p hy1 hy0 hv1 hu0)
      obtain ⟨q2, hq⟩ : ∃ q, q = v / y1 := ⟨_, rfl⟩
      obtain ⟨r2, hr⟩ : ∃ r, r = v % y1 := ⟨_, rfl⟩
      rw [← hq, ← hr] at G1
      have wq : IntKind.u64.wrap ((v : Int) / (y1 : Int)) = (q2 : Int) := by
        have h3 := G1.out.2.2.1
        rw [IntKind.wrap_u64, hq]
        rw [hq] at h3
        rw [← Int.natCast_ediv]; omega
      have wq2 : IntKind.u64.wrap ((q2 : Int) * (y1 : Int)) = (q2 : Int) * (y1 : Int) := by
        have h3 := G1.out.1
        have e := Int.natCast_mul q2 y1
        rw [IntKind.wrap_u64, ← e]; unfold B64 at h2; omega
      have wq3 : IntKind.u64.wrap ((v : Int) - (q2 : Int) * (y1 : Int)) = (r2 : Int) := by
        have h3 := G1.out.1
        have e := Int.natCast_mul q2 y1
        rw [IntKind.wrap_u64, ← e]; unfold B64 at h2; omega
      have Fa := Lib.hid (And.intro fa1 (And.intro fa2 fa3)); clear fa1 fa2 fa3
      have EN := Lib.hid eN; clear eN
      have HV := Lib.hid hv2; clear hv2
      simp only [Int.natCast_mul, Int.natCast_add, Int.cast_ofNat_Int] at ea1 ea2 ea3
      clear hq hr
      go_upto_block 2 with fail
      go_cut [18, 16] (fun s t wx => ∃ q r : Nat, s = .int .u64 q ∧ t = .int .u64 r ∧ Rt y (v * 4294967296 + u0) q ∧ w = wx)
      case first =>
        go_wp2
        go_loop [18, 16] (fun s t => ∃ q r : Nat, s = .int .u64 q ∧ t = .int .u64 r ∧ Gs y1 y v u0 q r) (fun s _ => (intOf s).toNat)
        case atStart => exact ⟨q2, r2, rfl, rfl, G1.out⟩
        case round =>
          clear wq wq2 wq3 G1
          obtain ⟨q, r, rfl, rfl, hG⟩ := hrel
          have hr := hG.2.1
          have hq := hG.2.2.1
          have w3 : IntKind.u64.wrap (4294967296 * (r : Int)) = 4294967296 * (r : Int) := by rw [IntKind.wrap_u64]; omega
          have w4 : IntKind.u64.wrap (4294967296 * (r : Int) + (u0 : Int)) = 4294967296 * (r : Int) + (u0 : Int) := by rw [IntKind.wrap_u64]; omega
          have w5 : IntKind.u64.wrap ((r : Int) + (y1 : Int)) = (r : Int) + (y1 : Int) := by rw [IntKind.wrap_u64]; omega
          have w6 : IntKind.u64.wrap ((q : Int) * (y0 : Int)) = (q : Int) * (y0 : Int) := by
            have h3 : q * y0 ≤ 4294967297 * 4294967295 := Nat.mul_le_mul hq (by omega)
            have e := Int.natCast_mul q y0
            rw [IntKind.wrap_u64, ← e]; omega
          have eq0 : (q : Int) * (y0 : Int) = ((q * y0 : Nat) : Int) := (Int.natCast_mul q y0).symm
          by_cases hA : 4294967296 ≤ q ∨ 4294967296 * r + u0 < q * y0
          · obtain ⟨d1, d2, d3, d4⟩ := gs_dec Hyy.out hv1 hu0 hG hA
            have w7 : IntKind.u64.wrap ((q : Int) - 1) = (q : Int) - 1 := by rw [IntKind.wrap_u64]; omega
            have eq1 : (((q - 1 : Nat)) : Int) = (q : Int) - 1 := by omega
            have D := Lib.hid (And.intro d1 (And.intro d2 (And.intro d3 d4))); clear d1 d2 d3 d4
            have HG := Lib.hid hG; clear hG
            have EQ1 := Lib.hid eq1; clear eq1
            by_cases hB : 4294967296 ≤ r + y1
            · have tB : decide ((4294967296 : Int) ≤ (r : Int) + (y1 : Int)) = true := by simp; omega
              have hR := gs_break Hyy.out hy0 D.out.2.1 D.out.2.2.1 D.out.2.2.2 hB
              have HR := Lib.hid hR; clear hR hB
              by_cases hA1 : 4294967296 ≤ q
              · have tA : decide ((4294967296 : Int) ≤ (q : Int)) = true := by simp; omega
                clear hA hA1 hr hq eq0
                go_wp2
                go_meet
                exact ⟨q - 1, r + y1, by rw [EQ1.out], by go_num, HR.out, rfl⟩
              · have tA : decide ((4294967296 : Int) ≤ (q : Int)) = false := by simp; omega
                have tC : decide (4294967296 * (r : Int) + (u0 : Int) < (q : Int) * (y0 : Int)) = true := by rw [eq0]; simp only [decide_eq_true_eq]; omega
                clear hA hA1 hr hq eq0
                go_wp2
                go_meet
                exact ⟨q - 1, r + y1, by rw [EQ1.out], by go_num, HR.out, rfl⟩
            · have tB : decide ((4294967296 : Int) ≤ (r : Int) + (y1 : Int)) = false := by simp; omega
              have hR : Gs y1 y v u0 (q - 1) (r + y1) := ⟨D.out.2.1, by omega, by have := D.out.2.2.1; omega, D.out.2.2.2⟩
              have HR := Lib.hid hR; clear hR hB
              have HD1 := Lib.hid D.out.1
              by_cases hA1 : 4294967296 ≤ q
              · have tA : decide ((4294967296 : Int) ≤ (q : Int)) = true := by simp; omega
                clear hA hA1 hr hq eq0
                go_wp2
                go_round
                case rel => exact ⟨q - 1, r + y1, by rw [EQ1.out], by go_num, HR.out⟩
                case measure => have := HD1.out; simp [intOf]; omega
              · have tA : decide ((4294967296 : Int) ≤ (q : Int)) = false := by simp; omega
                have tC : decide (4294967296 * (r : Int) + (u0 : Int) < (q : Int) * (y0 : Int)) = true := by rw [eq0]; simp only [decide_eq_true_eq]; omega
                clear hA hA1 hr hq eq0
                go_wp2
                go_round
                case rel => exact ⟨q - 1, r + y1, by rw [EQ1.out], by go_num, HR.out⟩
                case measure => have := HD1.out; simp [intOf]; omega
          · have tA : decide ((4294967296 : Int) ≤ (q : Int)) = false := by simp; omega
            have tC : decide (4294967296 * (r : Int) + (u0 : Int) < (q : Int) * (y0 : Int)) = false := by rw [eq0]; simp only [decide_eq_false_iff_not]; omega
            have hR := gs_exit Hyy.out hG (by omega)
            have HR := Lib.hid hR; clear hR hA hr hq hG eq0
            go_wp2
            go_meet
            exact ⟨q, r, rfl, rfl, HR.out, rfl⟩
      case rest =>
        clear wq wq2 wq3 G1
        obtain ⟨qb, rb, rfl, rfl, hRb, rfl⟩ := hcut
        obtain ⟨hs1, hs2⟩ := rt_rest hRb hv1 hu0
        have hs3 := hRb.1
        obtain ⟨z, hz⟩ : ∃ z, z = v * 4294967296 + u0 - qb * y := ⟨_, rfl⟩
        rw [← hz] at hs1
        have eM : qb * y + z = v * 4294967296 + u0 := by omega
        clear hz hs3 hRb
        obtain ⟨b1, eb1, fb1⟩ := wrap_of (v * 4294967296)
        obtain ⟨b2, eb2, fb2⟩ := wrap_of (b1 + u0)
        obtain ⟨b3, eb3, fb3⟩ := wrap_of (qb * y)
        have ez : IntKind.u64.wrap ((b2 : Int) - (b3 : Int)) = (z : Int) := by unfold B64 at h2; rw [IntKind.wrap_u64]; omega
        have hva := HV.out
        have w7 : IntKind.u64.wrap ((qa : Int) * 4294967296) = (qa : Int) * 4294967296 := by rw [IntKind.wrap_u64]; omega
        have w8 : IntKind.u64.wrap ((qa : Int) * 4294967296 + (qb : Int)) = (qa : Int) * 4294967296 + (qb : Int) := by rw [IntKind.wrap_u64]; omega
        have EM := Lib.hid eM; clear eM
        have HS := Lib.hid (And.intro hs1 hs2); clear hs1 hs2 hva
        simp only [Int.natCast_mul, Int.natCast_add, Int.cast_ofNat_Int] at eb1 eb2 eb3
        clear fb1 fb2 fb3 ea1 ea2 ea3 ev
        go_wp2
        go_ret2
        have hq1 := HV.out
        have hq2 := HS.out.2
        refine ⟨qa * 4294967296 + qb, z, ?_, ?_, HS.out.1, ?_, 0, rfl⟩
        · simp
        · have e1 := EN.out; have e2 := EM.out; have e3 := Huu.out
          rw [Nat.add_mul, Nat.mul_right_comm, B64_eq, e3]
          omega
        · unfold B64; omega

end Go.Proofs.YtemlhloipjbecaaDoor
