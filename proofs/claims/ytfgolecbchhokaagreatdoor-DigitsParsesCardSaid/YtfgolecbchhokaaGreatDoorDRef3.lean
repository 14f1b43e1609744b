/- The document's answer for decimal texts: Parse, walked. -/
import Derived.Test.YtfgolecbchhokaaGreatDoorDRef2
import Derived.Deep.DeepFit
import Derived.Deep.RegionHeld3
namespace Go.Proofs.YtfgolecbchhokaaGreatDoor
open Go.RowKit Go.Shelf Go.Lib

def intP3 : Value → Nat | .int _ n => n.toNat | _ => 0
/-- Between the rounds of Parse: the digits up to k are reckoned. -/
def RPW (w wr : World) (s : ByteArray) (f k : Nat) (t : ByteArray) : Prop :=
  f ≤ k ∧ k ≤ s.size ∧ t.size ≤ k + 1 ∧ (∀ j, j < k → badAt s.data.toList j = false) ∧ num t = dV ((s.data.toList.take k).drop f) ∧ Below w.heap.size w wr ∧ Bk wr w.heap.size #[.bool false, .string ⟨#[]⟩]
theorem use_rof (w : World) (n : Nat) (hn : n < B64) (r : ByteArray) (hr : fb n = r) : Calls Tryz.prog 76 #[.int .u64 n] w (Ret (.string r) w) := hr ▸ ref_of w n hn
theorem use_rofz (w : World) (n : Nat) (z : Int) (hz : z = (n : Int)) (hn : n < B64) (r : ByteArray) (hr : fb n = r) : Calls Tryz.prog 76 #[.int .u64 z] w (Ret (.string r) w) := by
  subst hz
  exact use_rof w n hn r hr
theorem dV_step {l : List UInt8} {f k : Nat} (hf : f ≤ k) (hk : k < l.length) : dV ((l.take (k + 1)).drop f) = dV ((l.take k).drop f) * 10 + (l[k].toNat - 48) := by
  rw [List.take_succ_eq_append_getElem hk, List.drop_append_of_le_length (by rw [List.length_take]; omega), dV_snoc]
theorem tV_of {l : List UInt8} {f : Nat} {t : ByteArray} (hf : fst_ l = f) (ht : num t = dV ((l.take l.length).drop f)) : wv (decide (f = 1)) t = tV l := by
  rw [List.take_length] at ht
  unfold tV bodyOf
  rw [hf]
  by_cases h : f = 1
  · rw [if_pos h, decide_eq_true h, wv_true, ht]
  · rw [if_neg h, decide_eq_false h, wv_false, ht]
theorem bad_of {s : ByteArray} {z : Bool} {o : ByteArray} {p : Int} {k : Nat}
    (hp : (isBad s.data.toList = true ∧ z = false ∧ o = ⟨#[]⟩ ∧ p = badPlace s.data.toList) ∨ (isBad s.data.toList = false ∧ wf (tV s.data.toList) = wi z o ∧ p = -1)) (hb : isBad s.data.toList = true) (hk : badPlace s.data.toList = k) :
    z = false ∧ o = ⟨#[]⟩ ∧ p = (k : Int) := by
  rcases hp with ⟨_, a, b, c⟩ | ⟨a, _⟩
  · exact ⟨a, b, by rw [c, hk]⟩
  · rw [hb] at a; cases a
theorem good_of {s : ByteArray} {z : Bool} {o : ByteArray} {p : Int}
    (hp : (isBad s.data.toList = true ∧ z = false ∧ o = ⟨#[]⟩ ∧ p = badPlace s.data.toList) ∨ (isBad s.data.toList = false ∧ wf (tV s.data.toList) = wi z o ∧ p = -1)) (hb : isBad s.data.toList = false) :
    wf (tV s.data.toList) = wi z o ∧ p = -1 := by
  rcases hp with ⟨a, _⟩ | ⟨_, b⟩
  · rw [hb] at a; cases a
  · exact b

set_option maxRecDepth 100000 in
set_option maxHeartbeats 3200000 in
theorem rparse_0 (w : World) (s : ByteArray) (hs : s.size ≤ 100000) (hpos : 0 < s.size) (hf : fst_ s.data.toList = 0) (z : Bool) (o : ByteArray) (p : Int)
    (hp : (isBad s.data.toList = true ∧ z = false ∧ o = ⟨#[]⟩ ∧ p = badPlace s.data.toList) ∨ (isBad s.data.toList = false ∧ wf (tV s.data.toList) = wi z o ∧ p = -1)) :
    Calls Tryz.prog 20 #[.string s] w (Ret (.tuple #[.agg #[.bool z, .string o], .int .i64 p]) w) := by
  have HP := Lib.hid hp; clear hp
  have hlen : s.data.toList.length = s.size := rfl
  have h45 : (s.data.toList[0] == 45) = false := by
    unfold fst_ at hf
    rw [List.head?_eq_getElem?, List.getElem?_eq_getElem hpos] at hf
    by_cases h : s.data.toList[0] = 45
    · rw [if_pos (by rw [h])] at hf; omega
    · simpa using h
  have hs0 : (((s[0]'hpos).toNat : Int) == 45) = false := by
    rw [beq_nat] at h45
    have e : (s.data.toList[0]).toNat = (s[0]'hpos).toNat := rfl
    rw [e] at h45
    have e2 : (45 : UInt8).toNat = 45 := rfl
    rw [e2] at h45
    rw [beq_eq_false_iff_ne]; have := of_decide_eq_false h45; omega
  have hpos2 : (0 : Int) < (s.size : Int) := by omega
  have hstart : ∀ j, j < 0 → badAt s.data.toList j = false := by
    intro j hj
    omega
  have HF := Lib.hid hf
  have HST := Lib.hid hstart
  clear hstart h45 hf
  obtain ⟨x0, hx0⟩ : ∃ x0 : Nat, (s[0]'hpos).toNat = x0 := ⟨_, rfl⟩
  rw [hx0] at hs0
  go_enter Tryz.func20, Tryz.ntmps20
  go_wp2
  obtain ⟨hC, hb⟩ := blocks1 w #[Value.bool false, Value.string { data := #[] }]
  generalize (w.alloc (Obj.cells #[Value.bool false, Value.string { data := #[] }] 23)) = W0 at *
  have hR0 : RPW w W0 s 0 0 ⟨#[]⟩ := ⟨Nat.le_refl _, by omega, by show (0 : Nat) ≤ _; omega, HST.out, by skip; rfl, hb, hC⟩
  clear hC hb hs0
  go_loopw [5, 6] (fun mv i wr => ∃ (k : Nat) (t : ByteArray), mv = .string t ∧ i = .int .i64 k ∧ RPW w wr s 0 k t) (fun _ i _ => s.size - intP3 i)
  case atStart => exact ⟨0, ⟨#[]⟩, rfl, rfl, hR0⟩
  case round =>
    clear hR0
    obtain ⟨k, t, rfl, rfl, hfk, hks, hts, hj, hv, hb, hC⟩ := hrel
    have HJ := Lib.hid hj; clear hj
    have HV := Lib.hid hv; clear hv
    by_cases hlt : k < s.size
    · obtain ⟨y, hy⟩ : ∃ y : Nat, (s[k]'hlt).toNat = y := ⟨_, rfl⟩
      have hyl : (s.data.toList[k]).toNat = y := hy
      have hdg : isDig s.data.toList[k] = decide (48 ≤ y ∧ y ≤ 57) := by unfold isDig; rw [hyl]
      have h48 : (s.data.toList[k] == 48) = decide (y = 48) := by rw [← hyl]; exact beq_nat _ 48
      have hfs : 0 < s.size := by omega
      obtain ⟨x, hx⟩ : ∃ x : Nat, (s[0]'hfs).toNat = x := ⟨_, rfl⟩
      have hxx : x = x0 := hx.symm.trans hx0
      subst hxx
      have hxl : (s.data.toList[0]? == some 48) = decide (x = 48) := by
        rw [List.getElem?_eq_getElem hfs, ← hx]
        exact beq_nat s.data.toList[0] 48
      have h45k : (s.data.toList[k] == 45 && k == 0) = false := by
        rw [Bool.and_eq_false_iff, beq_eq_false_iff_ne, beq_eq_false_iff_ne]
        by_cases h : k = 0
        · left
          subst h
          intro e
          have hf := HF.out
          unfold fst_ at hf
          rw [List.head?_eq_getElem?, List.getElem?_eq_getElem hpos, if_pos (by rw [e])] at hf
          omega
        · right; exact h
      have hbk := badAt_get (l := s.data.toList) hlt
      rw [h45k, hdg, h48, HF.out, hxl] at hbk
      have hvs := dV_step (l := s.data.toList) hfk hlt
      rw [← HV.out, hyl] at hvs
      have HVS := Lib.hid hvs
      clear h45k hdg h48 hxl hyl hvs
      by_cases hgood : (48 ≤ y ∧ y ≤ 57) ∧ ¬ (y = 48 ∧ k = 0 ∧ 0 = 1) ∧ ¬ (k = 0 + 1 ∧ x = 48)
      · obtain ⟨hd, hz, hx48⟩ := hgood
        have hbf : badAt s.data.toList k = false := by
          rw [hbk, decide_eq_true hd]
          have e1 : (decide (y = 48) && k == 0 && (0 : Nat) == 1) = false := by
            rw [← Bool.not_eq_true]
            simp
            skip
          have e2 : (k == 0 + 1 && decide (x = 48)) = false := by
            rw [← Bool.not_eq_true]
            simp
            omega
          rw [e1, e2]
          rfl
        have bl : decide ((y : Int) < 48) = false := by apply decide_eq_false; omega
        have bg : decide ((57 : Int) < (y : Int)) = false := by apply decide_eq_false; omega
        obtain ⟨t1, ht1⟩ : ∃ t1, fb (num t * num ⟨#[10]⟩) = t1 := ⟨_, rfl⟩
        obtain ⟨t2, ht2⟩ : ∃ t2, fb (y - 48) = t2 := ⟨_, rfl⟩
        obtain ⟨t3, ht3⟩ : ∃ t3, fb (num t1 + num t2) = t3 := ⟨_, rfl⟩
        have n3 : num t3 = num t * 10 + (y - 48) := by rw [← ht3, num_fb, ← ht1, ← ht2, num_fb, num_fb, num_ten]
        have hsz : t3.size ≤ k + 1 + 1 := by
          rw [← ht3]
          refine Nat.le_trans (fb_size_le (k := t.size + 1) ?_) (by omega)
          rw [← num_fb (num t1 + num t2), ht3, n3, Nat.pow_succ]
          have := num_lt t
          omega
        have h1s : t1.size ≤ 200000 := by
          rw [← ht1, num_ten]
          refine Nat.le_trans (fb_size_le (k := t.size + 1) ?_) (by omega)
          rw [Nat.pow_succ]
          have := num_lt t
          omega
        have h2s : t2.size ≤ 200000 := by
          rw [← ht2]
          exact Nat.le_trans (fb_size_le (k := 1) (by omega)) (by omega)
        have hjn : ∀ j, j < k + 1 → badAt s.data.toList j = false := by
          intro j hj
          rcases Nat.lt_or_eq_of_le (Nat.le_of_lt_succ hj) with h | h
          · exact HJ.out j h
          · rw [h]; exact hbf
        have hvn : num t3 = dV ((s.data.toList.take (k + 1)).drop 0) := by rw [n3, HVS.out]
        have HT := Lib.hid (And.intro ht1 (And.intro ht2 (And.intro ht3 (And.intro hjn hvn))))
        have hyw : IntKind.u8.wrap ((y : Int) - 48) = ((y - 48 : Nat) : Int) := by rw [IntKind.wrap_u8]; omega
        have hyw2 : ((y : Int) - 48) % 256 = ((y - 48 : Nat) : Int) := by omega
        clear hbk hbf ht1 ht2 ht3 n3 hjn hvn hd
        by_cases hk0 : k = 0
        · subst hk0
          have hxy : y = x := hy.symm.trans hx
          subst hxy
          by_cases hy48 : y = 48
          · have by48 : ((y : Int) == 48) = true := by rw [beq_iff_eq]; omega
            clear hy48 hz
            go_wp2_with fail
            all_goals
              replace hb := hb.drew
              replace hC := hC.drew
              go_region_held3 (fun w' => Below w.heap.size w w') (first | assumption | exact hb.alloc hb.size _) (first
                | (go_at_call 75; go_fit (use_rmul _ t ⟨#[10]⟩ t1 (by omega) (by decide) HT.out.1); rintro e V ⟨rfl, hq⟩; replace hb := below_next hb hq; replace hC := hC.below hq)
                | (go_at_call 76; go_fit (use_rofz _ _ _ (by first | rfl | (rw [IntKind.wrap_u64]; omega) | (rw [IntKind.wrap_u64, IntKind.wrap_u8]; omega)) (by unfold B64; omega) t2 HT.out.2.1); rintro e V ⟨rfl, hq⟩; replace hb := below_next hb hq; replace hC := hC.below hq)
                | (go_at_call 74; go_fit (ref_add2 _ t1 t2 t3 (by omega) (by omega) HT.out.2.2.1); rintro e V ⟨rfl, hq⟩; replace hb := below_next (hb.alloc hb.size _) hq; replace hC := (hC.alloc _).below hq))
              all_goals
                go_wp2
                go_roundw
                case rel => exact ⟨_, t3, rfl, by simp, by omega, by omega, hsz, HT.out.2.2.2.1, HT.out.2.2.2.2, hb, hC⟩
                case measure => simp [intP3]; omega
          · have by48 : ((y : Int) == 48) = false := by rw [beq_eq_false_iff_ne]; omega
            go_wp2_with fail
            all_goals
              replace hb := hb.drew
              replace hC := hC.drew
              go_region_held3 (fun w' => Below w.heap.size w w') (first | assumption | exact hb.alloc hb.size _) (first
                | (go_at_call 75; go_fit (use_rmul _ t ⟨#[10]⟩ t1 (by omega) (by decide) HT.out.1); rintro e V ⟨rfl, hq⟩; replace hb := below_next hb hq; replace hC := hC.below hq)
                | (go_at_call 76; go_fit (use_rofz _ _ _ (by first | rfl | (rw [IntKind.wrap_u64]; omega) | (rw [IntKind.wrap_u64, IntKind.wrap_u8]; omega)) (by unfold B64; omega) t2 HT.out.2.1); rintro e V ⟨rfl, hq⟩; replace hb := below_next hb hq; replace hC := hC.below hq)
                | (go_at_call 74; go_fit (ref_add2 _ t1 t2 t3 (by omega) (by omega) HT.out.2.2.1); rintro e V ⟨rfl, hq⟩; replace hb := below_next (hb.alloc hb.size _) hq; replace hC := (hC.alloc _).below hq))
              all_goals
                go_wp2
                go_roundw
                case rel => exact ⟨_, t3, rfl, by simp, by omega, by omega, hsz, HT.out.2.2.2.1, HT.out.2.2.2.2, hb, hC⟩
                case measure => simp [intP3]; omega
        · have b0 : ((k : Int) == 0) = false := by rw [beq_eq_false_iff_ne]; omega
          by_cases hk1 : k = 1
          · subst hk1
            have bx : ((x : Int) == 48) = false := by rw [beq_eq_false_iff_ne]; omega
            go_wp2_with fail
            all_goals
              replace hb := hb.drew
              replace hC := hC.drew
              go_region_held3 (fun w' => Below w.heap.size w w') (first | assumption | exact hb.alloc hb.size _) (first
                | (go_at_call 75; go_fit (use_rmul _ t ⟨#[10]⟩ t1 (by omega) (by decide) HT.out.1); rintro e V ⟨rfl, hq⟩; replace hb := below_next hb hq; replace hC := hC.below hq)
                | (go_at_call 76; go_fit (use_rofz _ _ _ (by first | rfl | (rw [IntKind.wrap_u64]; omega) | (rw [IntKind.wrap_u64, IntKind.wrap_u8]; omega)) (by unfold B64; omega) t2 HT.out.2.1); rintro e V ⟨rfl, hq⟩; replace hb := below_next hb hq; replace hC := hC.below hq)
                | (go_at_call 74; go_fit (ref_add2 _ t1 t2 t3 (by omega) (by omega) HT.out.2.2.1); rintro e V ⟨rfl, hq⟩; replace hb := below_next (hb.alloc hb.size _) hq; replace hC := (hC.alloc _).below hq))
              all_goals
                go_wp2
                go_roundw
                case rel => exact ⟨_, t3, rfl, by simp, by omega, by omega, hsz, HT.out.2.2.2.1, HT.out.2.2.2.2, hb, hC⟩
                case measure => simp [intP3]; omega
          · have b1 : ((k : Int) == 1) = false := by rw [beq_eq_false_iff_ne]; omega
            go_wp2_with fail
            all_goals
              replace hb := hb.drew
              replace hC := hC.drew
              go_region_held3 (fun w' => Below w.heap.size w w') (first | assumption | exact hb.alloc hb.size _) (first
                | (go_at_call 75; go_fit (use_rmul _ t ⟨#[10]⟩ t1 (by omega) (by decide) HT.out.1); rintro e V ⟨rfl, hq⟩; replace hb := below_next hb hq; replace hC := hC.below hq)
                | (go_at_call 76; go_fit (use_rofz _ _ _ (by first | rfl | (rw [IntKind.wrap_u64]; omega) | (rw [IntKind.wrap_u64, IntKind.wrap_u8]; omega)) (by unfold B64; omega) t2 HT.out.2.1); rintro e V ⟨rfl, hq⟩; replace hb := below_next hb hq; replace hC := hC.below hq)
                | (go_at_call 74; go_fit (ref_add2 _ t1 t2 t3 (by omega) (by omega) HT.out.2.2.1); rintro e V ⟨rfl, hq⟩; replace hb := below_next (hb.alloc hb.size _) hq; replace hC := (hC.alloc _).below hq))
              all_goals
                go_wp2
                go_roundw
                case rel => exact ⟨_, t3, rfl, by simp, by omega, by omega, hsz, HT.out.2.2.2.1, HT.out.2.2.2.2, hb, hC⟩
                case measure => simp [intP3]; omega
      · have hbt : badAt s.data.toList k = true := by
          rw [hbk]
          by_cases h1 : 48 ≤ y ∧ y ≤ 57
          · rw [decide_eq_true h1]
            by_cases h2 : y = 48 ∧ k = 0 ∧ (0 : Nat) = 1
            · omega
            · have h3 : k = 0 + 1 ∧ x = 48 := by
                by_cases h : k = 0 + 1 ∧ x = 48
                · exact h
                · exact absurd ⟨h1, h2, h⟩ hgood
              simp [h3.1, h3.2]
          · rw [decide_eq_false h1]; rfl
        have hbp := badPlace_at hlt hbt HJ.out
        have hib : isBad s.data.toList = true := by unfold isBad; rw [hbp, hlen]; simp [hlt]
        have hbo := bad_of HP.out hib hbp
        obtain ⟨rfl, rfl, rfl⟩ := hbo
        obtain ⟨hC0, hC1, hC2, hC3⟩ := hC.facts
        clear hbk hbt hbp hib
        by_cases h1 : 48 ≤ y ∧ y ≤ 57
        · have bl : decide ((y : Int) < 48) = false := by apply decide_eq_false; omega
          have bg : decide ((57 : Int) < (y : Int)) = false := by apply decide_eq_false; omega
          by_cases h2 : y = 48 ∧ k = 0 ∧ (0 : Nat) = 1
          · obtain ⟨h2a, h2b, _⟩ := h2
            omega
          · have h3 : k = 0 + 1 ∧ x = 48 := by
              by_cases h : k = 0 + 1 ∧ x = 48
              · exact h
              · exact absurd ⟨h1, h2, h⟩ hgood
            obtain ⟨h3a, h3b⟩ := h3
            subst h3a
            have bx48 : ((x : Int) == 48) = true := by rw [beq_iff_eq]; omega
            clear hgood h3b h2
            go_wp2
            all_goals exact ret_ct rfl rfl rfl (hC.set_ _ _) ⟨rfl, below_set2 hb (by omega) _ _ _ _⟩
        · have bo : (decide ((y : Int) < 48) || decide ((57 : Int) < (y : Int))) = true := by
            rw [Bool.or_eq_true, decide_eq_true_eq, decide_eq_true_eq]; omega
          clear hgood
          have by48 : ((y : Int) == 48) = false := by rw [beq_eq_false_iff_ne]; omega
          by_cases hk0 : k = 0
          · subst hk0
            have hxy : y = x := hy.symm.trans hx
            subst hxy
            by_cases h2 : y < 48
            · have bl : decide ((y : Int) < 48) = true := by apply decide_eq_true; omega
              go_wp2
              all_goals exact ret_ct rfl rfl rfl (hC.set_ _ _) ⟨rfl, below_set2 hb (by omega) _ _ _ _⟩
            · have bl : decide ((y : Int) < 48) = false := by apply decide_eq_false; omega
              have bg : decide ((57 : Int) < (y : Int)) = true := by apply decide_eq_true; omega
              go_wp2
              all_goals exact ret_ct rfl rfl rfl (hC.set_ _ _) ⟨rfl, below_set2 hb (by omega) _ _ _ _⟩
          · have b0 : ((k : Int) == 0) = false := by rw [beq_eq_false_iff_ne]; omega
            by_cases h2 : y < 48
            · have bl : decide ((y : Int) < 48) = true := by apply decide_eq_true; omega
              go_wp2
              all_goals exact ret_ct rfl rfl rfl (hC.set_ _ _) ⟨rfl, below_set2 hb (by omega) _ _ _ _⟩
            · have bl : decide ((y : Int) < 48) = false := by apply decide_eq_false; omega
              have bg : decide ((57 : Int) < (y : Int)) = true := by apply decide_eq_true; omega
              go_wp2
              all_goals exact ret_ct rfl rfl rfl (hC.set_ _ _) ⟨rfl, below_set2 hb (by omega) _ _ _ _⟩
    · obtain rfl : k = s.size := by omega
      by_cases hone : s.size = 0
      · omega
      · have hib : isBad s.data.toList = false := isBad_of (by rw [hlen]; exact HJ.out) (by rw [HF.out, hlen]; omega)
        obtain ⟨hw, rfl⟩ := good_of HP.out hib
        have hz2 : wf (wv false t) = wi z o := by
          rw [← hw]
          congr 1
          exact tV_of HF.out HV.out
        have HZ := Lib.hid hz2
        have b1 : ((s.size : Int) == 0) = false := by rw [beq_eq_false_iff_ne]; omega
        obtain ⟨hC0, hC1, hC2, hC3⟩ := hC.facts
        clear hib hw hz2 hC0 hC1 hC2 hC3
        go_wp2_with fail
        refine (rform_any _ false t (by omega) z o HZ.out).mono ?_
        rintro e V ⟨rfl, hq⟩
        replace hb := below_next hb hq
        replace hC := hC.below hq
        clear hq
        obtain ⟨hC0, hC1, hC2, hC3⟩ := hC.facts
        go_wp2
        all_goals exact ret_ct rfl rfl rfl (hC.set_ _ _) ⟨rfl, below_set2 hb (by omega) _ _ _ _⟩

set_option maxRecDepth 100000 in
set_option maxHeartbeats 3200000 in
theorem rparse_1 (w : World) (s : ByteArray) (hs : s.size ≤ 100000) (hpos : 0 < s.size) (hf : fst_ s.data.toList = 1) (z : Bool) (o : ByteArray) (p : Int)
    (hp : (isBad s.data.toList = true ∧ z = false ∧ o = ⟨#[]⟩ ∧ p = badPlace s.data.toList) ∨ (isBad s.data.toList = false ∧ wf (tV s.data.toList) = wi z o ∧ p = -1)) :
    Calls Tryz.prog 20 #[.string s] w (Ret (.tuple #[.agg #[.bool z, .string o], .int .i64 p]) w) := by
  have HP := Lib.hid hp; clear hp
  have hlen : s.data.toList.length = s.size := rfl
  have h45 : (s.data.toList[0] == 45) = true := by
    unfold fst_ at hf
    rw [List.head?_eq_getElem?, List.getElem?_eq_getElem hpos] at hf
    by_cases h : s.data.toList[0] = 45
    · rw [h]; rfl
    · rw [if_neg (by simpa using h)] at hf; omega
  have hs0 : (((s[0]'hpos).toNat : Int) == 45) = true := by
    rw [beq_nat] at h45
    have e : (s.data.toList[0]).toNat = (s[0]'hpos).toNat := rfl
    rw [e] at h45
    have e2 : (45 : UInt8).toNat = 45 := rfl
    rw [e2] at h45
    rw [beq_iff_eq]; have := of_decide_eq_true h45; omega
  have hpos2 : (0 : Int) < (s.size : Int) := by omega
  have hstart : ∀ j, j < 1 → badAt s.data.toList j = false := by
    intro j hj
    obtain rfl : j = 0 := by omega
    rw [badAt_get hpos, h45]
    rfl
  have HF := Lib.hid hf
  have HST := Lib.hid hstart
  clear hstart h45 hf
  obtain ⟨x0, hx0⟩ : ∃ x0 : Nat, (s[0]'hpos).toNat = x0 := ⟨_, rfl⟩
  rw [hx0] at hs0
  go_enter Tryz.func20, Tryz.ntmps20
  go_wp2
  obtain ⟨hC, hb⟩ := blocks1 w #[Value.bool false, Value.string { data := #[] }]
  generalize (w.alloc (Obj.cells #[Value.bool false, Value.string { data := #[] }] 23)) = W0 at *
  have hR0 : RPW w W0 s 1 1 ⟨#[]⟩ := ⟨Nat.le_refl _, by omega, by show (0 : Nat) ≤ _; omega, HST.out, by rw [List.drop_eq_nil_of_le (by rw [List.length_take]; omega)]; rfl, hb, hC⟩
  clear hC hb hs0
  go_loopw [5, 6] (fun mv i wr => ∃ (k : Nat) (t : ByteArray), mv = .string t ∧ i = .int .i64 k ∧ RPW w wr s 1 k t) (fun _ i _ => s.size - intP3 i)
  case atStart => exact ⟨1, ⟨#[]⟩, rfl, rfl, hR0⟩
  case round =>
    clear hR0
    obtain ⟨k, t, rfl, rfl, hfk, hks, hts, hj, hv, hb, hC⟩ := hrel
    have HJ := Lib.hid hj; clear hj
    have HV := Lib.hid hv; clear hv
    by_cases hlt : k < s.size
    · obtain ⟨y, hy⟩ : ∃ y : Nat, (s[k]'hlt).toNat = y := ⟨_, rfl⟩
      have hyl : (s.data.toList[k]).toNat = y := hy
      have hdg : isDig s.data.toList[k] = decide (48 ≤ y ∧ y ≤ 57) := by unfold isDig; rw [hyl]
      have h48 : (s.data.toList[k] == 48) = decide (y = 48) := by rw [← hyl]; exact beq_nat _ 48
      have hfs : 1 < s.size := by omega
      obtain ⟨x, hx⟩ : ∃ x : Nat, (s[1]'hfs).toNat = x := ⟨_, rfl⟩
      skip
      skip
      have hxl : (s.data.toList[1]? == some 48) = decide (x = 48) := by
        rw [List.getElem?_eq_getElem hfs, ← hx]
        exact beq_nat s.data.toList[1] 48
      have h45k : (s.data.toList[k] == 45 && k == 0) = false := by
        rw [Bool.and_eq_false_iff, beq_eq_false_iff_ne, beq_eq_false_iff_ne]
        right; omega
      have hbk := badAt_get (l := s.data.toList) hlt
      rw [h45k, hdg, h48, HF.out, hxl] at hbk
      have hvs := dV_step (l := s.data.toList) hfk hlt
      rw [← HV.out, hyl] at hvs
      have HVS := Lib.hid hvs
      clear h45k hdg h48 hxl hyl hvs
      by_cases hgood : (48 ≤ y ∧ y ≤ 57) ∧ ¬ (y = 48 ∧ k = 1 ∧ 1 = 1) ∧ ¬ (k = 1 + 1 ∧ x = 48)
      · obtain ⟨hd, hz, hx48⟩ := hgood
        have hbf : badAt s.data.toList k = false := by
          rw [hbk, decide_eq_true hd]
          have e1 : (decide (y = 48) && k == 1 && (1 : Nat) == 1) = false := by
            rw [← Bool.not_eq_true]
            simp
            omega
          have e2 : (k == 1 + 1 && decide (x = 48)) = false := by
            rw [← Bool.not_eq_true]
            simp
            omega
          rw [e1, e2]
          rfl
        have bl : decide ((y : Int) < 48) = false := by apply decide_eq_false; omega
        have bg : decide ((57 : Int) < (y : Int)) = false := by apply decide_eq_false; omega
        obtain ⟨t1, ht1⟩ : ∃ t1, fb (num t * num ⟨#[10]⟩) = t1 := ⟨_, rfl⟩
        obtain ⟨t2, ht2⟩ : ∃ t2, fb (y - 48) = t2 := ⟨_, rfl⟩
        obtain ⟨t3, ht3⟩ : ∃ t3, fb (num t1 + num t2) = t3 := ⟨_, rfl⟩
        have n3 : num t3 = num t * 10 + (y - 48) := by rw [← ht3, num_fb, ← ht1, ← ht2, num_fb, num_fb, num_ten]
        have hsz : t3.size ≤ k + 1 + 1 := by
          rw [← ht3]
          refine Nat.le_trans (fb_size_le (k := t.size + 1) ?_) (by omega)
          rw [← num_fb (num t1 + num t2), ht3, n3, Nat.pow_succ]
          have := num_lt t
          omega
        have h1s : t1.size ≤ 200000 := by
          rw [← ht1, num_ten]
          refine Nat.le_trans (fb_size_le (k := t.size + 1) ?_) (by omega)
          rw [Nat.pow_succ]
          have := num_lt t
          omega
        have h2s : t2.size ≤ 200000 := by
          rw [← ht2]
          exact Nat.le_trans (fb_size_le (k := 1) (by omega)) (by omega)
        have hjn : ∀ j, j < k + 1 → badAt s.data.toList j = false := by
          intro j hj
          rcases Nat.lt_or_eq_of_le (Nat.le_of_lt_succ hj) with h | h
          · exact HJ.out j h
          · rw [h]; exact hbf
        have hvn : num t3 = dV ((s.data.toList.take (k + 1)).drop 1) := by rw [n3, HVS.out]
        have HT := Lib.hid (And.intro ht1 (And.intro ht2 (And.intro ht3 (And.intro hjn hvn))))
        have hyw : IntKind.u8.wrap ((y : Int) - 48) = ((y - 48 : Nat) : Int) := by rw [IntKind.wrap_u8]; omega
        have hyw2 : ((y : Int) - 48) % 256 = ((y - 48 : Nat) : Int) := by omega
        clear hbk hbf ht1 ht2 ht3 n3 hjn hvn hd
        by_cases hk1 : k = 1
        · subst hk1
          have hxy : y = x := hy.symm.trans hx
          subst hxy
          have by48 : ((y : Int) == 48) = false := by rw [beq_eq_false_iff_ne]; omega
          go_wp2_with fail
          all_goals
            replace hb := hb.drew
            replace hC := hC.drew
            go_region_held3 (fun w' => Below w.heap.size w w') (first | assumption | exact hb.alloc hb.size _) (first
              | (go_at_call 75; go_fit (use_rmul _ t ⟨#[10]⟩ t1 (by omega) (by decide) HT.out.1); rintro e V ⟨rfl, hq⟩; replace hb := below_next hb hq; replace hC := hC.below hq)
              | (go_at_call 76; go_fit (use_rofz _ _ _ (by first | rfl | (rw [IntKind.wrap_u64]; omega) | (rw [IntKind.wrap_u64, IntKind.wrap_u8]; omega)) (by unfold B64; omega) t2 HT.out.2.1); rintro e V ⟨rfl, hq⟩; replace hb := below_next hb hq; replace hC := hC.below hq)
              | (go_at_call 74; go_fit (ref_add2 _ t1 t2 t3 (by omega) (by omega) HT.out.2.2.1); rintro e V ⟨rfl, hq⟩; replace hb := below_next (hb.alloc hb.size _) hq; replace hC := (hC.alloc _).below hq))
            all_goals
              go_wp2
              go_roundw
              case rel => exact ⟨_, t3, rfl, by simp, by omega, by omega, hsz, HT.out.2.2.2.1, HT.out.2.2.2.2, hb, hC⟩
              case measure => simp [intP3]; omega
        · have b1 : ((k : Int) == 1) = false := by rw [beq_eq_false_iff_ne]; omega
          by_cases hk2 : k = 2
          · subst hk2
            have bx : ((x : Int) == 48) = false := by rw [beq_eq_false_iff_ne]; omega
            go_wp2_with fail
            all_goals
              replace hb := hb.drew
              replace hC := hC.drew
              go_region_held3 (fun w' => Below w.heap.size w w') (first | assumption | exact hb.alloc hb.size _) (first
                | (go_at_call 75; go_fit (use_rmul _ t ⟨#[10]⟩ t1 (by omega) (by decide) HT.out.1); rintro e V ⟨rfl, hq⟩; replace hb := below_next hb hq; replace hC := hC.below hq)
                | (go_at_call 76; go_fit (use_rofz _ _ _ (by first | rfl | (rw [IntKind.wrap_u64]; omega) | (rw [IntKind.wrap_u64, IntKind.wrap_u8]; omega)) (by unfold B64; omega) t2 HT.out.2.1); rintro e V ⟨rfl, hq⟩; replace hb := below_next hb hq; replace hC := hC.below hq)
                | (go_at_call 74; go_fit (ref_add2 _ t1 t2 t3 (by omega) (by omega) HT.out.2.2.1); rintro e V ⟨rfl, hq⟩; replace hb := below_next (hb.alloc hb.size _) hq; replace hC := (hC.alloc _).below hq))
              all_goals
                go_wp2
                go_roundw
                case rel => exact ⟨_, t3, rfl, by simp, by omega, by omega, hsz, HT.out.2.2.2.1, HT.out.2.2.2.2, hb, hC⟩
                case measure => simp [intP3]; omega
          · have b2 : ((k : Int) == 2) = false := by rw [beq_eq_false_iff_ne]; omega
            go_wp2_with fail
            all_goals
              replace hb := hb.drew
              replace hC := hC.drew
              go_region_held3 (fun w' => Below w.heap.size w w') (first | assumption | exact hb.alloc hb.size _) (first
                | (go_at_call 75; go_fit (use_rmul _ t ⟨#[10]⟩ t1 (by omega) (by decide) HT.out.1); rintro e V ⟨rfl, hq⟩; replace hb := below_next hb hq; replace hC := hC.below hq)
                | (go_at_call 76; go_fit (use_rofz _ _ _ (by first | rfl | (rw [IntKind.wrap_u64]; omega) | (rw [IntKind.wrap_u64, IntKind.wrap_u8]; omega)) (by unfold B64; omega) t2 HT.out.2.1); rintro e V ⟨rfl, hq⟩; replace hb := below_next hb hq; replace hC := hC.below hq)
                | (go_at_call 74; go_fit (ref_add2 _ t1 t2 t3 (by omega) (by omega) HT.out.2.2.1); rintro e V ⟨rfl, hq⟩; replace hb := below_next (hb.alloc hb.size _) hq; replace hC := (hC.alloc _).below hq))
              all_goals
                go_wp2
                go_roundw
                case rel => exact ⟨_, t3, rfl, by simp, by omega, by omega, hsz, HT.out.2.2.2.1, HT.out.2.2.2.2, hb, hC⟩
                case measure => simp [intP3]; omega
      · have hbt : badAt s.data.toList k = true := by
          rw [hbk]
          by_cases h1 : 48 ≤ y ∧ y ≤ 57
          · rw [decide_eq_true h1]
            by_cases h2 : y = 48 ∧ k = 1 ∧ (1 : Nat) = 1
            · simp [h2.1, h2.2.1]
            · have h3 : k = 1 + 1 ∧ x = 48 := by
                by_cases h : k = 1 + 1 ∧ x = 48
                · exact h
                · exact absurd ⟨h1, h2, h⟩ hgood
              simp [h3.1, h3.2]
          · rw [decide_eq_false h1]; rfl
        have hbp := badPlace_at hlt hbt HJ.out
        have hib : isBad s.data.toList = true := by unfold isBad; rw [hbp, hlen]; simp [hlt]
        have hbo := bad_of HP.out hib hbp
        obtain ⟨rfl, rfl, rfl⟩ := hbo
        obtain ⟨hC0, hC1, hC2, hC3⟩ := hC.facts
        clear hbk hbt hbp hib
        by_cases h1 : 48 ≤ y ∧ y ≤ 57
        · have bl : decide ((y : Int) < 48) = false := by apply decide_eq_false; omega
          have bg : decide ((57 : Int) < (y : Int)) = false := by apply decide_eq_false; omega
          by_cases h2 : y = 48 ∧ k = 1 ∧ (1 : Nat) = 1
          · obtain ⟨h2a, h2b, _⟩ := h2
            skip
            subst h2b
            have hxy : y = x := hy.symm.trans hx
            subst hxy
            have by48 : ((y : Int) == 48) = true := by rw [beq_iff_eq]; omega
            clear hgood h2a
            go_wp2
            all_goals exact ret_ct rfl rfl rfl (hC.set_ _ _) ⟨rfl, below_set2 hb (by omega) _ _ _ _⟩
          · have h3 : k = 1 + 1 ∧ x = 48 := by
              by_cases h : k = 1 + 1 ∧ x = 48
              · exact h
              · exact absurd ⟨h1, h2, h⟩ hgood
            obtain ⟨h3a, h3b⟩ := h3
            subst h3a
            have bx48 : ((x : Int) == 48) = true := by rw [beq_iff_eq]; omega
            clear hgood h3b h2
            go_wp2
            all_goals exact ret_ct rfl rfl rfl (hC.set_ _ _) ⟨rfl, below_set2 hb (by omega) _ _ _ _⟩
        · have bo : (decide ((y : Int) < 48) || decide ((57 : Int) < (y : Int))) = true := by
            rw [Bool.or_eq_true, decide_eq_true_eq, decide_eq_true_eq]; omega
          clear hgood
          have by48 : ((y : Int) == 48) = false := by rw [beq_eq_false_iff_ne]; omega
          by_cases hk0 : k = 1
          · subst hk0
            have hxy : y = x := hy.symm.trans hx
            subst hxy
            by_cases h2 : y < 48
            · have bl : decide ((y : Int) < 48) = true := by apply decide_eq_true; omega
              go_wp2
              all_goals exact ret_ct rfl rfl rfl (hC.set_ _ _) ⟨rfl, below_set2 hb (by omega) _ _ _ _⟩
            · have bl : decide ((y : Int) < 48) = false := by apply decide_eq_false; omega
              have bg : decide ((57 : Int) < (y : Int)) = true := by apply decide_eq_true; omega
              go_wp2
              all_goals exact ret_ct rfl rfl rfl (hC.set_ _ _) ⟨rfl, below_set2 hb (by omega) _ _ _ _⟩
          · have b0 : ((k : Int) == 1) = false := by rw [beq_eq_false_iff_ne]; omega
            by_cases h2 : y < 48
            · have bl : decide ((y : Int) < 48) = true := by apply decide_eq_true; omega
              go_wp2
              all_goals exact ret_ct rfl rfl rfl (hC.set_ _ _) ⟨rfl, below_set2 hb (by omega) _ _ _ _⟩
            · have bl : decide ((y : Int) < 48) = false := by apply decide_eq_false; omega
              have bg : decide ((57 : Int) < (y : Int)) = true := by apply decide_eq_true; omega
              go_wp2
              all_goals exact ret_ct rfl rfl rfl (hC.set_ _ _) ⟨rfl, below_set2 hb (by omega) _ _ _ _⟩
    · obtain rfl : k = s.size := by omega
      by_cases hone : s.size = 1
      · skip
        have hbp := badPlace_none (l := s.data.toList) (by rw [hlen]; exact HJ.out)
        have hib : isBad s.data.toList = true := by unfold isBad; rw [hbp, HF.out, hlen, hone]; simp
        have hbo := bad_of HP.out hib (hbp.trans hlen)
        obtain ⟨rfl, rfl, rfl⟩ := hbo
        obtain ⟨hC0, hC1, hC2, hC3⟩ := hC.facts
        have b1 : ((s.size : Int) == 1) = true := by rw [beq_iff_eq]; omega
        clear hbp hib
        go_wp2
        all_goals exact ret_ct rfl rfl rfl (hC.set_ _ _) ⟨rfl, below_set2 hb (by omega) _ _ _ _⟩
      · have hib : isBad s.data.toList = false := isBad_of (by rw [hlen]; exact HJ.out) (by rw [HF.out, hlen]; omega)
        obtain ⟨hw, rfl⟩ := good_of HP.out hib
        have hz2 : wf (wv true t) = wi z o := by
          rw [← hw]
          congr 1
          exact tV_of HF.out HV.out
        have HZ := Lib.hid hz2
        have b1 : ((s.size : Int) == 1) = false := by rw [beq_eq_false_iff_ne]; omega
        obtain ⟨hC0, hC1, hC2, hC3⟩ := hC.facts
        clear hib hw hz2 hC0 hC1 hC2 hC3
        go_wp2_with fail
        refine (rform_any _ true t (by omega) z o HZ.out).mono ?_
        rintro e V ⟨rfl, hq⟩
        replace hb := below_next hb hq
        replace hC := hC.below hq
        clear hq
        obtain ⟨hC0, hC1, hC2, hC3⟩ := hC.facts
        go_wp2
        all_goals exact ret_ct rfl rfl rfl (hC.set_ _ _) ⟨rfl, below_set2 hb (by omega) _ _ _ _⟩

set_option maxRecDepth 100000 in
set_option maxHeartbeats 3200000 in
theorem rparse_none (w : World) (s : ByteArray) (hs : s.size = 0) (z : Bool) (o : ByteArray) (p : Int)
    (hp : (isBad s.data.toList = true ∧ z = false ∧ o = ⟨#[]⟩ ∧ p = badPlace s.data.toList) ∨ (isBad s.data.toList = false ∧ wf (tV s.data.toList) = wi z o ∧ p = -1)) :
    Calls Tryz.prog 20 #[.string s] w (Ret (.tuple #[.agg #[.bool z, .string o], .int .i64 p]) w) := by
  have hnil : s.data.toList = [] := List.eq_nil_of_length_eq_zero hs
  have hib : isBad s.data.toList = true := by rw [hnil]; rfl
  have hbp : badPlace s.data.toList = 0 := by rw [hnil]; rfl
  obtain ⟨rfl, rfl, rfl⟩ := bad_of hp hib hbp
  clear hib hbp hp hnil
  obtain rfl : s = ⟨#[]⟩ := ba_ext (List.eq_nil_of_length_eq_zero hs)
  go_enter Tryz.func20, Tryz.ntmps20
  go_wp2
  obtain ⟨hC, hb⟩ := blocks1 w #[Value.bool false, Value.string { data := #[] }]
  generalize (w.alloc (Obj.cells #[Value.bool false, Value.string { data := #[] }] 23)) = W0 at *
  go_loopw [6] (fun i wr => i = .int .i64 0 ∧ wr = W0) (fun _ _ => 0)
  case atStart => exact ⟨rfl, rfl⟩
  case round =>
    obtain ⟨rfl, rfl⟩ := hrel
    obtain ⟨hC0, hC1, hC2, hC3⟩ := hC.facts
    go_wp2
    all_goals exact ret_ct rfl rfl rfl (hC.set_ _ _) ⟨rfl, below_set2 hb (by omega) _ _ _ _⟩
theorem rparse_any (w : World) (s : ByteArray) (hs : s.size ≤ 100000) (z : Bool) (o : ByteArray) (p : Int)
    (hp : (isBad s.data.toList = true ∧ z = false ∧ o = ⟨#[]⟩ ∧ p = badPlace s.data.toList) ∨ (isBad s.data.toList = false ∧ wf (tV s.data.toList) = wi z o ∧ p = -1)) :
    Calls Tryz.prog 20 #[.string s] w (Ret (.tuple #[.agg #[.bool z, .string o], .int .i64 p]) w) := by
  rcases Nat.eq_zero_or_pos s.size with h | h
  · exact rparse_none w s h z o p hp
  · rcases Nat.lt_or_ge (fst_ s.data.toList) 1 with h1 | h1
    · exact rparse_0 w s hs h (by omega) z o p hp
    · exact rparse_1 w s hs h (by have := fst_le s.data.toList; omega) z o p hp
end Go.Proofs.YtfgolecbchhokaaGreatDoor
