/- The statement MonoBack, walked. -/
import Derived.Test.YtdpihoblkldghaaM12
namespace Go.Proofs.Ytdpihoblkldghaa
open Go.RowKit Go.Lib

/-- What the sums of exponents that may be are, taken apart. -/
theorem add_back : ∀ (a c : List UInt8), a.length = c.length → okM a = true → okM c = true → okE (zipF addF a c) = true →
    bytesE (zipF addF a c) = addL a c ∧ okM (addL a c) = true ∧ (addL a c).length = a.length ∧ bytesE (zipF subF (addL a c) c) = a ∧ okE (zipF subF (addL a c) c) = true ∧ bytesE (zipF subF (addL a c) a) = c ∧ okE (zipF subF (addL a c) a) = true ∧ sumM (addL a c) = sumM a + sumM c
  | [], [], _, _, _, _ => by simp [zipF, bytesE, addL, okM, okE, sumM]
  | [], _ :: _, h, _, _, _ => by simp at h
  | _ :: _, [], h, _, _, _ => by simp at h
  | x :: a, z :: c, hl, ha, hc, hE => by
    simp only [okM, List.all_cons, Bool.and_eq_true, decide_eq_true_eq] at ha hc
    have hE' : (0 ≤ addF x.toNat z.toNat ∧ addF x.toNat z.toNat ≤ 127) ∧ okE (zipF addF a c) = true := by
      simpa [zipF, okE, List.zipWith_cons_cons, List.all_cons, Bool.and_eq_true, decide_eq_true_eq] using hE
    obtain ⟨i1, i2, i3, i4, i5, i6, i7, i8⟩ := add_back a c (by simpa using hl) ha.2 hc.2 hE'.2
    have hs : x.toNat + z.toNat ≤ 127 := by have := hE'.1.2; unfold addF at this; omega
    have e1 : (UInt8.ofNat (x.toNat + z.toNat)).toNat = x.toNat + z.toNat := ofNat_toNat' (by omega)
    have e2 : UInt8.ofNat (addF x.toNat z.toNat).toNat = UInt8.ofNat (x.toNat + z.toNat) := by unfold addF; congr 1
    have e3 : subF (x.toNat + z.toNat) z.toNat = (x.toNat : Int) := by unfold subF; omega
    have e4 : subF (x.toNat + z.toNat) x.toNat = (z.toNat : Int) := by unfold subF; omega
    refine ⟨?_, ?_, ?_, ?_, ?_, ?_, ?_, ?_⟩
    · show UInt8.ofNat (addF x.toNat z.toNat).toNat :: bytesE (zipF addF a c) = _
      rw [i1, e2]; rfl
    · show (decide ((UInt8.ofNat (x.toNat + z.toNat)).toNat < 128) && okM (addL a c)) = true
      rw [i2, e1, decide_eq_true (by omega)]; rfl
    · show (addL a c).length + 1 = a.length + 1
      rw [i3]
    · show UInt8.ofNat (subF (UInt8.ofNat (x.toNat + z.toNat)).toNat z.toNat).toNat :: bytesE (zipF subF (addL a c) c) = _
      rw [i4, e1, e3, Int.toNat_natCast, UInt8.ofNat_toNat]
    · show (decide (0 ≤ subF (UInt8.ofNat (x.toNat + z.toNat)).toNat z.toNat ∧ subF (UInt8.ofNat (x.toNat + z.toNat)).toNat z.toNat ≤ 127) && okE (zipF subF (addL a c) c)) = true
      rw [i5, e1, e3, decide_eq_true (by omega)]; rfl
    · show UInt8.ofNat (subF (UInt8.ofNat (x.toNat + z.toNat)).toNat x.toNat).toNat :: bytesE (zipF subF (addL a c) a) = _
      rw [i6, e1, e4, Int.toNat_natCast, UInt8.ofNat_toNat]
    · show (decide (0 ≤ subF (UInt8.ofNat (x.toNat + z.toNat)).toNat x.toNat ∧ subF (UInt8.ofNat (x.toNat + z.toNat)).toNat x.toNat ≤ 127) && okE (zipF subF (addL a c) a)) = true
      rw [i7, e1, e4, decide_eq_true (by omega)]; rfl
    · show (UInt8.ofNat (x.toNat + z.toNat)).toNat + sumM (addL a c) = (x.toNat + sumM a) + (z.toNat + sumM c)
      rw [i8, e1]; omega
/-- What a product that there is tells. -/
theorem tog_ok {a c : ByteArray} (h : togE addF a c = 0) : okM a.data.toList = true ∧ okM c.data.toList = true ∧ a.size = c.size ∧ okE (zipF addF a.data.toList c.data.toList) = true ∧ togS addF a c = ⟨(addL a.data.toList c.data.toList).toArray⟩ := by
  obtain ⟨q, hq⟩ : ∃ q, (okM a.data.toList && okM c.data.toList && decide (a.size = c.size)) = q := ⟨_, rfl⟩
  have h' := h
  unfold togE at h'
  rw [hq] at h'
  cases q with
  | false => exact absurd (show (1 : Int) = 0 from h') (by decide)
  | true =>
    have hq' := hq
    rw [Bool.and_eq_true, Bool.and_eq_true, decide_eq_true_eq] at hq
    obtain ⟨⟨h1, h2⟩, h3⟩ := hq
    have h4 : okE (zipF addF a.data.toList c.data.toList) = true := by
      unfold ofE at h'
      cases h5 : okE (zipF addF a.data.toList c.data.toList) with
      | true => rfl
      | false => rw [h5] at h'; exact absurd h' (by decide)
    refine ⟨h1, h2, h3, h4, ?_⟩
    unfold togS ofS
    rw [hq', h4, (add_back _ _ h3 h1 h2 h4).1]
    rfl
theorem tog_bad {a c : ByteArray} (h : togE addF a c ≠ 0) : togS addF a c = ⟨#[]⟩ := by
  obtain ⟨q, hq⟩ : ∃ q, (okM a.data.toList && okM c.data.toList && decide (a.size = c.size)) = q := ⟨_, rfl⟩
  unfold togE at h
  unfold togS
  rw [hq] at h ⊢
  cases q with
  | false => rfl
  | true =>
    unfold ofE at h
    unfold ofS
    cases h5 : okE (zipF addF a.data.toList c.data.toList) with
    | true => rw [h5] at h; exact absurd rfl h
    | false => rfl
/-- Divided back. -/
theorem tog_sub {x c : ByteArray} {a : List UInt8} (h1 : okM x.data.toList = true) (h2 : okM c.data.toList = true) (h3 : x.size = c.size) (h4 : okE (zipF subF x.data.toList c.data.toList) = true) (h5 : bytesE (zipF subF x.data.toList c.data.toList) = a) :
    togS subF x c = ⟨a.toArray⟩ ∧ decide (togE subF x c = 0) = true := by
  have hq : (okM x.data.toList && okM c.data.toList && decide (x.size = c.size)) = true := by rw [h1, h2, decide_eq_true h3]; rfl
  unfold togS togE ofS ofE
  rw [hq, h4, h5]
  exact ⟨rfl, rfl⟩
theorem ba_eta (a : ByteArray) : (⟨a.data.toList.toArray⟩ : ByteArray) = a := ba_ext rfl
theorem addL_inj : ∀ (a b c : List UInt8), a.length = c.length → b.length = c.length → okM a = true → okM b = true → okM c = true → (addL a c == addL b c) = (a == b)
  | [], [], [], _, _, _, _, _ => rfl
  | [], _ :: _, [], _, h, _, _, _ => by simp at h
  | _ :: _, _, [], h, _, _, _, _ => by simp at h
  | [], _, _ :: _, h, _, _, _, _ => by simp at h
  | _ :: _, [], _ :: _, _, h, _, _, _ => by simp at h
  | x :: a, y :: b, z :: c, h1, h2, ha, hb, hc => by
    simp only [okM, List.all_cons, Bool.and_eq_true, decide_eq_true_eq] at ha hb hc
    have ih := addL_inj a b c (by simpa using h1) (by simpa using h2) ha.2 hb.2 hc.2
    simp only [addL, List.cons_beq_cons, ih]
    have e1 : (UInt8.ofNat (x.toNat + z.toNat)).toNat = x.toNat + z.toNat := ofNat_toNat' (by omega)
    have e2 : (UInt8.ofNat (y.toNat + z.toNat)).toNat = y.toNat + z.toNat := ofNat_toNat' (by omega)
    rw [u8_beq, u8_beq, e1, e2]
    congr 1
    rw [decide_eq_decide]; omega

set_option maxRecDepth 100000 in
set_option maxHeartbeats 3200000 in
theorem back_law (w : World) (a b c : ByteArray) : Calls Try.prog 6 #[.string a, .string b, .string c] w (Ret (.bool true) w) := by
  have hb := Below.refl w.heap.size w
  by_cases h1 : a.size ≤ 500
  · by_cases h2 : b.size ≤ 500
    · by_cases h3 : c.size ≤ 500
      · obtain ⟨x, hx⟩ : ∃ x, togS addF a c = x := ⟨_, rfl⟩
        obtain ⟨e0, he⟩ : ∃ e0, togE addF a c = e0 := ⟨_, rfl⟩
        obtain ⟨y, hy⟩ : ∃ y, togS addF b c = y := ⟨_, rfl⟩
        obtain ⟨f0, hf⟩ : ∃ f0, togE addF b c = f0 := ⟨_, rfl⟩
        go_enter Try.func6, Try.ntmps6
        go_wp2_with fail
        refine (mul_any _ a c (by omega) (by omega) x e0 hx he).mono ?_
        rintro e W1 ⟨rfl, hq⟩
        replace hb := below_next hb hq
        clear hq
        go_wp2_with fail
        refine (mul_any _ b c (by omega) (by omega) y f0 hy hf).mono ?_
        rintro e W2 ⟨rfl, hq⟩
        replace hb := below_next hb hq
        clear hq
        by_cases h0 : e0 = 0
        · subst h0
          obtain ⟨g1, g2, g3, g4, g5⟩ := tog_ok he
          obtain ⟨i1, i2, i3, i4, i5, i6, i7, i8⟩ := add_back _ _ g3 g1 g2 g4
          rw [hx] at g5
          have hxl : x.data.toList = addL a.data.toList c.data.toList := by rw [g5]
          have hxs : x.size = a.size := by
            have : x.data.toList.length = a.data.toList.length := by rw [hxl, i3]
            exact this
          obtain ⟨u1, u2⟩ := tog_sub (x := x) (c := c) (a := a.data.toList) (by rw [hxl]; exact i2) g2 (by omega) (by rw [hxl]; exact i5) (by rw [hxl]; exact i4)
          obtain ⟨v1, v2⟩ := tog_sub (x := x) (c := a) (a := c.data.toList) (by rw [hxl]; exact i2) g1 hxs (by rw [hxl]; exact i7) (by rw [hxl]; exact i6)
          rw [ba_eta] at u1 v1
          obtain ⟨da, eda⟩ : ∃ da, sumM a.data.toList = da := ⟨_, rfl⟩
          obtain ⟨dc, edc⟩ : ∃ dc, sumM c.data.toList = dc := ⟨_, rfl⟩
          have hdx : (if okM x.data.toList then (sumM x.data.toList : Int) else 0) = (da : Int) + (dc : Int) := by
            rw [hxl, i2, i8, eda, edc]; simp
          have hda : (if okM a.data.toList then (sumM a.data.toList : Int) else 0) = (da : Int) := by rw [g1, eda]; rfl
          have hdc : (if okM c.data.toList then (sumM c.data.toList : Int) else 0) = (dc : Int) := by rw [g2, edc]; rfl
          have l1 := sumM_le a.data.toList
          have l2 := sumM_le c.data.toList
          rw [eda, show a.data.toList.length = a.size from rfl] at l1
          rw [edc, show c.data.toList.length = c.size from rfl] at l2
          have hcmp : f0 = 0 → Op.bytesLess x.toList y.toList = Op.bytesLess a.toList b.toList ∧ (x.toList == y.toList) = (a.toList == b.toList) := fun h => by
            rw [h] at hf
            obtain ⟨k1, k2, k3, k4, k5⟩ := tog_ok hf
            rw [hy] at k5
            have hyl : y.data.toList = addL b.data.toList c.data.toList := by rw [k5]
            rw [Lib.toList_data, Lib.toList_data, Lib.toList_data, Lib.toList_data, hxl, hyl]
            exact ⟨less_add _ _ _ g3 k3 g1 k1 g2, addL_inj _ _ _ g3 k3 g1 k1 g2⟩
          have HC := Lib.hid (And.intro hcmp (And.intro hdx (And.intro hda hdc)))
          clear hcmp hdx hda hdc i1 i2 i3 i4 i5 i6 i7 i8 g1 g2 g3 g4 g5 hxl he hx hy hf eda edc
          go_wp2_with fail
          refine (div_any _ x c (by omega) (by omega) a true u1 u2).mono ?_
          rintro e W3 ⟨rfl, hq⟩
          replace hb := below_next hb hq
          clear hq
          go_wp2_with fail
          refine (div_any _ x a (by omega) (by omega) c true v1 v2).mono ?_
          rintro e W4 ⟨rfl, hq⟩
          replace hb := below_next hb hq
          clear hq u1 u2 v1 v2
          go_wp2_with fail
          refine (degree_any _ x (by omega) _ HC.out.2.1).mono ?_
          rintro e W5 ⟨rfl, hq⟩
          replace hb := below_next hb hq
          clear hq
          go_wp2_with fail
          refine (degree_any _ a (by omega) _ HC.out.2.2.1).mono ?_
          rintro e W6 ⟨rfl, hq⟩
          replace hb := below_next hb hq
          clear hq
          go_wp2_with fail
          refine (degree_any _ c (by omega) _ HC.out.2.2.2).mono ?_
          rintro e W7 ⟨rfl, hq⟩
          replace hb := below_next hb hq
          clear hq
          by_cases hf0 : f0 = 0
          · obtain ⟨j1, j2⟩ := HC.out.1 hf0
            subst hf0
            go_wp2_with fail
            refine (awake_any _).mono ?_
            rintro e W14 ⟨rfl, hq⟩
            replace hb := below_next hb hq
            clear hq
            go_wp2
            go_ret
            exact ⟨rfl, hb⟩
          · have hn0 : (f0 != 0) = true := by simpa using hf0
            have hn1 : (f0 == 0) = false := by simpa using hf0
            go_wp2_with fail
            refine (awake_any _).mono ?_
            rintro e W14 ⟨rfl, hq⟩
            replace hb := below_next hb hq
            clear hq
            go_wp2
            go_ret
            exact ⟨rfl, hb⟩
        · have hx0 := tog_bad (a := a) (c := c) (by rw [he]; exact h0)
          rw [hx] at hx0
          subst hx0
          clear hx he hy hf
          go_wp2_with fail
          refine (awake_any _).mono ?_
          rintro e W14 ⟨rfl, hq⟩
          replace hb := below_next hb hq
          clear hq
          go_wp2
          go_ret
          exact ⟨rfl, hb⟩
      · go_enter Try.func6, Try.ntmps6
        go_wp2_with fail
        refine (awake_any _).mono ?_
        rintro e W14 ⟨rfl, hq⟩
        replace hb := below_next hb hq
        clear hq
        go_wp2
        go_ret
        exact ⟨rfl, hb⟩
    · go_enter Try.func6, Try.ntmps6
      go_wp2_with fail
      refine (awake_any _).mono ?_
      rintro e W14 ⟨rfl, hq⟩
      replace hb := below_next hb hq
      clear hq
      go_wp2
      go_ret
      exact ⟨rfl, hb⟩
  · go_enter Try.func6, Try.ntmps6
    go_wp2_with fail
    refine (awake_any _).mono ?_
    rintro e W14 ⟨rfl, hq⟩
    replace hb := below_next hb hq
    clear hq
    go_wp2
    go_ret
    exact ⟨rfl, hb⟩
end Go.Proofs.Ytdpihoblkldghaa
