/- The calls of nat that read one or two numbers: bare, Trim, Cmp, Len, Zeros, walked. -/
import Derived.Test.YtemlhloipjbecaaDoorByte2
import Derived.Test.YtemlhloipjbecaaDoorOf
import Derived.BigQuiet
import Derived.Deep.QuietTactic
namespace Go.Proofs.YtemlhloipjbecaaDoor
open Go.RowKit Go.Shelf

theorem bare_any (w : World) (s : ByteArray) :
    Calls Tryd.prog 39 #[.string s] w fun e w' => e = .returned (.string (fb (num s))) ∧ w = w' := by
  have hT := Tryd.strings_TrimLeft_one s 0 (by decide) w
  have e0 : (⟨(Lib.trimLeftB s.data.toList 0).toArray⟩ : ByteArray) = fb (num s) := by
    unfold Lib.trimLeftB; rw [dropWhile_formL]; rfl
  rw [e0] at hT
  have HT := Lib.hid hT; clear hT e0
  go_enter Tryd.func39, Tryd.ntmps39
  go_wp2_with fail
  refine (HT.out).mono ?_
  rintro e w' ⟨rfl, rfl⟩
  go_wp2
  go_ret
  exact ⟨rfl, rfl⟩

theorem clone_any (w : World) (s : ByteArray) (hs : s.size ≤ 281474976710656) :
    Calls Tryd.prog 38 #[.string s] w fun e w' => e = .returned (.string s) ∧ Below w.heap.size w w' := by
  go_enter Tryd.func38, Tryd.ntmps38
  go_wp2_with fail
  refine (Tryd.stringslite_Clone s _ hs).mono ?_
  rintro e w' ⟨rfl, hb⟩
  go_wp2
  go_ret
  exact ⟨rfl, hb⟩

theorem trim_any (w : World) (s : ByteArray) (hs : s.size ≤ 281474976710656) :
    Calls Tryd.prog 15 #[.string s] w fun e w' => e = .returned (.string (fb (num s))) ∧ Below w.heap.size w w' := by
  have h1 := fb_num_size s
  go_enter Tryd.func15, Tryd.ntmps15
  go_wp2_with fail
  refine (bare_any _ s).mono ?_
  rintro e w' ⟨rfl, rfl⟩
  go_wp2_with fail
  refine (clone_any _ _ (by omega)).mono ?_
  rintro e w' ⟨rfl, hb⟩
  go_wp2
  go_ret
  exact ⟨rfl, hb⟩

theorem strings_Compare_any (w : World) (s t : ByteArray) :
    Calls Tryd.prog 49 #[.string s, .string t] w fun e w' => e = .returned (.int .i64 (Lib.compareBytes s.data.toList t.data.toList)) ∧ w = w' :=
  (Tryd.strings_Compare s t w).mono fun _ _ ⟨he, hw⟩ => ⟨he, hw.symm⟩
theorem cmp_Compare_any (w : World) (x y : Int) :
    Calls Tryd.prog 48 #[.int .i64 x, .int .i64 y] w fun e w' => e = .returned (.int .i64 (Lib.compareInt x y)) ∧ w = w' :=
  (Tryd.cmp_Compare_int x y w).mono fun _ _ ⟨he, hw⟩ => ⟨he, hw.symm⟩

set_option maxHeartbeats 400000 in
theorem cmp_any (w : World) (s t : ByteArray) :
    Calls Tryd.prog 24 #[.string s, .string t] w fun e w' => e = .returned (.int .i64 (cmpN (num s) (num t))) ∧ w = w' := by
  have hlen := @compareInt_len (num s) (num t)
  have hbyt := compareBytes_num (formL (num s)) (formL (num t))
  rw [numL_formL, numL_formL] at hbyt
  rw [← fb_size, ← fb_size] at hlen hbyt
  have HL := Lib.hid hlen; clear hlen
  have HB := Lib.hid hbyt; clear hbyt
  go_enter Tryd.func24, Tryd.ntmps24
  go_wp2_with fail
  refine (bare_any _ s).mono ?_
  rintro e w' ⟨rfl, rfl⟩
  go_wp2_with fail
  refine (bare_any _ t).mono ?_
  rintro e w' ⟨rfl, rfl⟩
  by_cases h : (fb (num s)).size = (fb (num t)).size
  · have ht : (((fb (num s)).size : Int) != ((fb (num t)).size : Int)) = false := by rw [h]; simp
    have H := Lib.hid h; clear h
    go_wp2_with fail
    refine (strings_Compare_any _ _ _).mono ?_
    rintro e w' ⟨rfl, rfl⟩
    go_wp2
    go_ret
    exact ⟨by rw [fb_toList, fb_toList, HB.out H.out]; rfl, rfl⟩
  · have ht : (((fb (num s)).size : Int) != ((fb (num t)).size : Int)) = true := by rw [bne_iff_ne]; omega
    go_wp2_with fail
    refine (cmp_Compare_any _ _ _).mono ?_
    rintro e w' ⟨rfl, rfl⟩
    go_wp2
    go_ret
    exact ⟨by rw [HL.out h]; rfl, rfl⟩

theorem ret_int {k : IntKind} {a b : Int} (h : a = b) : Ending.returned (.int k a) = .returned (.int k b) := by rw [h]
theorem empty_of {n : Nat} (h : n = 0) : (fb n).toList.isEmpty = true := by
  subst h; rw [Lib.toList_data]; rfl
theorem empty_not {n : Nat} (h : n ≠ 0) : (fb n).toList.isEmpty = false := by
  rw [Lib.toList_data, fb_toList]
  cases hl : formL n with
  | nil => exact absurd (by have := numL_formL n; rw [hl] at this; exact this.symm) h
  | cons b l => rfl

set_option maxRecDepth 100000 in
set_option maxHeartbeats 400000 in
theorem len_any (w : World) (s : ByteArray) (hs : s.size ≤ 281474976710656) :
    Calls Tryd.prog 18 #[.string s] w fun e w' => e = .returned (.int .i64 (bl (num s))) ∧ w = w' := by
  have h1 := fb_num_size s
  obtain ⟨n, hn⟩ : ∃ n, n = num s := ⟨_, rfl⟩
  go_enter Tryd.func18, Tryd.ntmps18
  go_wp2_with fail
  refine (bare_any _ s).mono ?_
  rintro e w' ⟨rfl, rfl⟩
  rw [← hn] at h1
  have HN := Lib.hid hn
  rw [← HN.out]
  clear hn
  by_cases hn0 : n = 0
  · have hE := empty_of hn0
    have H0 := Lib.hid hn0; clear hn0
    go_wp2
    go_ret
    exact ⟨by rw [← HN.out, H0.out]; rfl, rfl⟩
  · have hE := empty_not hn0
    obtain ⟨hp, hf⟩ := fb_first hn0
    have HF := Lib.hid (hf hp); clear hf
    have hlt := ((fb n)[0]).toNat_lt
    go_wp2_with fail
    refine (Tryd.bits_LeadingZeros8 _ _ (by omega) (by omega)).mono ?_
    rintro e w' ⟨rfl, rfl⟩
    rw [Int.toNat_natCast, bitLen_bl (Nat.lt_trans hlt (by decide))]
    obtain ⟨k, hk⟩ : ∃ k, k = bl ((fb n)[0]).toNat := ⟨_, rfl⟩
    rw [← hk] at HF ⊢
    have hk8 : k ≤ 8 := by
      rw [hk]
      rcases Nat.eq_zero_or_pos ((fb n)[0]).toNat with h | h
      · rw [h]; decide
      · have := (bl_bounds h).2.1
        rcases Nat.lt_or_ge 8 (bl ((fb n)[0]).toNat) with h8 | h8
        · have : 2 ^ 8 ≤ 2 ^ (bl ((fb n)[0]).toNat - 1) := Nat.pow_le_pow_right (by omega) (by omega)
          omega
        · exact h8
    clear hk
    go_wp2
    go_ret
    refine ⟨ret_int (k := .i64) ?_, rfl⟩
    have := HF.out
    rw [← HN.out]
    omega

theorem zeros8_any (w : World) (b : UInt8) (hb : b ≠ 0) :
    Calls Tryd.prog 43 #[.int .u8 (b.toNat : Int)] w fun e w' => e = .returned (.int .i64 (tz b.toNat)) ∧ w = w' := by
  have hlt := b.toNat_lt
  have h0 : b.toNat ≠ 0 := fun h => hb (UInt8.toNat_inj.1 (by simpa using h))
  refine (Tryd.bits_TrailingZeros8 _ w (by omega) (by omega)).mono fun e w' ⟨he, hw⟩ => ⟨?_, hw.symm⟩
  rw [he, Int.toNat_natCast]
  have := trailingZeros8_eq ⟨b.toNat, by omega⟩ h0
  simp only at this
  rw [this]

set_option maxRecDepth 100000 in
set_option maxHeartbeats 400000 in
theorem zeros_any (w : World) (s : ByteArray) (hs : s.size ≤ 281474976710656) :
    Calls Tryd.prog 20 #[.string s] w fun e w' => e = .returned (.int .i64 (tz (num s))) ∧ w = w' := by
  have hT := Tryd.strings_TrimRight_one s 0 (by decide) w (by omega)
  have hsz : s.data.toList.length = s.size := rfl
  obtain ⟨t, ht⟩ : ∃ t : ByteArray, t = ⟨(Lib.trimRightB s.data.toList 0).toArray⟩ := ⟨_, rfl⟩
  have htl : t.data.toList = Lib.trimRightB s.data.toList 0 := by rw [ht]
  rw [← ht] at hT
  have HT := Lib.hid hT; clear hT ht
  have hsp := zeros_split s.data.toList
  have htr := congrArg List.length (trimRight_split s.data.toList)
  rw [List.length_append, ← htl, hsz] at htr
  rw [← htl] at hsp
  have hts : t.data.toList.length = t.size := rfl
  rw [hts] at htr
  have hle : t.size ≤ s.size := by omega
  clear htr
  rcases hsp with ⟨e1, e2⟩ | ⟨m, b, e1, hb, e2⟩
  · have hE : t.toList.isEmpty = true := by rw [Lib.toList_data, e1]; rfl
    have E2 := Lib.hid e2; clear e2 e1 hts htl hsz
    go_enter Tryd.func20, Tryd.ntmps20
    go_wp2_with fail
    refine (HT.out).mono ?_
    rintro e w' ⟨rfl, rfl⟩
    go_wp2
    go_ret
    exact ⟨ret_int (k := .i64) (by unfold num; rw [E2.out]; rfl), rfl⟩
  · have hE : t.toList.isEmpty = false := by rw [Lib.toList_data, e1]; simp
    have hml : t.size = m.length + 1 := by rw [← hts, e1]; simp
    have hp : 0 < t.size := by omega
    have hidx : (t.size - 1) < t.size := by omega
    have hlast : t[t.size - 1] = b := by
      have h1 : t[t.size - 1] = t.data.toList[t.size - 1]'(by rw [hts]; omega) := by simp [ByteArray.getElem_eq_getElem_data]
      rw [h1]
      simp only [e1, hml]
      simp
    have hn1 : ((t.size : Int) - 1).toNat = t.size - 1 := by omega
    have E2 := Lib.hid (And.intro e2 hml); clear e2 e1 hts htl hsz hml
    go_enter Tryd.func20, Tryd.ntmps20
    go_wp2_with fail
    refine (HT.out).mono ?_
    rintro e w' ⟨rfl, rfl⟩
    have hz8 : tz b.toNat ≤ 8 := by
      have hlt := b.toNat_lt
      have h0 : b.toNat ≠ 0 := fun h => hb (UInt8.toNat_inj.1 (by simpa using h))
      have h1 := trailingZeros8_eq ⟨b.toNat, by omega⟩ h0
      have h2 := Lib.trailingZeros8_le8 ⟨b.toNat, by omega⟩
      simp only at h1 h2
      omega
    go_wp2_with fail
    refine (zeros8_any _ b hb).mono ?_
    rintro e w' ⟨rfl, rfl⟩
    go_wp2
    go_ret
    refine ⟨ret_int (k := .i64) ?_, rfl⟩
    have h1 := E2.out.1
    have h2 := E2.out.2
    have h3 : s.data.toList.length = s.size := rfl
    unfold num
    rw [h3] at h1
    omega

end Go.Proofs.YtemlhloipjbecaaDoor
