/- The document's answer for products: May, Of, Numbers, Same, walked. -/
import Derived.Test.YtdpihoblkldghaaM7
namespace Go.Proofs.Ytdpihoblkldghaa
open Go.RowKit Go.Lib

set_option maxRecDepth 100000 in
set_option maxHeartbeats 1600000 in
theorem rmay_any (w : World) (s : ByteArray) (hs : s.size ≤ 1000000000) (v : Int) (o : Bool) (ho : (okM s.data.toList && decide ((s.size : Int) = v)) = o) :
    Calls Try.prog 17 #[.string s, .int .i64 v] w (fun e w' => e = .returned (.bool o) ∧ w = w') := by
  have HO := Lib.hid ho; clear ho
  go_enter Try.func17, Try.ntmps17
  go_wp2
  go_loopw [5] (fun iv wr => ∃ k : Nat, iv = .int .i64 k ∧ k ≤ s.size ∧ (∀ j (hj : j < s.data.toList.length), j < k → (s.data.toList[j]).toNat < 128) ∧ wr = w) (fun iv _ => s.size - (RowKit.intOf iv).toNat)
  case atStart => exact ⟨0, rfl, Nat.zero_le _, fun j _ h => by omega, rfl⟩
  case round =>
    obtain ⟨k, rfl, hk, hj, rfl⟩ := hrel
    by_cases hks : k < s.size
    · obtain ⟨y, hy⟩ : ∃ y : Nat, (s[k]'hks).toNat = y := ⟨_, rfl⟩
      by_cases ha : y < 128
      · have hj2 : ∀ j (hj : j < s.data.toList.length), j < k + 1 → (s.data.toList[j]).toNat < 128 := fun j h1 h2 => by
          rcases Nat.lt_or_eq_of_le (Nat.le_of_lt_succ h2) with h | h
          · exact hj j h1 h
          · subst h; rw [get_list s j hks, hy]; exact ha
        have HJ := Lib.hid hj2
        clear hj hj2
        go_wp2
        go_roundw
        case rel => exact ⟨k + 1, rfl, by omega, HJ.out, trivial⟩
        case measure => simp [RowKit.intOf]; omega
      · have hB := bad_of s k hks (by omega)
        have e1 : o = false := by rw [← HO.out, hB]; rfl
        subst e1
        clear hj hB
        go_wp2
        go_ret
        exact ⟨rfl, rfl⟩
    · obtain rfl : k = s.size := by omega
      have hall : okM s.data.toList = true := okM_good fun j hj' => hj j hj' hj'
      have HE := Lib.hid hall
      clear hall hj
      go_wp2
      go_ret
      exact ⟨by rw [← HO.out, HE.out, Bool.true_and]; exact congrArg (fun z => Ending.returned (Value.bool z)) (by rw [Bool.eq_iff_iff]; simp), rfl⟩

theorem one_byte (W : World) (d : Nat) (h : d < 256) :
    (convert 43 9 (.slice (some ⟨W.heap.size, 0, none⟩) 1 1)).run Try.prog (W.alloc (.cells #[.int .u8 (d : Int)] 5)) = .ok (.string ⟨#[UInt8.ofNat d]⟩) (W.alloc (.cells #[.int .u8 (d : Int)] 5)) := by
  have hd : (UInt8.ofNat d).toNat = d := by rw [UInt8.toNat_ofNat']; exact Nat.mod_eq_of_lt h
  refine run_bytes_at (l := [UInt8.ofNat d]) rfl (fun i hi => ?_)
  obtain rfl : i = 0 := by simpa using hi
  have hR := Rw.new W 5 [.int .u8 d]
  rw [hR.cell]
  show some (Value.int .u8 d) = some (by8 (UInt8.ofNat d))
  unfold by8
  rw [hd]
theorem snoc_bytes (t : ByteArray) (x : UInt8) : (t ++ ⟨#[x]⟩ : ByteArray).data.toList = t.data.toList ++ [x] := by
  rw [ByteArray.data_append]
  simp
set_option maxRecDepth 100000 in
set_option maxHeartbeats 1600000 in
theorem rof_any (w : World) (ad : Option Addr) (ns : List Int) (n c : Nat) (hl : ns.length = n) (hn : n ≤ 100000000) (hr : RI w ad ns) (o : ByteArray) (e : Int) (ho : ofS ns = o) (he : ofE ns = e) :
    Calls Try.prog 10 #[.slice ad n c] w (Ret (.tuple #[.string o, .int .i64 e]) w) := by
  have HO := Lib.hid (And.intro ho (And.intro he hl)); clear ho he
  have hb0 := Below.refl w.heap.size w
  go_enter Try.func10, Try.ntmps10
  go_wp2
  go_loopw [4, 5] (fun mv iv wr => ∃ (k : Nat) (t : ByteArray), iv = .int .i64 k ∧ mv = .string t ∧ k ≤ ns.length ∧ (∀ j (hj : j < ns.length), j < k → 0 ≤ ns[j] ∧ ns[j] ≤ 127) ∧ t.data.toList = bytesE (ns.take k) ∧ Below w.heap.size w wr) (fun _ iv _ => n - (RowKit.intOf iv).toNat)
  case atStart => exact ⟨0, ⟨#[]⟩, rfl, rfl, Nat.zero_le _, fun j _ h => by omega, rfl, hb0⟩
  case round =>
    clear hb0
    obtain ⟨k, t, rfl, rfl, hk, hj, ht, hb⟩ := hrel
    have hrw := hr.next hb
    have hts : t.size = k := by
      have := congrArg List.length ht
      simp only [bytesE, List.length_map, List.length_take] at this
      have h2 : t.data.toList.length = t.size := rfl
      omega
    by_cases hkn : k < n
    · obtain ⟨b, off, rfl, hlt, hc⟩ := hrw k (by omega)
      obtain ⟨z, hz⟩ : ∃ z, ns[k]'(by omega) = z := ⟨_, rfl⟩
      rw [hz] at hc
      by_cases hzz : 0 ≤ z ∧ z ≤ 127
      · obtain ⟨q, hq⟩ : ∃ q : Nat, z = (q : Int) := ⟨z.toNat, by omega⟩
        subst hq
        have hw8 : IntKind.u8.wrap (q : Int) = (q : Int) := by rw [IntKind.wrap_u8]; omega
        have hcv := one_byte wr q (by omega)
        have hul : ¬ (9223372036854775807 < t.size + 1) := by omega
        have hsn := bytesE_take (l := ns) (k := k) (by omega)
        rw [hz, Int.toNat_natCast, ← ht] at hsn
        obtain ⟨x, hx⟩ : ∃ x, UInt8.ofNat q = x := ⟨_, rfl⟩
        rw [hx] at hcv hsn
        have hj2 : ∀ j (hj : j < ns.length), j < k + 1 → 0 ≤ ns[j] ∧ ns[j] ≤ 127 := fun j h1 h2 => by
          rcases Nat.lt_or_eq_of_le (Nat.le_of_lt_succ h2) with h | h
          · exact hj j h1 h
          · subst h; rw [hz]; exact hzz
        have hba := hb.alloc hb.size (.cells #[.int .u8 (q : Int)] 5)
        have HJ := Lib.hid (And.intro hj2 (And.intro ((snoc_bytes t x).trans hsn.symm) hba))
        clear hj hj2 hsn hba hx ht
        go_wp2
        go_roundw
        case rel => exact ⟨k + 1, _, rfl, rfl, by omega, HJ.out.1, HJ.out.2.1, HJ.out.2.2⟩
        case measure => simp [RowKit.intOf]; omega
      · have hbad := okE_bad (l := ns) (k := k) (by omega) (by rw [hz]; exact hzz)
        have e1 : o = ⟨#[]⟩ := by rw [← HO.out.1]; unfold ofS; rw [hbad]; rfl
        have e2 : e = 3 := by rw [← HO.out.2.1]; unfold ofE; rw [hbad]; rfl
        subst e1 e2
        clear hbad hj ht
        by_cases h0 : z < 0
        · go_wp2
          go_ret2
          exact ⟨rfl, hb⟩
        · have h1 : 127 < z := by omega
          go_wp2
          go_ret2
          exact ⟨rfl, hb⟩
    · obtain rfl : k = ns.length := by omega
      have hall := okE_good (fun j hj' => hj j hj' hj')
      rw [List.take_of_length_le (Nat.le_refl _)] at ht
      have e1 : t = o := by rw [← HO.out.1]; unfold ofS; rw [hall]; exact ba_ext ht
      have e2 : e = 0 := by rw [← HO.out.2.1]; unfold ofE; rw [hall]; rfl
      subst e1 e2
      clear hj hall ht
      go_wp2
      go_ret2
      exact ⟨rfl, hb⟩

set_option maxRecDepth 100000 in
set_option maxHeartbeats 1600000 in
theorem rnum_same (w : World) (ad bd : Option Addr) (ns : List Int) (n c d : Nat) (hl : ns.length = n) (hn : n ≤ 1000000000) (hr : RI w ad ns) (hr' : RI w bd ns) :
    Calls Try.prog 11 #[.slice ad n c, .slice bd n d] w (Ret (.bool true) w) := by
  have hb0 := Below.refl w.heap.size w
  go_enter Try.func11, Try.ntmps11
  go_wp2
  go_loopw [5] (fun iv wr => ∃ k : Nat, iv = .int .i64 k ∧ k ≤ ns.length ∧ Below w.heap.size w wr) (fun iv _ => n - (RowKit.intOf iv).toNat)
  case atStart => exact ⟨0, rfl, Nat.zero_le _, hb0⟩
  case round =>
    clear hb0
    obtain ⟨k, rfl, hk, hb⟩ := hrel
    by_cases hkn : k < n
    · obtain ⟨b, off, rfl, hlt, hc⟩ := hr.next hb k (by omega)
      obtain ⟨b', off', rfl, hlt', hc'⟩ := hr'.next hb k (by omega)
      obtain ⟨z, hz⟩ : ∃ z, ns[k]'(by omega) = z := ⟨_, rfl⟩
      rw [hz] at hc hc'
      have hb2 := hb.drew
      clear hz
      go_wp2
      go_region
      all_goals
        go_wp2
        go_roundw
        case rel => exact ⟨k + 1, rfl, by omega, hb2⟩
        case measure => simp [RowKit.intOf]; omega
    · obtain rfl : k = ns.length := by omega
      go_wp2
      go_ret
      exact ⟨rfl, hb⟩
set_option maxRecDepth 100000 in
set_option maxHeartbeats 1600000 in
theorem rsame_same (w : World) (ad bd : Option Addr) (L : List ByteArray) (n c d : Nat) (hl : L.length = n) (hn : n ≤ 1000000000) (hr : RS w ad L) (hr' : RS w bd L) :
    Calls Try.prog 22 #[.slice ad n c, .slice bd n d] w (Ret (.bool true) w) := by
  have hb0 := Below.refl w.heap.size w
  go_enter Try.func22, Try.ntmps22
  go_wp2
  go_loopw [5] (fun iv wr => ∃ k : Nat, iv = .int .i64 k ∧ k ≤ L.length ∧ Below w.heap.size w wr) (fun iv _ => n - (RowKit.intOf iv).toNat)
  case atStart => exact ⟨0, rfl, Nat.zero_le _, hb0⟩
  case round =>
    clear hb0
    obtain ⟨k, rfl, hk, hb⟩ := hrel
    by_cases hkn : k < n
    · obtain ⟨b, off, rfl, hlt, hc⟩ := hr.next hb k (by omega)
      obtain ⟨b', off', rfl, hlt', hc'⟩ := hr'.next hb k (by omega)
      obtain ⟨z, hz⟩ : ∃ z, L[k]'(by omega) = z := ⟨_, rfl⟩
      rw [hz] at hc hc'
      have hb2 := hb.drew
      clear hz
      go_wp2
      go_region
      all_goals
        go_wp2
        go_roundw
        case rel => exact ⟨k + 1, rfl, by omega, hb2⟩
        case measure => simp [RowKit.intOf]; omega
    · obtain rfl : k = L.length := by omega
      go_wp2
      go_ret
      exact ⟨rfl, hb⟩
end Go.Proofs.Ytdpihoblkldghaa
