/- Products as strings: Degree, isExp, walked. -/
import Derived.Test.YtdpihoblkldghaaM1
namespace Go.Proofs.Ytdpihoblkldghaa
open Go.RowKit Go.Lib

theorem okM_false_of {l : List UInt8} (h : okM l = false) : ∃ m, okM l = m ∧ m = false := ⟨_, rfl, h⟩
set_option maxRecDepth 100000 in
set_option maxHeartbeats 1600000 in
theorem degree_any (w : World) (s : ByteArray) (hs : s.size ≤ 1000000000) (o : Int) (ho : (if okM s.data.toList then (sumM s.data.toList : Int) else 0) = o) :
    Calls Try.prog 14 #[.string s] w (Ret (.int .i64 o) w) := by
  have hb := Below.refl w.heap.size w
  go_enter Try.func14, Try.ntmps14
  go_wp2_with fail
  obtain ⟨m, hm⟩ : ∃ m, okM s.data.toList = m := ⟨_, rfl⟩
  refine (may_any _ s hs s.size m (by rw [hm]; simp)).mono ?_
  rintro e W ⟨rfl, hq⟩
  replace hb := below_next hb hq
  clear hq
  rw [hm] at ho
  cases m with
  | false =>
    have h0 : o = 0 := by rw [← ho]; rfl
    subst h0
    go_wp2
    go_ret
    exact ⟨rfl, hb⟩
  | true =>
    have h1 : (sumM s.data.toList : Int) = o := by rw [← ho]; rfl
    have HO := Lib.hid (And.intro h1 hm); clear ho h1 hm
    have hS0 := MW.start W s
    go_wp2
    go_loopw [3] (fun dv wr => ∃ k : Nat, dv = .int .i64 (sumM (s.data.toList.take k)) ∧ MW W wr s k) (fun _ wr => s.size - wr.iterPos W.heap.size)
    case atStart => exact ⟨0, by simp [sumM], hS0⟩
    case round =>
      clear hS0
      obtain ⟨k, rfl, hM⟩ := hrel
      have hit := hM.2.2.1
      by_cases hks : k < s.size
      · have ha : (s[k]'hks).toNat < 128 := by
          have := okM_get HO.out.2 (k := k) hks
          rwa [get_list] at this
        have hnx : ∀ ty, (Instr.next (.pointer (some ⟨W.heap.size, 0, none⟩)) true ty).run Try.prog wr = _ := fun ty => Lib.run_next_ascii_at wr W.heap.size s k ty hit hks ha
        have hR := hM.step hks ha
        have hpos := iterPos_of hR.2.2.1
        have hpos0 := iterPos_of hit
        have hsum := sumM_take (l := s.data.toList) (k := k) hks
        rw [get_list s k hks] at hsum
        obtain ⟨y, hy⟩ : ∃ y : Nat, (s[k]'hks).toNat = y := ⟨_, rfl⟩
        rw [hy] at hnx ha hsum
        have hle := sumM_le (s.data.toList.take k)
        rw [List.length_take, show s.data.toList.length = s.size from rfl] at hle
        have hle2 : sumM (s.data.toList.take k) ≤ 255000000000 := by omega
        have HR := Lib.hid (And.intro hR (And.intro hpos (And.intro hpos0 hsum)))
        clear hR hpos hpos0 hM hy hsum hle
        generalize sumM (s.data.toList.take k) = d at *
        go_wp2
        go_roundw
        case rel => exact ⟨k + 1, by rw [HR.out.2.2.2]; rfl, HR.out.1⟩
        case measure => rw [HR.out.2.1, HR.out.2.2.1]; omega
      · have hnx : ∀ ty, (Instr.next (.pointer (some ⟨W.heap.size, 0, none⟩)) true ty).run Try.prog wr = _ := fun ty => Lib.run_next_end_at wr W.heap.size s k ty hit hks
        obtain rfl : k = s.size := by have := hM.1; omega
        have hb2 := below_next hb hM.2.2.2
        have e1 : sumM (s.data.toList.take s.size) = sumM s.data.toList := by rw [List.take_of_length_le (show s.data.toList.length ≤ s.size from Nat.le_refl _)]
        rw [e1]
        have HE := HO.out.1
        rw [HE]
        clear hM e1
        go_wp2
        go_ret
        exact ⟨rfl, hb2⟩

set_option maxRecDepth 100000 in
theorem isExp_any (w : World) (n : Int) (o : Bool) (ho : decide (0 ≤ n ∧ n ≤ 127) = o) : Calls Try.prog 26 #[.int .i64 n] w (fun e w' => e = .returned (.bool o) ∧ w = w') := by
  have HO := Lib.hid ho; clear ho
  go_enter Try.func26, Try.ntmps26
  by_cases h0 : 0 ≤ n
  · go_wp2
    go_ret
    exact ⟨by rw [← HO.out]; simp [h0], rfl⟩
  · have e1 : o = false := by rw [← HO.out]; simp [h0]
    subst e1
    go_wp2
    go_ret
    exact ⟨rfl, rfl⟩
end Go.Proofs.Ytdpihoblkldghaa
