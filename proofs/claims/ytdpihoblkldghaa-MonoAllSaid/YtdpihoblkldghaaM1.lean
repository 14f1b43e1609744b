/- Products as strings: May, Degree and what is asked of them, walked. -/
import Derived.Test.YtdpihoblkldghaaMBase
namespace Go.Proofs.Ytdpihoblkldghaa
open Go.RowKit Go.Lib

/-- Between the rounds of a range over a string: bytes below 128 so far. -/
def MW (w wr : World) (s : ByteArray) (k : Nat) : Prop :=
  k ≤ s.size ∧ (∀ j (hj : j < s.data.toList.length), j < k → (s.data.toList[j]).toNat < 128) ∧ wr.heap[w.heap.size]? = some (.stringIter s k) ∧ Below w.heap.size w wr
theorem MW.start (w : World) (s : ByteArray) : MW w (w.iter s 0) s 0 :=
  ⟨Nat.zero_le _, fun j _ h => by omega, World.iter_heap w s 0, (Below.refl w.heap.size w).alloc (Nat.le_refl _) _⟩
theorem MW.step {w wr : World} {s : ByteArray} {k : Nat} (h : MW w wr s k) (hk : k < s.size) (ha : (s[k]'hk).toNat < 128) : MW w (wr.iterAt w.heap.size s (k + 1)) s (k + 1) := by
  obtain ⟨_, h2, h3, h4⟩ := h
  refine ⟨hk, fun j hj hjk => ?_, Lib.iterAt_heap _ _ _ _ _ h3, below_iterAt h4 (Nat.le_refl _) _ _⟩
  rcases Nat.lt_or_eq_of_le (Nat.le_of_lt_succ hjk) with h | h
  · exact h2 j hj h
  · subst h; exact ha
theorem MW.all {w wr : World} {s : ByteArray} (h : MW w wr s s.size) : okM s.data.toList = true := okM_good fun j hj => h.2.1 j hj hj
theorem get_list (s : ByteArray) (k : Nat) (hk : k < s.size) : (s.data.toList[k]'hk) = s[k]'hk := rfl
theorem bad_of (s : ByteArray) (k : Nat) (hk : k < s.size) (h : ¬ (s[k]'hk).toNat < 128) : okM s.data.toList = false := okM_bad (k := k) hk (by rw [get_list]; omega)

set_option maxRecDepth 100000 in
set_option maxHeartbeats 1600000 in
theorem may_any (w : World) (s : ByteArray) (_hs : s.size ≤ 1000000000) (v : Int) (o : Bool) (ho : (okM s.data.toList && decide ((s.size : Int) = v)) = o) :
    Calls Try.prog 16 #[.string s, .int .i64 v] w (Ret (.bool o) w) := by
  have HO := Lib.hid ho; clear ho
  have hS0 := MW.start w s
  go_enter Try.func16, Try.ntmps16
  go_wp2
  go_loopw [] (fun wr => ∃ k : Nat, MW w wr s k) (fun wr => s.size - wr.iterPos w.heap.size)
  case atStart => exact ⟨0, hS0⟩
  case round =>
    clear hS0
    obtain ⟨k, hM⟩ := hrel
    have hit := hM.2.2.1
    by_cases hks : k < s.size
    · by_cases ha : (s[k]'hks).toNat < 128
      · have hnx : ∀ ty, (Instr.next (.pointer (some ⟨w.heap.size, 0, none⟩)) true ty).run Try.prog wr = _ := fun ty => Lib.run_next_ascii_at wr w.heap.size s k ty hit hks ha
        have hR := hM.step hks ha
        have hpos := iterPos_of hR.2.2.1
        have hpos0 := iterPos_of hit
        obtain ⟨y, hy⟩ : ∃ y : Nat, (s[k]'hks).toNat = y := ⟨_, rfl⟩
        rw [hy] at hnx ha
        have HR := Lib.hid (And.intro hR (And.intro hpos hpos0))
        clear hR hpos hpos0 hM hy
        go_wp2
        go_roundw
        case rel => exact ⟨k + 1, HR.out.1⟩
        case measure => rw [HR.out.2.1, HR.out.2.2]; omega
      · have hnx : ∀ ty, (Instr.next (.pointer (some ⟨w.heap.size, 0, none⟩)) true ty).run Try.prog wr = _ := fun ty => Lib.run_next_any_at wr w.heap.size s k ty hit hks
        have hdh := (decode_high s k hks (by omega)).1
        have hB := bad_of s k hks ha
        have hb := hM.2.2.2
        have e1 : o = false := by rw [← HO.out, hB]; rfl
        subst e1
        clear hM
        generalize (Utf8.decode s k).1 = r at hnx hdh
        generalize (Utf8.decode s k).2 = wd at hnx
        go_wp2
        go_ret
        exact ⟨rfl, below_iterAt hb (Nat.le_refl _) _ _⟩
    · have hnx : ∀ ty, (Instr.next (.pointer (some ⟨w.heap.size, 0, none⟩)) true ty).run Try.prog wr = _ := fun ty => Lib.run_next_end_at wr w.heap.size s k ty hit hks
      obtain rfl : k = s.size := by have := hM.1; omega
      have hall := hM.all
      have hb := hM.2.2.2
      have HE := Lib.hid hall
      clear hall hM
      go_wp2
      go_ret
      exact ⟨by rw [← HO.out, HE.out, Bool.true_and]; exact congrArg (fun z => Ending.returned (Value.bool z)) (by rw [Bool.eq_iff_iff]; simp), hb⟩
end Go.Proofs.Ytdpihoblkldghaa
