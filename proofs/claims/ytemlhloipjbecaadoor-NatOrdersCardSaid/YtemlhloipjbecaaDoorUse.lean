/- The exported functions' answers, each in one form; and the chapter's examples. -/
import Derived.Test.YtemlhloipjbecaaDoorMul
import Derived.Test.YtemlhloipjbecaaDoorDiv
import Derived.Test.YtemlhloipjbecaaDoorShl
import Derived.Test.YtemlhloipjbecaaDoorShr
namespace Go.Proofs.YtemlhloipjbecaaDoor
open Go.RowKit Go.Shelf

/-- A call returned that value, and nothing that was there has turned. -/
def Ret (v : Value) (w : World) : Ending → World → Prop := fun e w' => e = .returned v ∧ Below w.heap.size w w'
theorem below_next {w W W' : World} (hb : Below w.heap.size w W) (hc : Below W.heap.size W W') : Below w.heap.size w W' := hb.trans (hc.mono hb.size)
section
variable (w : World) (a b r : ByteArray)
theorem use_of (n : Nat) (hn : n < B64) (hr : fb n = r) : Calls Tryd.prog 13 #[.int .u64 n] w (Ret (.string r) w) :=
  (of_any w n hn).mono fun _ _ ⟨h, hb⟩ => ⟨by rw [h, ← hr]; rfl, hb⟩
theorem use_trim (ha : a.size ≤ 100000000) (hr : fb (num a) = r) : Calls Tryd.prog 15 #[.string a] w (Ret (.string r) w) :=
  (trim_any w a (by omega)).mono fun _ _ ⟨h, hb⟩ => ⟨by rw [h, hr], hb⟩
theorem use_cmp (c : Int) (hr : cmpN (num a) (num b) = c) : Calls Tryd.prog 24 #[.string a, .string b] w (Ret (.int .i64 c) w) :=
  (cmp_any w a b).mono fun _ _ ⟨h, hb⟩ => ⟨by rw [h, hr], hb ▸ Below.refl _ _⟩
theorem use_len (c : Int) (ha : a.size ≤ 100000000) (hr : (bl (num a) : Int) = c) : Calls Tryd.prog 18 #[.string a] w (Ret (.int .i64 c) w) :=
  (len_any w a (by omega)).mono fun _ _ ⟨h, hb⟩ => ⟨by rw [h, hr], hb ▸ Below.refl _ _⟩
theorem use_zeros (c : Int) (ha : a.size ≤ 100000000) (hr : (tz (num a) : Int) = c) : Calls Tryd.prog 20 #[.string a] w (Ret (.int .i64 c) w) :=
  (zeros_any w a (by omega)).mono fun _ _ ⟨h, hb⟩ => ⟨by rw [h, hr], hb ▸ Below.refl _ _⟩
theorem use_sub (ok : Bool) (ha : a.size ≤ 100000000) (hb : b.size ≤ 100000000) (hr : fb (num a - num b) = r) (ho : decide (num b ≤ num a) = ok) : Calls Tryd.prog 22 #[.string a, .string b] w (Ret (.tuple #[.string r, .bool ok]) w) :=
  (sub_any w a b (by omega) (by omega)).mono fun _ _ ⟨h, hb⟩ => ⟨by rw [h, hr, ho], hb⟩
theorem use_mul (ha : a.size ≤ 100000000) (hb : b.size ≤ 100000000) (hr : fb (num a * num b) = r) : Calls Tryd.prog 28 #[.string a, .string b] w (Ret (.string r) w) :=
  (mul_any w a b ha hb).mono fun _ _ ⟨h, hb⟩ => ⟨by rw [h, hr], hb⟩
theorem use_div (v : Value) (ha : a.size ≤ 100000000) (hb : b.size ≤ 100000000) (hr : divV (num a) (num b) = v) : Calls Tryd.prog 30 #[.string a, .string b] w (Ret v w) :=
  (div_any w a b ha hb).mono fun _ _ ⟨h, hb⟩ => ⟨by rw [h, hr], hb⟩
theorem use_shl (n : Int) (ha : a.size ≤ 100000000) (hn : n ≤ 1000000000) (hr : fb (shlN (num a) n) = r) : Calls Tryd.prog 32 #[.string a, .int .i64 n] w (Ret (.string r) w) :=
  (shl_any w a n ha hn).mono fun _ _ ⟨h, hb⟩ => ⟨by rw [h, hr], hb⟩
theorem use_shr (n : Int) (ha : a.size ≤ 100000000) (hn : n ≤ 9223372036854775807) (hr : fb (shrN (num a) n) = r) : Calls Tryd.prog 34 #[.string a, .int .i64 n] w (Ret (.string r) w) :=
  (shr_any w a n ha hn).mono fun _ _ ⟨h, hb⟩ => ⟨by rw [h, hr], hb⟩
/-- Of two texts that lie in a new block. -/
theorem use_add (ha : a.size ≤ 1000000) (hb : b.size ≤ 1000000) (hr : fb (num a + num b) = r) :
    Calls Tryd.prog 26 #[.slice (some ⟨w.heap.size, 0, none⟩) 2 2] (w.alloc (.cells #[.string a, .string b] 9)) (Ret (.string r) w) := by
  have hR := Rw.new w 9 [.string a, .string b]
  refine (add_any _ (some ⟨w.heap.size, 0, none⟩) [a, b] 2 2 rfl (by omega) (fun s h => by simp at h; rcases h with h | h <;> (rw [h]; assumption)) (fun i h => ?_)).mono fun _ _ ⟨h, hb⟩ => ⟨?_, ?_⟩
  · refine ⟨w.heap.size, 0, rfl, by rw [World.size_alloc]; omega, ?_⟩
    rw [Nat.zero_add]
    refine (hR.cell i).trans ?_
    match i, h with
    | 0, _ => rfl
    | 1, _ => rfl
  · rw [h, ← hr]
    simp [sumTo]
  · exact ((Below.refl _ _).alloc (Nat.le_refl _) _).trans (hb.mono (by rw [World.size_alloc]; omega))
end

end Go.Proofs.YtemlhloipjbecaaDoor
