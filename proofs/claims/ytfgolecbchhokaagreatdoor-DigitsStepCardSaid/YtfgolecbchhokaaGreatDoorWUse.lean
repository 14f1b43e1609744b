/- Mul of two and of three Ints that lie in a new block. -/
import Derived.Test.YtfgolecbchhokaaGreatDoorWMul
namespace Go.Proofs.YtfgolecbchhokaaGreatDoor
open Go.RowKit Go.Shelf

theorem use_wmul2 (w : World) (m n : Bool) (s t : ByteArray) (hs : s.size ≤ 100000) (ht : t.size ≤ 100000) (z : Bool) (o : ByteArray) (hz : wf (wv m s * wv n t) = wi z o) :
    Calls Tryz.prog 25 #[.slice (some ⟨w.heap.size, 0, none⟩) 2 2] (w.alloc (.cells #[.bool m, .string s, .bool n, .string t] 23)) (Ret (.agg #[.bool z, .string o]) w) := by
  refine (wmul_any _ w.heap.size 0 [(m, s), (n, t)] 2 2 rfl (by omega) (by omega) (by omega) (fun x h => by simp at h; rcases h with h | h <;> (rw [h]; assumption)) (IAt.new w _ _ _ rfl) z o ?_).mono fun _ _ ⟨h, hb⟩ => ⟨h, ?_⟩
  · rw [← hz]
    congr 1
    show (1 * wv m s) * wv n t = _
    rw [Int.one_mul]
  · exact ((Below.refl _ _).alloc (Nat.le_refl _) _).trans (hb.mono (by rw [World.size_alloc]; omega))
theorem use_wmul3 (w : World) (m n q : Bool) (s t u : ByteArray) (hs : s.size ≤ 100000) (ht : t.size ≤ 100000) (hu : u.size ≤ 100000) (z : Bool) (o : ByteArray) (hz : wf (wv m s * wv n t * wv q u) = wi z o) :
    Calls Tryz.prog 25 #[.slice (some ⟨w.heap.size, 0, none⟩) 3 3] (w.alloc (.cells #[.bool m, .string s, .bool n, .string t, .bool q, .string u] 23)) (Ret (.agg #[.bool z, .string o]) w) := by
  refine (wmul_any _ w.heap.size 0 [(m, s), (n, t), (q, u)] 3 3 rfl (by omega) (by omega) (by omega) (fun x h => by simp at h; rcases h with h | h | h <;> (rw [h]; assumption)) (IAt.new w _ _ _ rfl) z o ?_).mono fun _ _ ⟨h, hb⟩ => ⟨h, ?_⟩
  · rw [← hz]
    congr 1
    show (1 * wv m s) * wv n t * wv q u = _
    rw [Int.one_mul]
  · exact ((Below.refl _ _).alloc (Nat.le_refl _) _).trans (hb.mono (by rw [World.size_alloc]; omega))
end Go.Proofs.YtfgolecbchhokaaGreatDoor
