/- The law of a number's text: it answers true for all. -/
import Derived.Test.YtfgolecbchhokaaGreatDoorG8
import Derived.Test.YtfgolecbchhokaaGreatDoorDRef2
import Derived.Deep.DeepFit
import Derived.Deep.RegionHeld3
namespace Go.Proofs.YtfgolecbchhokaaGreatDoor
open Go.RowKit Go.Shelf Go.Lib

set_option maxRecDepth 100000 in
set_option maxHeartbeats 1600000 in
theorem dprints_law (w : World) (htab : Lib.TabIs Tryz.prog w "internal/strconv.uint64pow10" .u64 Lib.pow10Tab) (n : Bool) (s : ByteArray) :
    Calls Tryz.prog 3 #[wi n s] w (Ret (.bool true) w) := by
  unfold wi
  go_enter Tryz.func3, Tryz.ntmps3
  by_cases h60 : 60 < s.size
  · go_wp2_with fail
    have hb : Below w.heap.size w (w.alloc (.cells #[.bool n, .string s] 23)) := (Below.refl _ _).alloc (Nat.le_refl _) _
    refine (dawake_any _ (tab_below htab hb)).mono ?_
    rintro e W ⟨rfl, hq⟩
    replace hb := below_next hb hq
    go_wp2
    go_ret
    exact ⟨rfl, hb⟩
  · obtain ⟨o, ho⟩ : ∃ o, (⟨(itoa (wv n s)).toArray⟩ : ByteArray) = o := ⟨_, rfl⟩
    obtain ⟨f, hf⟩ : ∃ f, (⟨(decDigits (num s)).toArray⟩ : ByteArray) = f := ⟨_, rfl⟩
    have hfz : (nDigits (num s) : Int) = (f.size : Int) := by
      rw [← hf, ← decDigits_length]
      rfl
    have HO := Lib.hid (And.intro ho (And.intro hf hfz))
    clear ho hf hfz
    go_wp2_with fail
    obtain ⟨hA, hb⟩ := blocks1 w #[.bool n, .string s]
    generalize (w.alloc (Obj.cells #[Value.bool n, Value.string s] 23)) = W0 at *
    have hin := hA.drew.cells
    clear hA
    replace hb := hb.drew
    go_region_held3 (fun w' => w'.cell? ⟨w.heap.size, 0, none⟩ = some (.bool n) ∧ w'.cell? ⟨w.heap.size, 1, none⟩ = some (.string s))
      (first | assumption | exact held (by assumption) (by assumption))
      (first
       | (go_at_call 15; go_fit (print_any _ (tab_below htab hb) n s (by omega) o HO.out.1); rintro e V ⟨rfl, hq⟩; replace hb := below_next hb hq)
       | (go_at_call 16; go_fit (rprint_any _ n s (by omega) o HO.out.1); rintro e V ⟨rfl, hq⟩; replace hb := below_next hb hq)
       | (go_at_call 17; go_fit (dlen_any _ (tab_below htab hb) n s (by omega) (f.size : Int) HO.out.2.2); rintro e V ⟨rfl, hq⟩; replace hb := below_next hb hq)
       | (go_at_call 18; go_fit (rfigures_any _ s (by omega) f HO.out.2.1); rintro e V ⟨rfl, hq⟩; replace hb := below_next hb hq)
       | (go_at_call 14; go_fit (dawake_any _ (tab_below htab hb)); rintro e V ⟨rfl, hq⟩; replace hb := below_next hb hq))
    go_wp2
    go_ret
    exact ⟨rfl, hb⟩
end Go.Proofs.YtfgolecbchhokaaGreatDoor
