/- The law of what a text is: it answers true for all. -/
import Derived.Test.YtfgolecbchhokaaGreatDoorG8
import Derived.Test.YtfgolecbchhokaaGreatDoorDRef3
namespace Go.Proofs.YtfgolecbchhokaaGreatDoor
open Go.RowKit Go.Shelf Go.Lib

set_option maxRecDepth 100000 in
set_option maxHeartbeats 1600000 in
theorem dparses_law (w : World) (htab : Lib.TabIs Tryz.prog w "internal/strconv.uint64pow10" .u64 Lib.pow10Tab) (s : ByteArray) (_hw : s.size ≤ maxLen) :
    Calls Tryz.prog 4 #[.string s] w (Ret (.bool true) w) := by
  have hb := Below.refl w.heap.size w
  go_enter Tryz.func4, Tryz.ntmps4
  by_cases h100 : 100 < s.size
  · go_wp2_with fail
    refine (dawake_any _ htab).mono ?_
    rintro e W ⟨rfl, hq⟩
    replace hb := below_next hb hq
    go_wp2
    go_ret
    exact ⟨rfl, hb⟩
  · cases hbad : isBad s.data.toList
    case true =>
      obtain ⟨p, hp⟩ : ∃ p, badPlace s.data.toList = p := ⟨_, rfl⟩
      have hps : p ≤ 100 := by rw [← hp]; exact Nat.le_trans (badPlace_le _) (by show s.size ≤ 100; omega)
      have HP := Lib.hid (And.intro hbad hp)
      clear hbad hp
      go_wp2_with fail
      refine (parse_bad _ s (by omega) p HP.out.2 HP.out.1).mono ?_
      rintro e W ⟨rfl, hq⟩
      replace hb := below_next hb hq
      clear hq
      obtain ⟨hA, hb2⟩ := blocks1 W #[.bool false, .string ⟨#[]⟩]
      replace hb := below_next hb hb2
      clear hb2
      go_wp2_with fail
      generalize (W.alloc (Obj.cells #[Value.bool false, Value.string { data := #[] }] 23)) = W0 at *
      refine (rparse_any _ s (by omega) false ⟨#[]⟩ p (.inl ⟨HP.out.1, rfl, rfl, by rw [HP.out.2]⟩)).mono ?_
      rintro e V ⟨rfl, hq⟩
      replace hb := below_next hb hq
      replace hA := hA.below hq
      clear hq
      obtain ⟨hB, hb2⟩ := blocks1 V #[.bool false, .string ⟨#[]⟩]
      replace hb := below_next hb hb2
      replace hA := hA.below hb2
      clear hb2
      obtain ⟨hA0, hA1⟩ := hA.cells
      obtain ⟨hB0, hB1⟩ := hB.cells
      go_wp2_with fail
      refine (dawake_any _ (tab_below htab hb)).mono ?_
      rintro e U ⟨rfl, hq⟩
      replace hb := below_next hb hq
      go_wp2
      go_ret
      exact ⟨rfl, hb⟩
    case false =>
      obtain ⟨z, o, hz⟩ : ∃ z o, wf (tV s.data.toList) = wi z o := ⟨_, _, rfl⟩
      have HP := Lib.hid (And.intro hbad hz)
      clear hbad hz
      go_wp2_with fail
      refine (parse_good _ s (by omega) HP.out.1 z o HP.out.2).mono ?_
      rintro e W ⟨rfl, hq⟩
      replace hb := below_next hb hq
      clear hq
      obtain ⟨hA, hb2⟩ := blocks1 W #[.bool z, .string o]
      replace hb := below_next hb hb2
      clear hb2
      go_wp2_with fail
      generalize (W.alloc (Obj.cells #[Value.bool z, Value.string o] 23)) = W0 at *
      refine (rparse_any _ s (by omega) z o (-1) (.inr ⟨HP.out.1, HP.out.2, rfl⟩)).mono ?_
      rintro e V ⟨rfl, hq⟩
      replace hb := below_next hb hq
      replace hA := hA.below hq
      clear hq
      obtain ⟨hB, hb2⟩ := blocks1 V #[.bool z, .string o]
      replace hb := below_next hb hb2
      replace hA := hA.below hb2
      clear hb2
      obtain ⟨hA0, hA1⟩ := hA.cells
      obtain ⟨hB0, hB1⟩ := hB.cells
      go_wp2_with fail
      refine (dawake_any _ (tab_below htab hb)).mono ?_
      rintro e U ⟨rfl, hq⟩
      replace hb := below_next hb hq
      go_wp2
      go_ret
      exact ⟨rfl, hb⟩
end Go.Proofs.YtfgolecbchhokaaGreatDoor
