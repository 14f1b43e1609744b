/- The law of numbers and their texts, there and back: it answers true for all. -/
import Derived.Test.YtfgolecbchhokaaGreatDoorG8
import Derived.Test.YtfgolecbchhokaaGreatDoorDFacts
import Derived.Test.YtfgolecbchhokaaGreatDoorW2
import Derived.Deep.DeepFit
import Derived.Deep.RegionHeld3
namespace Go.Proofs.YtfgolecbchhokaaGreatDoor
open Go.RowKit Go.Shelf Go.Lib

theorem text_list {z : Int} {o : ByteArray} (ho : ⟨(itoa z).toArray⟩ = o) : o.data.toList = itoa z := by rw [← ho]
theorem text_good {z : Int} {o : ByteArray} (ho : ⟨(itoa z).toArray⟩ = o) : isBad o.data.toList = false ∧ tV o.data.toList = z := by
  rw [text_list ho]
  exact itoa_good z
theorem text_same {y z : Int} {o p : ByteArray} (ho : ⟨(itoa y).toArray⟩ = o) (hp : ⟨(itoa z).toArray⟩ = p) (h : o = p) : y = z := by
  refine itoa_inj ?_
  rw [← text_list ho, ← text_list hp, h]
theorem val_of_form {x : Int} {z : Bool} {o : ByteArray} (h : wf x = wi z o) : wv z o = x := by
  obtain ⟨h1, h2⟩ := wi_inj h
  rw [← h1, ← h2, sI_fb]
  unfold sI
  by_cases hx : x < 0
  · rw [decide_eq_true hx]; simp; omega
  · rw [decide_eq_false hx]; simp; omega
theorem tV_size {x : ByteArray} {z : Bool} {o : ByteArray} {q : Nat} (hbad : isBad x.data.toList = false) (hz : wf (tV x.data.toList) = wi z o) (hq : x.data.toList.length ≤ q) : o.size ≤ q := by
  obtain ⟨g1, _, _⟩ := good_text hbad
  have h1 := dV_lt _ g1
  have h2 : (tV x.data.toList).natAbs = dV (bodyOf x.data.toList) := by
    unfold tV
    split <;> simp
  have h3 : (bodyOf x.data.toList).length ≤ q := by
    unfold bodyOf
    rw [List.length_drop]
    omega
  obtain ⟨n, s, e, _, hs⟩ := nmw (z := tV x.data.toList) (k := q) (by
    rw [h2]
    exact Nat.lt_of_lt_of_le h1 (Nat.le_trans (Nat.pow_le_pow_right (by decide) h3) (Nat.pow_le_pow_left (by decide) _)))
  obtain ⟨_, rfl⟩ := wi_inj (e.symm.trans hz)
  exact hs
theorem text_size {n : Bool} {s o : ByteArray} (ho : ⟨(itoa (wv n s)).toArray⟩ = o) : o.size ≤ 3 * s.size + 2 := by
  have h1 := dec_size s
  have h2 : (⟨(decDigits (num s)).toArray⟩ : ByteArray).size = (decDigits (num s)).length := rfl
  rw [h2] at h1
  show o.data.toList.length ≤ _
  rw [text_list ho, itoa_wv]
  split
  · rw [List.length_cons]; omega
  · omega

set_option maxRecDepth 100000 in
set_option maxHeartbeats 4000000 in
theorem dback_law (w : World) (htab : Lib.TabIs Tryz.prog w "internal/strconv.uint64pow10" .u64 Lib.pow10Tab) (m n : Bool) (s t : ByteArray) (x : ByteArray) (_hx : x.size ≤ maxLen) :
    Calls Tryz.prog 5 #[wi m s, wi n t, .string x] w (Ret (.bool true) w) := by
  unfold wi
  go_enter Tryz.func5, Tryz.ntmps5
  have HB := Lib.hid (blocks2 w #[.bool m, .string s] #[.bool n, .string t])
  by_cases h1 : 300 < s.size
  · go_wp2_with fail
    have hb := HB.out.2.2
    refine (dawake_any _ (tab_below htab hb)).mono ?_
    rintro e W9 ⟨rfl, hq⟩
    replace hb := below_next hb hq
    go_wp2
    go_ret
    exact ⟨rfl, hb⟩
  by_cases h2 : 300 < t.size
  · go_wp2_with fail
    have hb := HB.out.2.2
    refine (dawake_any _ (tab_below htab hb)).mono ?_
    rintro e W9 ⟨rfl, hq⟩
    replace hb := below_next hb hq
    go_wp2
    go_ret
    exact ⟨rfl, hb⟩
  by_cases h3 : 600 < x.size
  · go_wp2_with fail
    have hb := HB.out.2.2
    refine (dawake_any _ (tab_below htab hb)).mono ?_
    rintro e W9 ⟨rfl, hq⟩
    replace hb := below_next hb hq
    go_wp2
    go_ret
    exact ⟨rfl, hb⟩
  obtain ⟨o, ho⟩ : ∃ o, (⟨(itoa (wv m s)).toArray⟩ : ByteArray) = o := ⟨_, rfl⟩
  obtain ⟨p, hp⟩ : ∃ p, (⟨(itoa (wv n t)).toArray⟩ : ByteArray) = p := ⟨_, rfl⟩
  have hos := text_size ho
  obtain ⟨g1, g2⟩ := text_good ho
  obtain ⟨zf, of', ef, vf, sf⟩ := form_nmw m s (k := 300) (by omega)
  obtain ⟨c, hc⟩ : ∃ c, sg (wv m s - wv n t) = c := ⟨_, rfl⟩
  have HO := Lib.hid (And.intro ho (And.intro hp (And.intro g1 (And.intro (by rw [g2]; exact ef : wf (tV o.data.toList) = wi zf of') (And.intro ef hc)))))
  have HC := Lib.hid (show (wv m s = wv n t ∧ p = o ∧ c = 0) ∨ ((o.toList == p.toList) = false ∧ (c == 0) = false) from by
    rcases sg_cases (wv m s - wv n t) with ⟨h, h'⟩ | ⟨h, h'⟩ | ⟨h, h'⟩
    · have e : wv m s = wv n t := by omega
      exact .inl ⟨e, by rw [← ho, ← hp, e], by rw [← hc, h']⟩
    · refine .inr ⟨?_, by rw [← hc, h']; rfl⟩
      exact two_lists fun e => by have := text_same ho hp e; omega
    · refine .inr ⟨?_, by rw [← hc, h']; rfl⟩
      exact two_lists fun e => by have := text_same ho hp e; omega)
  clear ho hp g1 g2 ef vf hc
  go_wp2_with fail
  obtain ⟨hA, hB, hb⟩ := HB.out
  generalize ((w.alloc (Obj.cells #[Value.bool m, Value.string s] 23)).alloc (Obj.cells #[Value.bool n, Value.string t] 23)) = W0 at *
  clear HB
  refine (print_any _ (tab_below htab hb) m s (by omega) o HO.out.1).mono ?_
  rintro e W ⟨rfl, hq⟩
  replace hb := below_next hb hq
  replace hA := hA.below hq
  replace hB := hB.below hq
  clear hq
  go_wp2_with fail
  refine (parse_good _ o (by omega) HO.out.2.2.1 zf of' HO.out.2.2.2.1).mono ?_
  rintro e V ⟨rfl, hq⟩
  replace hb := below_next hb hq
  replace hA := hA.below hq
  replace hB := hB.below hq
  clear hq
  obtain ⟨hX, hb2⟩ := blocks1 V #[.bool zf, .string of']
  replace hb := below_next hb hb2
  replace hA := hA.below hb2
  replace hB := hB.below hb2
  clear hb2
  go_wp2_with fail
  replace hb := hb.drew
  have hin := And.intro hA.drew.cells (And.intro hB.drew.cells hX.drew.cells)
  generalize (V.alloc (Obj.cells #[Value.bool zf, Value.string of'] 23)) = V0 at *
  clear hA hB hX
  rcases HC.out with ⟨_, rfl, rfl⟩ | ⟨hop, hc0⟩
  · go_region_held3 (fun w' => (w'.cell? ⟨w.heap.size, 0, none⟩ = some (.bool m) ∧ w'.cell? ⟨w.heap.size, 1, none⟩ = some (.string s)) ∧ (w'.cell? ⟨w.heap.size + 1, 0, none⟩ = some (.bool n) ∧ w'.cell? ⟨w.heap.size + 1, 1, none⟩ = some (.string t)) ∧ (w'.cell? ⟨V.heap.size, 0, none⟩ = some (.bool zf) ∧ w'.cell? ⟨V.heap.size, 1, none⟩ = some (.string of')))
      (first | assumption | exact held3 (by assumption) (by assumption))
      (first
       | (go_at_call 21; go_fit (wform_any _ m s (by omega) zf of' HO.out.2.2.2.2.1); rintro e U ⟨rfl, hq⟩; replace hb := below_next hb hq)
       | (go_at_call 15; go_fit (print_any _ (tab_below htab hb) n t (by omega) p HO.out.2.1); rintro e U ⟨rfl, hq⟩; replace hb := below_next hb hq)
       | (go_at_call 22; go_fit (wcmp_any _ m n s t (by omega) (by omega) 0 HO.out.2.2.2.2.2); rintro e U ⟨rfl, hq⟩; replace hb := below_next hb hq))
    go_wp2_with fail
    cases hbad : isBad x.data.toList
    case true =>
      obtain ⟨q, hq⟩ : ∃ q, badPlace x.data.toList = q := ⟨_, rfl⟩
      have HP := Lib.hid (And.intro hbad hq)
      clear hbad hq
      refine (parse_bad _ x (by omega) q HP.out.2 HP.out.1).mono ?_
      rintro e U ⟨rfl, hq⟩
      replace hb := below_next hb hq
      clear hq
      obtain ⟨hY, hb2⟩ := blocks1 U #[.bool false, .string ⟨#[]⟩]
      replace hb := below_next hb hb2
      clear hb2 hY
      go_wp2_with fail
      generalize (U.alloc (Obj.cells #[Value.bool false, Value.string { data := #[] }] 23)) = U0 at *
      refine (dawake_any _ (tab_below htab hb)).mono ?_
      rintro e W9 ⟨rfl, hq⟩
      replace hb := below_next hb hq
      go_wp2
      go_ret
      exact ⟨rfl, hb⟩
    case false =>
      obtain ⟨zy, oy, hz⟩ : ∃ z o, wf (tV x.data.toList) = wi z o := ⟨_, _, rfl⟩
      have hsy := tV_size hbad hz (q := 600) (by show x.size ≤ 600; omega)
      have hty : (⟨(itoa (wv zy oy)).toArray⟩ : ByteArray) = x := by
        rw [val_of_form hz, itoa_tV hbad]
      have HP := Lib.hid (And.intro hbad (And.intro hz hty))
      clear hbad hz hty
      refine (parse_good _ x (by omega) HP.out.1 zy oy HP.out.2.1).mono ?_
      rintro e U ⟨rfl, hq⟩
      replace hb := below_next hb hq
      clear hq
      obtain ⟨hY, hb2⟩ := blocks1 U #[.bool zy, .string oy]
      replace hb := below_next hb hb2
      clear hb2
      go_wp2_with fail
      generalize (U.alloc (Obj.cells #[Value.bool zy, Value.string oy] 23)) = U0 at *
      refine (print_any _ (tab_below htab hb) zy oy (by omega) x HP.out.2.2).mono ?_
      rintro e U1 ⟨rfl, hq⟩
      replace hb := below_next hb hq
      clear hq
      go_wp2_with fail
      refine (dawake_any _ (tab_below htab hb)).mono ?_
      rintro e W9 ⟨rfl, hq⟩
      replace hb := below_next hb hq
      go_wp2
      go_ret
      exact ⟨rfl, hb⟩
  · go_region_held3 (fun w' => (w'.cell? ⟨w.heap.size, 0, none⟩ = some (.bool m) ∧ w'.cell? ⟨w.heap.size, 1, none⟩ = some (.string s)) ∧ (w'.cell? ⟨w.heap.size + 1, 0, none⟩ = some (.bool n) ∧ w'.cell? ⟨w.heap.size + 1, 1, none⟩ = some (.string t)) ∧ (w'.cell? ⟨V.heap.size, 0, none⟩ = some (.bool zf) ∧ w'.cell? ⟨V.heap.size, 1, none⟩ = some (.string of')))
      (first | assumption | exact held3 (by assumption) (by assumption))
      (first
       | (go_at_call 21; go_fit (wform_any _ m s (by omega) zf of' HO.out.2.2.2.2.1); rintro e U ⟨rfl, hq⟩; replace hb := below_next hb hq)
       | (go_at_call 15; go_fit (print_any _ (tab_below htab hb) n t (by omega) p HO.out.2.1); rintro e U ⟨rfl, hq⟩; replace hb := below_next hb hq)
       | (go_at_call 22; go_fit (wcmp_any _ m n s t (by omega) (by omega) c HO.out.2.2.2.2.2); rintro e U ⟨rfl, hq⟩; replace hb := below_next hb hq))
    go_wp2_with fail
    cases hbad : isBad x.data.toList
    case true =>
      obtain ⟨q, hq⟩ : ∃ q, badPlace x.data.toList = q := ⟨_, rfl⟩
      have HP := Lib.hid (And.intro hbad hq)
      clear hbad hq
      refine (parse_bad _ x (by omega) q HP.out.2 HP.out.1).mono ?_
      rintro e U ⟨rfl, hq⟩
      replace hb := below_next hb hq
      clear hq
      obtain ⟨hY, hb2⟩ := blocks1 U #[.bool false, .string ⟨#[]⟩]
      replace hb := below_next hb hb2
      clear hb2 hY
      go_wp2_with fail
      generalize (U.alloc (Obj.cells #[Value.bool false, Value.string { data := #[] }] 23)) = U0 at *
      refine (dawake_any _ (tab_below htab hb)).mono ?_
      rintro e W9 ⟨rfl, hq⟩
      replace hb := below_next hb hq
      go_wp2
      go_ret
      exact ⟨rfl, hb⟩
    case false =>
      obtain ⟨zy, oy, hz⟩ : ∃ z o, wf (tV x.data.toList) = wi z o := ⟨_, _, rfl⟩
      have hsy := tV_size hbad hz (q := 600) (by show x.size ≤ 600; omega)
      have hty : (⟨(itoa (wv zy oy)).toArray⟩ : ByteArray) = x := by
        rw [val_of_form hz, itoa_tV hbad]
      have HP := Lib.hid (And.intro hbad (And.intro hz hty))
      clear hbad hz hty
      refine (parse_good _ x (by omega) HP.out.1 zy oy HP.out.2.1).mono ?_
      rintro e U ⟨rfl, hq⟩
      replace hb := below_next hb hq
      clear hq
      obtain ⟨hY, hb2⟩ := blocks1 U #[.bool zy, .string oy]
      replace hb := below_next hb hb2
      clear hb2
      go_wp2_with fail
      generalize (U.alloc (Obj.cells #[Value.bool zy, Value.string oy] 23)) = U0 at *
      refine (print_any _ (tab_below htab hb) zy oy (by omega) x HP.out.2.2).mono ?_
      rintro e U1 ⟨rfl, hq⟩
      replace hb := below_next hb hq
      clear hq
      go_wp2_with fail
      refine (dawake_any _ (tab_below htab hb)).mono ?_
      rintro e W9 ⟨rfl, hq⟩
      replace hb := below_next hb hq
      go_wp2
      go_ret
      exact ⟨rfl, hb⟩
end Go.Proofs.YtfgolecbchhokaaGreatDoor
