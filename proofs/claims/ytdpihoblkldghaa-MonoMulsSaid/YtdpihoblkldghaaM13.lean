/- The statements MonoOf and MonoMuls, walked. -/
import Derived.Test.YtdpihoblkldghaaMCopy
namespace Go.Proofs.Ytdpihoblkldghaa
open Go.RowKit Go.Lib

set_option maxRecDepth 100000 in
set_option maxHeartbeats 3200000 in
theorem of_law (w : World) (ad : Option Addr) (ns : List Int) (n c : Nat) (hl : ns.length = n) (hr : RI w ad ns) (had : ad = none → c = 0) (hnc : n ≤ c) (m : ByteArray) (v : Int) :
    Calls Try.prog 3 #[.slice ad n c, .string m, .int .i64 v] w (Ret (.bool true) w) := by
  have hb := Below.refl w.heap.size w
  by_cases h1 : n ≤ 500
  · by_cases h2 : m.size ≤ 500
    · obtain ⟨o, ho⟩ : ∃ o, ofS ns = o := ⟨_, rfl⟩
      obtain ⟨e0, he⟩ : ∃ e0, ofE ns = e0 := ⟨_, rfl⟩
      obtain ⟨ms, hms⟩ : ∃ ms, (if okM m.data.toList then expsM m.data.toList else []) = ms := ⟨_, rfl⟩
      have hml : ms.length ≤ 500 := by rw [← hms]; split; (rw [expsM_length]; exact h2); simp
      obtain ⟨dg, hdg⟩ : ∃ dg, (if okM m.data.toList then (sumM m.data.toList : Int) else 0) = dg := ⟨_, rfl⟩
      obtain ⟨p, hp⟩ : ∃ p, (okM m.data.toList && decide ((m.size : Int) = v)) = p := ⟨_, rfl⟩
      obtain ⟨q, hq'⟩ : ∃ q, (okM m.data.toList && decide ((m.size : Int) = m.size)) = q := ⟨_, rfl⟩
      go_enter Try.func3, Try.ntmps3
      go_wp2_with (first
        | (at_builtin; refine wpList_copy_ints rfl (.tmp 21) (.tmp 22) rfl ad ns n c hl rfl rfl hr had hnc (by omega) ?_))
      intro ad2 c2 W1 hr2 hb1
      replace hr := hr.next hb1
      replace hb := below_next hb hb1
      clear hb1
      go_wp2_with fail
      refine (of_any _ _ ns n _ hl (by omega) hr2 o e0 ho he).mono ?_
      rintro e W2 ⟨rfl, hq⟩
      replace hb := below_next hb hq
      replace hr := hr.next hq
      replace hr2 := hr2.next hq
      clear hq
      go_wp2_with fail
      refine (rof_any _ _ ns n _ hl (by omega) hr o e0 ho he).mono ?_
      rintro e W3 ⟨rfl, hq⟩
      replace hb := below_next hb hq
      replace hr := hr.next hq
      replace hr2 := hr2.next hq
      clear hq
      go_wp2_with fail
      refine (rnum_same _ _ _ ns n _ _ hl (by omega) hr2 hr).mono ?_
      rintro e W4 ⟨rfl, hq⟩
      replace hb := below_next hb hq
      clear hq hr hr2
      go_wp2_with fail
      refine (exps_any _ m (by omega) ms hms).mono ?_
      rintro e W5 ⟨a5, c5, rfl, hr5, hq⟩
      replace hb := below_next hb hq
      clear hq
      go_wp2_with fail
      refine (rexps_any _ m (by omega) ms hms).mono ?_
      rintro e W6 ⟨a6, c6, rfl, hr6, hq⟩
      replace hb := below_next hb hq
      replace hr5 := hr5.next hq
      clear hq
      go_wp2_with fail
      refine (rnum_same _ _ _ ms _ _ _ rfl (by omega) hr5 hr6).mono ?_
      rintro e W7 ⟨rfl, hq⟩
      replace hb := below_next hb hq
      clear hq hr5 hr6
      go_wp2_with fail
      refine (degree_any _ m (by omega) dg hdg).mono ?_
      rintro e W8 ⟨rfl, hq⟩
      replace hb := below_next hb hq
      clear hq
      go_wp2_with fail
      refine (rdegree_any _ m (by omega) dg hdg).mono ?_
      rintro e W9 ⟨rfl, hq⟩
      replace hb := below_next hb hq
      clear hq
      go_wp2_with fail
      refine (may_any _ m (by omega) v p hp).mono ?_
      rintro e W10 ⟨rfl, hq⟩
      replace hb := below_next hb hq
      clear hq
      go_wp2_with fail
      refine (rmay_any _ m (by omega) v p hp).mono ?_
      rintro e W11 ⟨rfl, rfl⟩
      go_wp2_with fail
      refine (may_any _ m (by omega) m.size q (by simpa using hq')).mono ?_
      rintro e W12 ⟨rfl, hq⟩
      replace hb := below_next hb hq
      clear hq
      go_wp2_with fail
      refine (rmay_any _ m (by omega) m.size q (by simpa using hq')).mono ?_
      rintro e W13 ⟨rfl, rfl⟩
      go_wp2_with fail
      refine (awake_any _).mono ?_
      rintro e W14 ⟨rfl, hq⟩
      replace hb := below_next hb hq
      clear hq
      go_wp2
      go_ret
      exact ⟨rfl, hb⟩
    · go_enter Try.func3, Try.ntmps3
      go_wp2_with fail
      refine (awake_any _).mono ?_
      rintro e W14 ⟨rfl, hq⟩
      replace hb := below_next hb hq
      clear hq
      go_wp2
      go_ret
      exact ⟨rfl, hb⟩
  · go_enter Try.func3, Try.ntmps3
    go_wp2_with fail
    refine (awake_any _).mono ?_
    rintro e W14 ⟨rfl, hq⟩
    replace hb := below_next hb hq
    clear hq
    go_wp2
    go_ret
    exact ⟨rfl, hb⟩

set_option maxRecDepth 100000 in
set_option maxHeartbeats 3200000 in
theorem muls_law (w : World) (a b : ByteArray) : Calls Try.prog 4 #[.string a, .string b] w (Ret (.bool true) w) := by
  have hb := Below.refl w.heap.size w
  by_cases h1 : a.size ≤ 500
  · by_cases h2 : b.size ≤ 500
    · obtain ⟨x, hx⟩ : ∃ x, togS addF a b = x := ⟨_, rfl⟩
      obtain ⟨e0, he⟩ : ∃ e0, togE addF a b = e0 := ⟨_, rfl⟩
      obtain ⟨u, hu⟩ : ∃ u, togS subF a b = u := ⟨_, rfl⟩
      obtain ⟨is, his⟩ : ∃ is, decide (togE subF a b = 0) = is := ⟨_, rfl⟩
      go_enter Try.func4, Try.ntmps4
      go_wp2_with fail
      refine (mul_any _ a b (by omega) (by omega) x e0 hx he).mono ?_
      rintro e W1 ⟨rfl, hq⟩
      replace hb := below_next hb hq
      clear hq
      go_wp2_with fail
      refine (rmul_any _ a b (by omega) (by omega) x e0 hx he).mono ?_
      rintro e W2 ⟨rfl, hq⟩
      replace hb := below_next hb hq
      clear hq
      go_wp2_with fail
      refine (div_any _ a b (by omega) (by omega) u is hu his).mono ?_
      rintro e W3 ⟨rfl, hq⟩
      replace hb := below_next hb hq
      clear hq
      go_wp2_with fail
      refine (rdiv_any _ a b (by omega) (by omega) u is hu his).mono ?_
      rintro e W4 ⟨rfl, hq⟩
      replace hb := below_next hb hq
      clear hq
      go_wp2_with fail
      refine (awake_any _).mono ?_
      rintro e W14 ⟨rfl, hq⟩
      replace hb := below_next hb hq
      clear hq
      go_wp2
      go_ret
      exact ⟨rfl, hb⟩
    · go_enter Try.func4, Try.ntmps4
      go_wp2_with fail
      refine (awake_any _).mono ?_
      rintro e W14 ⟨rfl, hq⟩
      replace hb := below_next hb hq
      clear hq
      go_wp2
      go_ret
      exact ⟨rfl, hb⟩
  · go_enter Try.func4, Try.ntmps4
    go_wp2_with fail
    refine (awake_any _).mono ?_
    rintro e W14 ⟨rfl, hq⟩
    replace hb := below_next hb hq
    clear hq
    go_wp2
    go_ret
    exact ⟨rfl, hb⟩
end Go.Proofs.Ytdpihoblkldghaa
