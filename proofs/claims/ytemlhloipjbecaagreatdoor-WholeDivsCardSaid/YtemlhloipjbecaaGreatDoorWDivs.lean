/- The law of Div: it answers true for all. -/
import Derived.Test.YtemlhloipjbecaaGreatDoorWHeld
import Derived.Test.YtemlhloipjbecaaGreatDoorWLaw0
import Derived.Test.YtemlhloipjbecaaGreatDoorWSg
import Derived.Test.YtemlhloipjbecaaGreatDoorWRef7
import Derived.Deep.DeepFit
namespace Go.Proofs.YtemlhloipjbecaaGreatDoor
open Go.RowKit Go.Shelf

theorem quo_nmw (m n : Bool) (s t : ByteArray) : ∃ p u, wf (wv m s / wv n t) = wi p u ∧ wv p u = wv m s / wv n t ∧ u.size ≤ s.size := by
  refine nmw ?_
  have h1 : (wv m s / wv n t).natAbs ≤ (wv m s).natAbs := Int.natAbs_ediv_le_natAbs _ _
  have h4 := wv_abs m s
  have h5 := num_lt s
  omega
theorem rem_nmw (m n : Bool) (s t : ByteArray) (h0 : wv n t ≠ 0) : ∃ p u, wf (wv m s % wv n t) = wi p u ∧ wv p u = wv m s % wv n t ∧ u.size ≤ t.size := by
  refine nmw ?_
  have h1 := Int.emod_nonneg (wv m s) h0
  have h2 := Int.emod_lt (wv m s) h0
  have h4 := wv_abs n t
  have h5 := num_lt t
  omega

set_option maxRecDepth 100000 in
set_option maxHeartbeats 8000000 in
theorem wdivs_any (w : World) (m n : Bool) (s t : ByteArray) :
    Calls Tryz.prog 6 #[wi m s, wi n t] w (Ret (.bool true) w) := by
  have hsz : ((w.alloc (Obj.cells #[Value.bool m, Value.string s] 23)).alloc (Obj.cells #[Value.bool n, Value.string t] 23)).heap.size = w.heap.size + 1 + 1 := by rw [World.size_alloc, World.size_alloc]
  obtain ⟨r, hr⟩ : ∃ r, (decide (60 < s.size) || decide (60 < t.size)) = r := ⟨_, rfl⟩
  have HR := Lib.hid hr; clear hr
  unfold wi
  go_enter Tryz.func6, Tryz.ntmps6
  go_wp2_with fail
  obtain ⟨hA, hB, hb⟩ := blocks2 w #[Value.bool m, Value.string s] #[Value.bool n, Value.string t]
  generalize ((w.alloc (Obj.cells #[Value.bool m, Value.string s] 23)).alloc (Obj.cells #[Value.bool n, Value.string t] 23)) = W0 at *
  have hu := clong2 W0 60 m n s t r HR.out
  rw [hsz] at hu
  refine hu.mono ?_
  rintro e W1 ⟨rfl, hq⟩
  replace hb := below_next (hb.alloc hb.size (Obj.cells #[Value.bool m, Value.string s, Value.bool n, Value.string t] 23)) hq
  replace hA := (hA.alloc (Obj.cells #[Value.bool m, Value.string s, Value.bool n, Value.string t] 23)).below hq
  replace hB := (hB.alloc (Obj.cells #[Value.bool m, Value.string s, Value.bool n, Value.string t] 23)).below hq
  clear hu hq hsz
  cases r
  case true =>
    clear HR
    go_wp2_with fail
    refine (wawake_any _).mono ?_
    rintro e W2 ⟨rfl, hq⟩
    replace hb := below_next hb hq
    go_wp2
    go_ret
    exact ⟨rfl, hb⟩
  have hss := HR.out
  clear HR
  have hs0 : s.size ≤ 60 ∧ t.size ≤ 60 := by simpa [not_or] using hss
  clear hss
  obtain ⟨hs1, hs2⟩ := hs0
  obtain ⟨hA0, hA1⟩ := hA.cells
  obtain ⟨hB0, hB1⟩ := hB.cells
  go_wp2_with fail
  by_cases h0 : wv n t = 0
  · refine (wdiv_none _ m n s t (by omega) (by omega) h0).mono ?_
    rintro e V1 ⟨rfl, hq⟩
    replace hb := below_next hb hq
    replace hA := hA.below hq
    replace hB := hB.below hq
    clear hq hA0 hA1 hB0 hB1
    obtain ⟨hQ, hR, hb2⟩ := blocks2 V1 #[Value.bool false, Value.string { data := #[] }] #[Value.bool false, Value.string { data := #[] }]
    replace hb := below_next hb hb2
    clear hb2
    replace hA := (hA.alloc (Obj.cells #[Value.bool false, Value.string { data := #[] }] 23)).alloc (Obj.cells #[Value.bool false, Value.string { data := #[] }] 23)
    replace hB := (hB.alloc (Obj.cells #[Value.bool false, Value.string { data := #[] }] 23)).alloc (Obj.cells #[Value.bool false, Value.string { data := #[] }] 23)
    obtain ⟨hA0, hA1⟩ := hA.cells
    obtain ⟨hB0, hB1⟩ := hB.cells
    go_wp2_with fail
    generalize ((V1.alloc (Obj.cells #[Value.bool false, Value.string { data := #[] }] 23)).alloc (Obj.cells #[Value.bool false, Value.string { data := #[] }] 23)) = U1 at *
    refine (rdiv_none _ m n s t (by omega) (by omega) h0).mono ?_
    rintro e V2 ⟨rfl, hq⟩
    replace hb := below_next hb hq
    replace hQ := hQ.below hq
    replace hR := hR.below hq
    clear hq hA0 hA1 hB0 hB1
    clear hA hB
    obtain ⟨hX, hY, hb2⟩ := blocks2 V2 #[Value.bool false, Value.string { data := #[] }] #[Value.bool false, Value.string { data := #[] }]
    replace hb := below_next hb hb2
    clear hb2
    replace hQ := (hQ.alloc (Obj.cells #[Value.bool false, Value.string { data := #[] }] 23)).alloc (Obj.cells #[Value.bool false, Value.string { data := #[] }] 23)
    replace hR := (hR.alloc (Obj.cells #[Value.bool false, Value.string { data := #[] }] 23)).alloc (Obj.cells #[Value.bool false, Value.string { data := #[] }] 23)
    obtain ⟨hQ0, hQ1⟩ := hQ.cells
    obtain ⟨hR0, hR1⟩ := hR.cells
    go_wp2_with fail
    refine (wawake_any _).mono ?_
    rintro e V3 ⟨rfl, hq⟩
    replace hb := below_next hb hq
    clear hQ hR hX hY hQ0 hQ1 hR0 hR1
    go_wp2
    go_ret
    exact ⟨rfl, hb⟩
  · obtain ⟨zq, oq, eq, _, sq⟩ := quo_nmw m n s t
    obtain ⟨zr, or, er, _, sr⟩ := rem_nmw m n s t h0
    have HE := Lib.hid (And.intro eq er); clear eq er
    refine (wdiv_any _ m n s t (by omega) (by omega) h0 zq oq HE.out.1 zr or HE.out.2).mono ?_
    rintro e V1 ⟨rfl, hq⟩
    replace hb := below_next hb hq
    replace hA := hA.below hq
    replace hB := hB.below hq
    clear hq hA0 hA1 hB0 hB1
    obtain ⟨hQ, hR, hb2⟩ := blocks2 V1 #[Value.bool zq, Value.string oq] #[Value.bool zr, Value.string or]
    replace hb := below_next hb hb2
    clear hb2
    replace hA := (hA.alloc (Obj.cells #[Value.bool zq, Value.string oq] 23)).alloc (Obj.cells #[Value.bool zr, Value.string or] 23)
    replace hB := (hB.alloc (Obj.cells #[Value.bool zq, Value.string oq] 23)).alloc (Obj.cells #[Value.bool zr, Value.string or] 23)
    obtain ⟨hA0, hA1⟩ := hA.cells
    obtain ⟨hB0, hB1⟩ := hB.cells
    go_wp2_with fail
    generalize ((V1.alloc (Obj.cells #[Value.bool zq, Value.string oq] 23)).alloc (Obj.cells #[Value.bool zr, Value.string or] 23)) = U1 at *
    refine (rdiv_any _ m n s t (by omega) (by omega) h0 zq oq HE.out.1 zr or HE.out.2).mono ?_
    rintro e V2 ⟨rfl, hq⟩
    replace hb := below_next hb hq
    replace hQ := hQ.below hq
    replace hR := hR.below hq
    clear hq hA0 hA1 hB0 hB1
    clear hA hB
    obtain ⟨hX, hY, hb2⟩ := blocks2 V2 #[Value.bool zq, Value.string oq] #[Value.bool zr, Value.string or]
    replace hb := below_next hb hb2
    clear hb2
    replace hQ := (hQ.alloc (Obj.cells #[Value.bool zq, Value.string oq] 23)).alloc (Obj.cells #[Value.bool zr, Value.string or] 23)
    replace hR := (hR.alloc (Obj.cells #[Value.bool zq, Value.string oq] 23)).alloc (Obj.cells #[Value.bool zr, Value.string or] 23)
    obtain ⟨hQ0, hQ1⟩ := hQ.cells
    obtain ⟨hR0, hR1⟩ := hR.cells
    go_wp2_with fail
    refine (wawake_any _).mono ?_
    rintro e V3 ⟨rfl, hq⟩
    replace hb := below_next hb hq
    clear hQ hR hX hY hQ0 hQ1 hR0 hR1
    go_wp2
    go_ret
    exact ⟨rfl, hb⟩
end Go.Proofs.YtemlhloipjbecaaGreatDoor
