/- Facts for SpanInside and SpanWithin. -/
import Derived.Test.YthggjlkeadjhcaaGreatDoorSPlace
namespace Go.Proofs.YthggjlkeadjhcaaGreatDoor
open Go.RowKit Go.Shelf

theorem sfar_to2 (w : World) (ad : Option Addr) (l : List SV) (n c : Nat) (hn : l.length = n) (hmax : n ≤ 4611686018427387904) (hl : SAt w ad l) {r : Bool} (hr : farD5 l = r) :
    Calls Tryz.prog 10 #[.slice ad n c] w (Ret (.bool r) w) := by
  refine (sfar_any w ad l n c hn hmax hl).mono ?_
  rintro e V ⟨rfl, hq⟩
  exact ⟨by rw [hr], hq⟩
theorem far_two {x y : SV} (h : farD5 [x, y] = false) : ((x.1.2.1.size ≤ 40 ∧ -300 ≤ x.1.2.2 ∧ x.1.2.2 ≤ 300) ∧ (x.2.2.1.size ≤ 40 ∧ -300 ≤ x.2.2.2 ∧ x.2.2.2 ≤ 300)) ∧
    ((y.1.2.1.size ≤ 40 ∧ -300 ≤ y.1.2.2 ∧ y.1.2.2 ≤ 300) ∧ (y.2.2.1.size ≤ 40 ∧ -300 ≤ y.2.2.2 ∧ y.2.2.2 ≤ 300)) := by
  have h1 : longD 40 300 [x.1, x.2] = false ∧ longD 40 300 [y.1, y.2] = false := by
    unfold farD5 at h
    simpa using h
  exact ⟨⟨longd_false h1.1 x.1 (by simp), longd_false h1.1 x.2 (by simp)⟩, ⟨longd_false h1.2 y.1 (by simp), longd_false h1.2 y.2 (by simp)⟩⟩
theorem rat_add_le {a b c d : Rat} (h : a ≤ b) (k : c ≤ d) : a + c ≤ b + d := by grind
theorem sum_low2 (x y : SV) : sumD ([x, y].map lowS) 2 = dlo (nvl x.1) (nvl x.2) + dlo (nvl y.1) (nvl y.2) := by
  rw [← lowN_val, ← lowN_val]
  show (0 + nvl (lowN x.1 x.2)) + nvl (lowN y.1 y.2) = _
  rw [Dyadic.zero_add]
theorem sum_high2 (x y : SV) : sumD ([x, y].map highS) 2 = dhi (nvl x.1) (nvl x.2) + dhi (nvl y.1) (nvl y.2) := by
  rw [← highN_val, ← highN_val]
  show (0 + nvl (highN x.1 x.2)) + nvl (highN y.1 y.2) = _
  rw [Dyadic.zero_add]
theorem has_of {x y c : Dyadic} (h1 : x.toRat ≤ c.toRat) (h2 : c.toRat ≤ y.toRat) : hasD (dlo x y) (dhi x y) c = true := by
  rw [hasD_iff]
  have a := dlo_spec x y
  have b := dhi_spec x y
  exact ⟨by grind, by grind⟩
theorem corner4 {P : Dyadic → Dyadic → Prop} {x y z u : Dyadic} (h1 : P x z) (h2 : P x u) (h3 : P y z) (h4 : P y u) : P (dlo x y) (dlo z u) ∧ P (dlo x y) (dhi z u) ∧ P (dhi x y) (dlo z u) ∧ P (dhi x y) (dhi z u) := by
  rcases (dlo_spec x y).2.2 with a | a <;> rcases (dhi_spec x y).2.2 with b | b <;> rcases (dlo_spec z u).2.2 with c | c <;> rcases (dhi_spec z u).2.2 with d | d <;> (rw [a, b, c, d]; exact ⟨by assumption, by assumption, by assumption, by assumption⟩)
theorem in_mul {x y z u a b lo hi : Dyadic} (l1 : lo.toRat ≤ (x * z).toRat) (l2 : lo.toRat ≤ (x * u).toRat) (l3 : lo.toRat ≤ (y * z).toRat) (l4 : lo.toRat ≤ (y * u).toRat)
    (g1 : (x * z).toRat ≤ hi.toRat) (g2 : (x * u).toRat ≤ hi.toRat) (g3 : (y * z).toRat ≤ hi.toRat) (g4 : (y * u).toRat ≤ hi.toRat)
    (ha : (dlo x y).toRat ≤ a.toRat ∧ a.toRat ≤ (dhi x y).toRat) (hb : (dlo z u).toRat ≤ b.toRat ∧ b.toRat ≤ (dhi z u).toRat) : lo.toRat ≤ (a * b).toRat ∧ (a * b).toRat ≤ hi.toRat := by
  obtain ⟨c1, c2, c3, c4⟩ := corner4 (P := fun p q => lo.toRat ≤ (p * q).toRat ∧ (p * q).toRat ≤ hi.toRat) ⟨l1, g1⟩ ⟨l2, g2⟩ ⟨l3, g3⟩ ⟨l4, g4⟩
  simp only [Dyadic.toRat_mul] at c1 c2 c3 c4 ⊢
  exact ⟨mul_low c1.1 c2.1 c3.1 c4.1 ha.1 ha.2 hb.1 hb.2, mul_high c1.2 c2.2 c3.2 c4.2 ha.1 ha.2 hb.1 hb.2⟩
theorem form_same {X : Dyadic} {u : Bool} {v : ByteArray} {x : Int} {z : Bool} {o : ByteArray} {e : Int} (k : df X = nu u v x) (ok : Ok3 v x) (h : df (nv u v x) = nu z o e) : Ok3 o e := by
  rw [form_nv k, k] at h
  obtain ⟨_, h2, h3⟩ := nu_inj h
  rw [← h2, ← h3]
  exact ok
theorem low_same {X Y : Dyadic} {x y : NV} (kx : df X = nu x.1 x.2.1 x.2.2) (ky : df Y = nu y.1 y.2.1 y.2.2) (ox : Ok3 x.2.1 x.2.2) (oy : Ok3 y.2.1 y.2.2) {z : Bool} {o : ByteArray} {e : Int} (h : df (nvl (lowS (x, y))) = nu z o e) : Ok3 o e := by
  unfold lowS lowN at h
  split at h
  · exact form_same ky oy h
  · exact form_same kx ox h
theorem high_same {X Y : Dyadic} {x y : NV} (kx : df X = nu x.1 x.2.1 x.2.2) (ky : df Y = nu y.1 y.2.1 y.2.2) (ox : Ok3 x.2.1 x.2.2) (oy : Ok3 y.2.1 y.2.2) {z : Bool} {o : ByteArray} {e : Int} (h : df (nvl (highS (x, y))) = nu z o e) : Ok3 o e := by
  unfold highS highN at h
  split at h
  · exact form_same kx ox h
  · exact form_same ky oy h
theorem not_zero {m : Bool} {s : ByteArray} {d : Int} (h : (nv m s d).toRat ≠ 0) : wv m s ≠ 0 := by
  intro g
  apply h
  unfold nv
  rw [g, ofI_toRat, show ((0 : Int) : Rat) = 0 from rfl, Rat.zero_mul]
theorem in_quo {x y z u a b : Dyadic} {p : Int} {lo hi : Dyadic} (hz : hasD (dlo z u) (dhi z u) 0 = false) (l1 : lo.toRat ≤ (qlo x z p).toRat) (l2 : lo.toRat ≤ (qlo x u p).toRat) (l3 : lo.toRat ≤ (qlo y z p).toRat) (l4 : lo.toRat ≤ (qlo y u p).toRat)
    (g1 : (qhi x z p).toRat ≤ hi.toRat) (g2 : (qhi x u p).toRat ≤ hi.toRat) (g3 : (qhi y z p).toRat ≤ hi.toRat) (g4 : (qhi y u p).toRat ≤ hi.toRat)
    (ha : (dlo x y).toRat ≤ a.toRat ∧ a.toRat ≤ (dhi x y).toRat) (hb : (dlo z u).toRat ≤ b.toRat ∧ b.toRat ≤ (dhi z u).toRat) : lo.toRat ≤ (qlo a b p).toRat ∧ (qlo a b p).toRat ≤ (qhi a b p).toRat ∧ (qhi a b p).toRat ≤ hi.toRat := by
  have hz' : 0 < (dlo z u).toRat ∨ (dhi z u).toRat < 0 := by
    by_cases h1 : 0 < (dlo z u).toRat
    · exact .inl h1
    · by_cases h2 : (dhi z u).toRat < 0
      · exact .inr h2
      · have := (hasD_iff (dlo z u) (dhi z u) 0).2 (by rw [Dyadic.toRat_zero]; exact ⟨by grind, by grind⟩)
        rw [this] at hz
        cases hz
  obtain ⟨c1, c2, c3, c4⟩ := corner4 (P := fun p' q => lo.toRat ≤ (qlo p' q p).toRat ∧ (qhi p' q p).toRat ≤ hi.toRat) ⟨l1, g1⟩ ⟨l2, g2⟩ ⟨l3, g3⟩ ⟨l4, g4⟩
  refine ⟨?_, Rat.le_trans (qlo_le a b p) (qhi_ge a b p), ?_⟩
  · rcases quo_corner_low hz' ha.1 ha.2 hb.1 hb.2 with h | h | h | h
    · exact Rat.le_trans c1.1 (qlo_mono p h)
    · exact Rat.le_trans c2.1 (qlo_mono p h)
    · exact Rat.le_trans c3.1 (qlo_mono p h)
    · exact Rat.le_trans c4.1 (qlo_mono p h)
  · rcases quo_corner_high hz' ha.1 ha.2 hb.1 hb.2 with h | h | h | h
    · exact Rat.le_trans (qhi_mono p h) c1.2
    · exact Rat.le_trans (qhi_mono p h) c2.2
    · exact Rat.le_trans (qhi_mono p h) c3.2
    · exact Rat.le_trans (qhi_mono p h) c4.2
theorem in_nonzero {z u b : Dyadic} (hz : hasD (dlo z u) (dhi z u) 0 = false) (hb : (dlo z u).toRat ≤ b.toRat ∧ b.toRat ≤ (dhi z u).toRat) : b.toRat ≠ 0 := by
  intro g
  have := (hasD_iff (dlo z u) (dhi z u) 0).2 (by rw [Dyadic.toRat_zero, ← g]; exact hb)
  rw [this] at hz
  cases hz
end Go.Proofs.YthggjlkeadjhcaaGreatDoor
