/- Layer 1, laid together: BXVal, BXMath, BX0. -/
import Derived.Test.YtbijggomdpaknaaGreatDoorS3
import Derived.Test.YtbijggomdpaknaaGreatDoorS4
import Derived.Test.YtbijggomdpaknaaGreatDoorHB
import Derived.Test.YtbijggomdpaknaaGreatDoorYBnd
import Derived.Test.YtbijggomdpaknaaGreatDoorYRat
/- Boxes as rows of spans, on plain values: a span as it counts, its width, its middle, its halves; of no function. -/
namespace Go.Proofs.YtbijggomdpaknaaGreatDoor
open Go.RowKit Go.Shelf

/-- The one form of a number, as three cells. -/
def canonN (d : Dyadic) : NV := (decide (dm d < 0), fb (dm d).natAbs, de d)
theorem canonN_df (d : Dyadic) : df d = nu (canonN d).1 (canonN d).2.1 (canonN d).2.2 := rfl
theorem nvl_canon (d : Dyadic) : nvl (canonN d) = d := (df_parts (canonN_df d)).2.2.1
theorem canon_eq {x y : Dyadic} : canonN x = canonN y ↔ x = y := ⟨fun h => by rw [← nvl_canon x, h, nvl_canon], fun h => by rw [h]⟩
theorem df_canon {x : Dyadic} {a : NV} (h : canonN x = a) : df x = nu a.1 a.2.1 a.2.2 := by rw [← h]; exact canonN_df x
theorem canon_of_df {x : Dyadic} {m : Bool} {s : ByteArray} {e : Int} (h : df x = nu m s e) : canonN x = (m, s, e) := nu_tuple h
def nagg (x : NV) : Value := .agg #[.bool x.1, .string x.2.1, .int .i64 x.2.2]
def sagg (x : SV) : Value := .agg #[.bool x.1.1, .string x.1.2.1, .int .i64 x.1.2.2, .bool x.2.1, .string x.2.2.1, .int .i64 x.2.2.2]
def loS (x : SV) : Dyadic := dlo (nvl x.1) (nvl x.2)
def hiS (x : SV) : Dyadic := dhi (nvl x.1) (nvl x.2)
def fS (x : SV) : SV := (canonN (loS x), canonN (hiS x))
def wS (x : SV) : Dyadic := dabs (nvl x.2 - nvl x.1)
def mS (x : SV) : Dyadic := dhalf (nvl x.1 + nvl x.2)
def inS (x : SV) (p : NV) : Bool := hasD (loS x) (hiS x) (nvl p)
def wiS (x y : SV) : Bool := hasD (loS y) (hiS y) (nvl x.1) && hasD (loS y) (hiS y) (nvl x.2)
theorem Rn.nat {w : World} {g : Nat} {l : List NV} (h : Rn w g l) : NAt w (some ⟨g, 0, none⟩) l := by
  obtain ⟨T, h⟩ := h
  intro i hi
  obtain ⟨h1, h2, h3⟩ := ncells_get l i hi
  refine ⟨g, 0, rfl, h.lt, ?_, ?_, ?_⟩
  · rw [Nat.zero_add, h.cell]; exact h1
  · rw [Nat.zero_add, h.cell]; exact h2
  · rw [Nat.zero_add, h.cell]; exact h3
theorem dlo_dhi (x y : Dyadic) : (dlo x y).toRat ≤ (dhi x y).toRat := by
  have h1 := dlo_spec x y
  have h2 := dhi_spec x y
  grind
theorem lo_le_hi (x : SV) : (loS x).toRat ≤ (hiS x).toRat := dlo_dhi _ _
theorem lo_fS (x : SV) : loS (fS x) = loS x := by
  unfold loS fS
  simp only [nvl_canon]
  exact (dlo_self (lo_le_hi x)).1
theorem hi_fS (x : SV) : hiS (fS x) = hiS x := by
  show dhi (nvl (canonN (loS x))) (nvl (canonN (hiS x))) = _
  simp only [nvl_canon]
  exact (dlo_self (lo_le_hi x)).2
theorem fS_fS (x : SV) : fS (fS x) = fS x := by
  show (canonN (loS (fS x)), canonN (hiS (fS x))) = _
  rw [lo_fS, hi_fS]; rfl
theorem lo_hi_sum (x : SV) : loS x + hiS x = nvl x.1 + nvl x.2 := by
  unfold loS hiS dlo dhi
  split
  · exact Dyadic.add_comm _ _
  · rfl
theorem mS_fS (x : SV) : mS (fS x) = mS x := by
  unfold mS
  show dhalf (nvl (canonN (loS x)) + nvl (canonN (hiS x))) = _
  rw [nvl_canon, nvl_canon, lo_hi_sum]
theorem toRat_dabs (x : Dyadic) : (dabs x).toRat = if x.toRat < 0 then -x.toRat else x.toRat := by
  unfold dabs
  by_cases h : dsg x < 0
  · rw [if_pos h, if_pos (dsg_neg'.1 h), Dyadic.toRat_neg]
  · rw [if_neg h, if_neg (fun k => h (dsg_neg'.2 k))]
theorem wS_rat (x : SV) : (wS x).toRat = (hiS x).toRat - (loS x).toRat := by
  unfold wS loS hiS
  rw [toRat_dabs, Dyadic.toRat_sub]
  have h1 := dlo_spec (nvl x.1) (nvl x.2)
  have h2 := dhi_spec (nvl x.1) (nvl x.2)
  have hs : (dlo (nvl x.1) (nvl x.2)).toRat + (dhi (nvl x.1) (nvl x.2)).toRat = (nvl x.1).toRat + (nvl x.2).toRat := by
    rw [← Dyadic.toRat_add, ← Dyadic.toRat_add]; exact congrArg _ (lo_hi_sum x)
  rcases h1 with ⟨h1, h1', h3⟩
  rcases h2 with ⟨h2, h2', _⟩
  have h5 : (dlo (nvl x.1) (nvl x.2)).toRat = (nvl x.1).toRat ∨ (dlo (nvl x.1) (nvl x.2)).toRat = (nvl x.2).toRat := h3.imp (fun e => by rw [e]) (fun e => by rw [e])
  generalize (dlo (nvl x.1) (nvl x.2)).toRat = a at *
  generalize (dhi (nvl x.1) (nvl x.2)).toRat = b at *
  clear h3
  grind
theorem wS_fS (x : SV) : wS (fS x) = wS x := by
  rw [← Dyadic.toRat_inj, wS_rat, wS_rat, lo_fS, hi_fS]
theorem wS_nonneg (x : SV) : 0 ≤ (wS x).toRat := by rw [wS_rat]; have := lo_le_hi x; grind
theorem mS_rat (x : SV) : (mS x).toRat = ((loS x).toRat + (hiS x).toRat) / 2 := by
  unfold mS dhalf
  rw [← lo_hi_sum, Dyadic.toRat_mul, Dyadic.toRat_add, ofI_toRat]
  rw [show (2 : Rat) ^ (-(1 : Int)) = 1 / 2 by rw [Rat.zpow_neg, Rat.zpow_one]; grind]
  grind

/-! Sizes. -/
/-- A number of few bytes that is a whole number of B bytes on the grid E. -/
def Gd (B E : Nat) (x : NV) : Prop := Ok2 x.2.1 x.2.2 ∧ Bnd (nvl x) B E
def GS (B E : Nat) (x : SV) : Prop := Gd B E x.1 ∧ Gd B E x.2
def Raw (x : NV) : Prop := x.2.1.size ≤ 30 ∧ -200 ≤ x.2.2 ∧ x.2.2 ≤ 200
theorem Raw.gd {x : NV} (h : Raw x) : Gd 80 200 x := ⟨by unfold Ok2; unfold Raw at h; omega, Bnd.of (B := 30) (K := 50) 200 h.1 h.2.1 (by have := h.2.2; omega)⟩
theorem Bnd.one : Bnd (1 : Dyadic) 1 1 := ⟨false, ⟨#[2]⟩, by
  show (1 : Dyadic) = .ofIntWithPrec (wv false ⟨#[2]⟩) _
  decide +kernel, by decide⟩
theorem Bnd.finer {x : Dyadic} {B E : Nat} (h : Bnd x B E) : Bnd x (B + 1) (E + 1) := by
  have := h.mul Bnd.one
  rwa [Dyadic.mul_one] at this
theorem Bnd.half {x : Dyadic} {B E : Nat} (h : Bnd x B E) : Bnd (dhalf x) B (E + 1) := by
  obtain ⟨z, o, rfl, k⟩ := h
  refine ⟨z, o, ?_, k⟩
  rw [← nv_halved]
  congr 1
  omega
theorem Bnd.lo {x y : Dyadic} {B E : Nat} (h : Bnd x B E) (k : Bnd y B E) : Bnd (dlo x y) B E := by rcases (dlo_spec x y).2.2 with e | e <;> rw [e] <;> assumption
theorem Bnd.hi {x y : Dyadic} {B E : Nat} (h : Bnd x B E) (k : Bnd y B E) : Bnd (dhi x y) B E := by rcases (dhi_spec x y).2.2 with e | e <;> rw [e] <;> assumption
theorem Bnd.sub {x y : Dyadic} {B E : Nat} (h : Bnd x B E) (k : Bnd y B E) : Bnd (x - y) (B + 1) E := by
  rw [show x - y = x + -y by rw [← Dyadic.toRat_inj, Dyadic.toRat_sub, Dyadic.toRat_add, Dyadic.toRat_neg]; grind]
  exact h.add k.neg
theorem Bnd.abs {x : Dyadic} {B E : Nat} (h : Bnd x B E) : Bnd (dabs x) B E := by unfold dabs; split; exact h.neg; exact h
theorem Bnd.canon {x : Dyadic} {B E : Nat} (h : Bnd x B E) : (canonN x).2.1.size ≤ B ∧ -(E : Int) ≤ (canonN x).2.2 ∧ (canonN x).2.2 ≤ 8 * B := h.form (canonN_df x)
theorem Bnd.gd {x : Dyadic} {B E : Nat} (h : Bnd x B E) (hB : B ≤ 375) (hE : E ≤ 3000) : Gd B E (canonN x) := ⟨by have := h.canon; unfold Ok2; omega, by rw [nvl_canon]; exact h⟩
theorem Gd.finer {x : NV} {B E : Nat} (h : Gd B E x) : Gd (B + 1) (E + 1) x := ⟨h.1, h.2.finer⟩
theorem GS.finer {x : SV} {B E : Nat} (h : GS B E x) : GS (B + 1) (E + 1) x := ⟨h.1.finer, h.2.finer⟩
theorem GS.lo {x : SV} {B E : Nat} (h : GS B E x) : Bnd (loS x) B E := h.1.2.lo h.2.2
theorem GS.hi {x : SV} {B E : Nat} (h : GS B E x) : Bnd (hiS x) B E := h.1.2.hi h.2.2
theorem GS.form {x : SV} {B E : Nat} (h : GS B E x) (hB : B ≤ 375) (hE : E ≤ 3000) : GS B E (fS x) := ⟨h.lo.gd hB hE, h.hi.gd hB hE⟩
theorem GS.mid {x : SV} {B E : Nat} (h : GS B E x) : Bnd (mS x) (B + 1) (E + 1) := (h.1.2.add h.2.2).half
theorem GS.width {x : SV} {B E : Nat} (h : GS B E x) : Bnd (wS x) (B + 1) E := (h.2.2.sub h.1.2).abs
end Go.Proofs.YtbijggomdpaknaaGreatDoor
/- Boxes: points in halves, volumes, widths; of no function. -/
namespace Go.Proofs.YtbijggomdpaknaaGreatDoor
open Go.RowKit Go.Shelf

theorem inS_iff (x : SV) (p : NV) : inS x p = true ↔ (loS x).toRat ≤ (nvl p).toRat ∧ (nvl p).toRat ≤ (hiS x).toRat := hasD_iff _ _ _
theorem wiS_iff (x y : SV) : wiS x y = true ↔ ((loS y).toRat ≤ (nvl x.1).toRat ∧ (nvl x.1).toRat ≤ (hiS y).toRat) ∧ (loS y).toRat ≤ (nvl x.2).toRat ∧ (nvl x.2).toRat ≤ (hiS y).toRat := by
  unfold wiS
  rw [Bool.and_eq_true, hasD_iff, hasD_iff]
theorem inS_fS (x : SV) (p : NV) : inS (fS x) p = inS x p := by unfold inS; rw [lo_fS, hi_fS]
/-- The lower and the upper half of a span that stands as it counts. -/
def lowH (x : SV) : SV := (x.1, canonN (mS x))
def upH (x : SV) : SV := (canonN (mS x), x.2)
def z6 : SV := ((false, ⟨#[]⟩, 0), (false, ⟨#[]⟩, 0))
def halfS (up : Bool) (x : SV) : SV := if up then upH x else lowH x
def halfB (up : Bool) (l : List SV) (a : Nat) : List SV := l.set a (halfS up (l.getD a z6))
theorem mid_between (x : SV) : (loS x).toRat ≤ (mS x).toRat ∧ (mS x).toRat ≤ (hiS x).toRat := by rw [mS_rat]; have := lo_le_hi x; grind
theorem lo_lowH (x : SV) : loS (lowH (fS x)) = loS x := by
  show dlo (nvl (canonN (loS x))) (nvl (canonN (mS (fS x)))) = _
  rw [nvl_canon, nvl_canon, mS_fS]
  exact (dlo_self (mid_between x).1).1
theorem hi_lowH (x : SV) : hiS (lowH (fS x)) = mS x := by
  show dhi (nvl (canonN (loS x))) (nvl (canonN (mS (fS x)))) = _
  rw [nvl_canon, nvl_canon, mS_fS]
  exact (dlo_self (mid_between x).1).2
theorem lo_upH (x : SV) : loS (upH (fS x)) = mS x := by
  show dlo (nvl (canonN (mS (fS x)))) (nvl (canonN (hiS x))) = _
  rw [nvl_canon, nvl_canon, mS_fS]
  exact (dlo_self (mid_between x).2).1
theorem hi_upH (x : SV) : hiS (upH (fS x)) = hiS x := by
  show dhi (nvl (canonN (mS (fS x)))) (nvl (canonN (hiS x))) = _
  rw [nvl_canon, nvl_canon, mS_fS]
  exact (dlo_self (mid_between x).2).2
theorem halves_in (x : SV) (p : NV) : inS x p = (inS (lowH (fS x)) p || inS (upH (fS x)) p) := by
  rw [Bool.eq_iff_iff, Bool.or_eq_true, inS_iff, inS_iff, inS_iff, lo_lowH, hi_lowH, lo_upH, hi_upH]
  have := mid_between x
  grind
theorem wS_half (up : Bool) (x : SV) : (wS (halfS up (fS x))).toRat = (wS x).toRat / 2 := by
  unfold halfS
  split
  · rw [wS_rat, wS_rat, lo_upH, hi_upH, mS_rat]; grind
  · rw [wS_rat, wS_rat, lo_lowH, hi_lowH, mS_rat]; grind
theorem half_within (up : Bool) (x : SV) : wiS (halfS up (fS x)) x = true := by
  have h := mid_between x
  have h2 := lo_le_hi x
  rw [wiS_iff]
  unfold halfS
  split
  · show ((loS x).toRat ≤ (nvl (canonN (mS (fS x)))).toRat ∧ (nvl (canonN (mS (fS x)))).toRat ≤ (hiS x).toRat) ∧ (loS x).toRat ≤ (nvl (canonN (hiS x))).toRat ∧ (nvl (canonN (hiS x))).toRat ≤ (hiS x).toRat
    rw [nvl_canon, nvl_canon, mS_fS]
    grind
  · show ((loS x).toRat ≤ (nvl (canonN (loS x))).toRat ∧ (nvl (canonN (loS x))).toRat ≤ (hiS x).toRat) ∧ (loS x).toRat ≤ (nvl (canonN (mS (fS x)))).toRat ∧ (nvl (canonN (mS (fS x)))).toRat ≤ (hiS x).toRat
    rw [nvl_canon, nvl_canon, mS_fS]
    grind
theorem form_within (x : SV) : wiS (fS x) x = true := by
  have h2 := lo_le_hi x
  rw [wiS_iff]
  show ((loS x).toRat ≤ (nvl (canonN (loS x))).toRat ∧ (nvl (canonN (loS x))).toRat ≤ (hiS x).toRat) ∧ (loS x).toRat ≤ (nvl (canonN (hiS x))).toRat ∧ (nvl (canonN (hiS x))).toRat ≤ (hiS x).toRat
  rw [nvl_canon, nvl_canon]
  grind

/-! Rows. -/
def hasB (l : List SV) (p : List NV) : Bool := decide (l.length = p.length) && (l.zip p).all fun z => inS z.1 z.2
def withB (l m : List SV) : Bool := decide (l.length = m.length) && (l.zip m).all fun z => wiS z.1 z.2
theorem zip_all {α β : Type} (f : α × β → Bool) (l : List α) (m : List β) : (l.zip m).all f = true ↔ ∀ i (h1 : i < l.length) (h2 : i < m.length), f (l[i], m[i]) = true := by
  induction l generalizing m with
  | nil => simp
  | cons x l ih =>
    cases m with
    | nil => simp
    | cons y m =>
      simp only [List.zip_cons_cons, List.all_cons, Bool.and_eq_true, ih m]
      constructor
      · rintro ⟨h0, h⟩ i h1 h2
        cases i with
        | zero => exact h0
        | succ i => exact h i (by simpa using h1) (by simpa using h2)
      · intro h
        exact ⟨h 0 (by simp) (by simp), fun i h1 h2 => h (i + 1) (by simpa using h1) (by simpa using h2)⟩
theorem hasB_iff (l : List SV) (p : List NV) : hasB l p = true ↔ l.length = p.length ∧ ∀ i (h1 : i < l.length) (h2 : i < p.length), inS l[i] p[i] = true := by
  unfold hasB
  rw [Bool.and_eq_true, decide_eq_true_iff, zip_all]
theorem withB_iff (l m : List SV) : withB l m = true ↔ l.length = m.length ∧ ∀ i (h1 : i < l.length) (h2 : i < m.length), wiS l[i] m[i] = true := by
  unfold withB
  rw [Bool.and_eq_true, decide_eq_true_iff, zip_all]
theorem half_len (up : Bool) (l : List SV) (a : Nat) : (halfB up (l.map fS) a).length = l.length := by unfold halfB; simp
theorem half_get (up : Bool) (l : List SV) (a i : Nat) (h : i < l.length) : (halfB up (l.map fS) a)[i]'(by rw [half_len]; exact h) = if a = i then halfS up (fS l[i]) else fS l[i] := by
  unfold halfB
  rw [List.getElem_set]
  split
  · rename_i e
    subst e
    rw [List.getD_eq_getElem?_getD, List.getElem?_eq_getElem (by simpa using h)]
    simp
  · simp
theorem half_has_iff (up : Bool) (l : List SV) (a : Nat) (p : List NV) : hasB (halfB up (l.map fS) a) p = true ↔ l.length = p.length ∧ ∀ i (h1 : i < l.length) (h2 : i < p.length), inS (if a = i then halfS up (fS l[i]) else fS l[i]) p[i] = true := by
  rw [hasB_iff]
  constructor
  · rintro ⟨h, k⟩
    refine ⟨by rw [← half_len up l a]; exact h, fun i h1 h2 => ?_⟩
    have := k i (by rw [half_len]; exact h1) h2
    rwa [half_get _ _ _ _ h1] at this
  · rintro ⟨h, k⟩
    refine ⟨by rw [half_len]; exact h, fun i h1 h2 => ?_⟩
    rw [half_len] at h1
    rw [half_get _ _ _ _ h1]
    exact k i h1 h2
theorem half_with_iff (up : Bool) (l : List SV) (a : Nat) (m : List SV) : withB (halfB up (l.map fS) a) m = true ↔ l.length = m.length ∧ ∀ i (h1 : i < l.length) (h2 : i < m.length), wiS (if a = i then halfS up (fS l[i]) else fS l[i]) m[i] = true := by
  rw [withB_iff]
  constructor
  · rintro ⟨h, k⟩
    refine ⟨by rw [← half_len up l a]; exact h, fun i h1 h2 => ?_⟩
    have := k i (by rw [half_len]; exact h1) h2
    rwa [half_get _ _ _ _ h1] at this
  · rintro ⟨h, k⟩
    refine ⟨by rw [half_len]; exact h, fun i h1 h2 => ?_⟩
    rw [half_len] at h1
    rw [half_get _ _ _ _ h1]
    exact k i h1 h2
theorem halves_has (l : List SV) (p : List NV) (a : Nat) (ha : a < l.length) : hasB l p = (hasB (halfB false (l.map fS) a) p || hasB (halfB true (l.map fS) a) p) := by
  rw [Bool.eq_iff_iff, Bool.or_eq_true, half_has_iff, half_has_iff, hasB_iff]
  constructor
  · rintro ⟨hn, h⟩
    have hk := h a ha (by omega)
    rw [halves_in, Bool.or_eq_true] at hk
    rcases hk with hk | hk
    · refine .inl ⟨hn, fun i h1 h2 => ?_⟩
      split
      · rename_i e; subst e; exact hk
      · rw [inS_fS]; exact h i h1 h2
    · refine .inr ⟨hn, fun i h1 h2 => ?_⟩
      split
      · rename_i e; subst e; exact hk
      · rw [inS_fS]; exact h i h1 h2
  · rintro (⟨hn, h⟩ | ⟨hn, h⟩)
    · refine ⟨hn, fun i h1 h2 => ?_⟩
      have hk := h i h1 h2
      split at hk
      · rw [halves_in, Bool.or_eq_true]; exact .inl hk
      · rwa [inS_fS] at hk
    · refine ⟨hn, fun i h1 h2 => ?_⟩
      have hk := h i h1 h2
      split at hk
      · rw [halves_in, Bool.or_eq_true]; exact .inr hk
      · rwa [inS_fS] at hk
theorem halves_with (up : Bool) (l : List SV) (a : Nat) : withB (halfB up (l.map fS) a) l = true := by
  rw [half_with_iff]
  refine ⟨rfl, fun i h1 h2 => ?_⟩
  split
  · exact half_within _ _
  · exact form_within _
theorem mid_has (up : Bool) (l : List SV) (a : Nat) : hasB (halfB up (l.map fS) a) (l.map fun x => canonN (mS x)) = true := by
  rw [half_has_iff]
  refine ⟨by rw [List.length_map], fun i h1 h2 => ?_⟩
  rw [List.getElem_map, inS_iff, nvl_canon]
  have h := mid_between l[i]
  split
  · unfold halfS
    split
    · rw [lo_upH, hi_upH]; grind
    · rw [lo_lowH, hi_lowH]; grind
  · rw [lo_fS, hi_fS]; exact h

/-! Volumes. -/
def volD (l : List SV) : Dyadic := (l.map wS).foldl (· * ·) 1
def vr : List SV → Rat
  | [] => 1
  | x :: l => (wS x).toRat * vr l
theorem vol_fold : ∀ (l : List SV) (a : Dyadic), ((l.map wS).foldl (· * ·) a).toRat = a.toRat * vr l
  | [], a => by simp [vr]
  | x :: l, a => by
    rw [List.map_cons, List.foldl_cons, vol_fold l, Dyadic.toRat_mul]
    show _ = _ * ((wS x).toRat * vr l)
    rw [Rat.mul_assoc]
theorem vol_rat (l : List SV) : (volD l).toRat = vr l := by
  unfold volD
  rw [vol_fold, show (1 : Dyadic).toRat = 1 by decide +kernel, Rat.one_mul]
theorem vr_form : ∀ l : List SV, vr (l.map fS) = vr l
  | [] => rfl
  | x :: l => by
    show (wS (fS x)).toRat * vr (l.map fS) = _
    rw [wS_fS, vr_form l]; rfl
theorem vr_parts : ∀ (l : List SV) (i : Nat) (h : i < l.length) (y z : SV), (wS y).toRat + (wS z).toRat = (wS l[i]).toRat → vr (l.set i y) + vr (l.set i z) = vr l
  | x :: l, 0, _, y, z, e => by
    show (wS y).toRat * vr l + (wS z).toRat * vr l = (wS x).toRat * vr l
    rw [← Rat.add_mul, e]; rfl
  | x :: l, i + 1, h, y, z, e => by
    show (wS x).toRat * vr (l.set i y) + (wS x).toRat * vr (l.set i z) = (wS x).toRat * vr l
    rw [← Rat.mul_add, vr_parts l i (by simpa using h) y z (by simpa using e)]
theorem vol_halves (l : List SV) (a : Nat) (ha : a < l.length) : volD (halfB false (l.map fS) a) + volD (halfB true (l.map fS) a) = volD l := by
  rw [← Dyadic.toRat_inj, Dyadic.toRat_add, vol_rat, vol_rat, vol_rat, ← vr_form l]
  unfold halfB
  refine vr_parts _ a (by simpa using ha) _ _ ?_
  rw [List.getD_eq_getElem?_getD, List.getElem?_eq_getElem (by simpa using ha)]
  simp only [Option.getD_some, List.getElem_map]
  rw [wS_half, wS_half, wS_fS]
  grind
theorem vr_nonneg : ∀ l : List SV, 0 ≤ vr l
  | [] => by decide
  | x :: l => Rat.mul_nonneg (wS_nonneg x) (vr_nonneg l)
theorem vr_pos : ∀ l : List SV, 0 < vr l ↔ ∀ x ∈ l, 0 < (wS x).toRat
  | [] => ⟨fun _ x h => (by cases h), fun _ => (by decide : (0 : Rat) < 1)⟩
  | x :: l => by
    show 0 < (wS x).toRat * vr l ↔ _
    have h1 := wS_nonneg x
    have h2 := vr_nonneg l
    rw [List.forall_mem_cons, ← vr_pos l]
    constructor
    · intro h
      constructor
      · rcases Rat.le_iff_lt_or_eq.1 h1 with k | k
        · exact k
        · rw [← k, Rat.zero_mul] at h; exact absurd h (by decide)
      · rcases Rat.le_iff_lt_or_eq.1 h2 with k | k
        · exact k
        · rw [← k, Rat.mul_zero] at h; exact absurd h (by decide)
    · rintro ⟨h3, h4⟩
      exact Rat.mul_pos h3 h4

/-! Halved along the widest axis as often as it has axes. -/
theorem count_set {α : Type} (p : α → Bool) : ∀ (l : List α) (a : Nat) (h : a < l.length) (y : α), (l.set a y).countP p + (if p l[a] then 1 else 0) = l.countP p + (if p y then 1 else 0)
  | x :: l, 0, _, y => by
    simp only [List.set_cons_zero, List.countP_cons, List.getElem_cons_zero]
    omega
  | x :: l, a + 1, h, y => by
    have ih := count_set p l a (by simpa using h) y
    simp only [List.set_cons_succ, List.countP_cons, List.getElem_cons_succ]
    omega
def wide (W : Rat) (x : SV) : Bool := decide (W < 2 * (wS x).toRat)
theorem wide_fS (W : Rat) (x : SV) : wide W (fS x) = wide W x := by unfold wide; rw [wS_fS]
theorem count_form (W : Rat) (l : List SV) : (l.map fS).countP (wide W) = l.countP (wide W) := by
  rw [List.countP_map]
  congr 1
  funext x
  exact wide_fS W x
/-- Halved along its widest axis a box has an axis less that is wide. -/
theorem half_count (W : Rat) (up : Bool) (l : List SV) (a : Nat) (ha : a < l.length) (hW : ∀ x ∈ l, (wS x).toRat ≤ W) (hw : ∀ x ∈ l, (wS x).toRat ≤ (wS l[a]).toRat) :
    (halfB up (l.map fS) a).countP (wide W) ≤ l.countP (wide W) - 1 ∧ ∀ x ∈ halfB up (l.map fS) a, (wS x).toRat ≤ W := by
  have h0 := wS_nonneg l[a]
  have h1 := hW _ (List.getElem_mem ha)
  have hg : (l.map fS).getD a z6 = fS l[a] := by
    rw [List.getD_eq_getElem?_getD, List.getElem?_eq_getElem (by simpa using ha)]
    simp
  have hh := wS_half up l[a]
  constructor
  · have hc := count_set (wide W) (l.map fS) a (by simpa using ha) (halfS up (fS l[a]))
    rw [count_form, List.getElem_map, wide_fS] at hc
    have hn : wide W (halfS up (fS l[a])) = false := by
      unfold wide
      rw [hh, decide_eq_false_iff_not]
      grind
    rw [hn] at hc
    unfold halfB
    rw [hg]
    cases hk : wide W l[a] with
    | true => rw [hk] at hc; simp only [if_true, if_false, Bool.false_eq_true] at hc; omega
    | false =>
      have hz : l.countP (wide W) = 0 := by
        rw [List.countP_eq_zero]
        intro x hx
        have h2 := hw x hx
        unfold wide at hk ⊢
        rw [decide_eq_false_iff_not] at hk
        rw [decide_eq_true_iff]
        grind
      rw [hk, hz] at hc
      simp only [if_false, Bool.false_eq_true] at hc
      omega
  · intro x hx
    unfold halfB at hx
    rw [hg] at hx
    rcases List.mem_or_eq_of_mem_set hx with hx | rfl
    · obtain ⟨y, hy, rfl⟩ := List.mem_map.1 hx
      rw [wS_fS]; exact hW y hy
    · rw [hh]; grind
theorem count_none {W : Rat} {l : List SV} (h : l.countP (wide W) = 0) : ∀ x ∈ l, 2 * (wS x).toRat ≤ W := by
  intro x hx
  have := (List.countP_eq_zero.1 h) x hx
  unfold wide at this
  rw [decide_eq_true_iff] at this
  grind
theorem half_inside (up : Bool) (l m : List SV) (a : Nat) (h : withB l m = true) : withB (halfB up (l.map fS) a) m = true := by
  rw [half_with_iff]
  rw [withB_iff] at h
  refine ⟨h.1, fun i hi h2 => ?_⟩
  have hk := h.2 i hi h2
  rw [wiS_iff] at hk
  have e1 := mid_between l[i]
  have e2 : (loS m[i]).toRat ≤ (loS l[i]).toRat ∧ (hiS l[i]).toRat ≤ (hiS m[i]).toRat := by
    have h3 := (dlo_spec (nvl l[i].1) (nvl l[i].2)).2.2
    have h4 := (dhi_spec (nvl l[i].1) (nvl l[i].2)).2.2
    show (loS m[i]).toRat ≤ (dlo (nvl l[i].1) (nvl l[i].2)).toRat ∧ (dhi (nvl l[i].1) (nvl l[i].2)).toRat ≤ (hiS m[i]).toRat
    constructor
    · rcases h3 with e | e <;> rw [e]
      · exact hk.1.1
      · exact hk.2.1
    · rcases h4 with e | e <;> rw [e]
      · exact hk.1.2
      · exact hk.2.2
  have e3 := wiS_iff (fS l[i]) l[i]
  split
  · have e4 := (wiS_iff _ _).1 (half_within up l[i])
    rw [wiS_iff]
    grind
  · have e4 := e3.1 (form_within l[i])
    rw [wiS_iff]
    grind
end Go.Proofs.YtbijggomdpaknaaGreatDoor
/- Package span's functions at spans as values, and the document's. -/
namespace Go.Proofs.YtbijggomdpaknaaGreatDoor
open Go.RowKit Go.Shelf

def O2 (x : SV) : Prop := Ok2 x.1.2.1 x.1.2.2 ∧ Ok2 x.2.2.1 x.2.2.2
def O3 (x : SV) : Prop := Ok3 x.1.2.1 x.1.2.2 ∧ Ok3 x.2.2.1 x.2.2.2
theorem O2.o3 {x : SV} (h : O2 x) : O3 x := ⟨h.1.ok3, h.2.ok3⟩
theorem GS.o2 {B E : Nat} {x : SV} (h : GS B E x) : O2 x := ⟨h.1.1, h.2.1⟩
theorem c_form (w : World) (x : SV) (h : O2 x) : Calls Tryz.prog 63 #[sagg x] w (Ret (sagg (fS x)) w) :=
  sform_any w _ _ _ _ _ _ h.1 h.2 _ _ _ _ _ _ (canonN_df _) (canonN_df _)
theorem c_width (w : World) (x : SV) (h : O3 x) : Calls Tryz.prog 62 #[sagg x] w (Ret (nagg (canonN (wS x))) w) :=
  swidth_any w _ _ _ _ _ _ h.1 h.2 _ _ _ (canonN_df _)
theorem c_mid (w : World) (x : SV) (h : O3 x) : Calls Tryz.prog 58 #[sagg x] w (Ret (nagg (canonN (mS x))) w) :=
  smid_any w _ _ _ _ _ _ h.1 h.2 _ _ _ (canonN_df _)
theorem c_has (w : World) (x : SV) (p : NV) (h : O3 x) (hp : Ok3 p.2.1 p.2.2) : Calls Tryz.prog 36 #[sagg x, nagg p] w (Ret (.bool (inS x p)) w) :=
  shas_any w _ _ _ _ _ _ _ _ _ h.1 h.2 hp _ rfl
theorem c_within (w : World) (x y : SV) (h : O3 x) (k : O3 y) : Calls Tryz.prog 39 #[sagg x, sagg y] w (Ret (.bool (wiS x y)) w) :=
  swithin_any w _ _ _ _ _ _ _ _ _ _ _ _ h.1 h.2 k.1 k.2 _ rfl
end Go.Proofs.YtbijggomdpaknaaGreatDoor
