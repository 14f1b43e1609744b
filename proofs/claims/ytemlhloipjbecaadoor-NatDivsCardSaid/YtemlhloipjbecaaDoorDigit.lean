/- One digit of a quotient: what digit takes off, walked. -/
import Derived.Test.YtemlhloipjbecaaDoorGuess
import Derived.Test.YtemlhloipjbecaaDoorRow2
import Derived.Test.YtemlhloipjbecaaDoorDigitNum
namespace Go.Proofs.YtemlhloipjbecaaDoor
open Go.RowKit Go.Shelf

theorem minusTimes_at {w : World} {db doff dc xb xoff xc dl xl : Nat} {T : TypeId} {pre post : List Value} {ds xs : List Nat} {n : Nat}
    (hdl : ds.length = dl) (hxl : xs.length = xl) (hd : Rw w db T (pre ++ ds.map dg ++ post)) (hpre : pre.length = doff) (hx : Ds w xb xoff xs) (hne : xb ≠ db) (hdd : Dig ds) (hdx : Dig xs) (hn : n < B64)
    (hle : xs.length ≤ ds.length) (hmax : ds.length ≤ 1000000000000) :
    Calls Tryd.prog 45 #[.slice (some ⟨db, doff, none⟩) dl dc, .slice (some ⟨xb, xoff, none⟩) xl xc, .int .u64 n] w
      fun e w' => ∃ (es : List Nat) (o : Nat), e = .returned (.int .u64 o) ∧ Rw w' db T (pre ++ es.map dg ++ post) ∧ w.grownBy w' (some db) ∧ es.length = dl ∧ Dig es ∧ o < B64 ∧
        val es + n * val xs = val ds + B64 ^ dl * o := by
  subst hdl; subst hxl
  exact minusTimes_any w db doff dc xb xoff xc T pre post ds xs n hd hpre hx hne hdd hdx hn hle hmax
theorem plusTimes_at {w : World} {db doff dc xb xoff xc dl xl : Nat} {T : TypeId} {pre post : List Value} {ds xs : List Nat} {n : Nat}
    (hdl : ds.length = dl) (hxl : xs.length = xl) (hd : Rw w db T (pre ++ ds.map dg ++ post)) (hpre : pre.length = doff) (hx : Ds w xb xoff xs) (hne : xb ≠ db) (hdd : Dig ds) (hdx : Dig xs) (hn : n < B64)
    (hle : xs.length ≤ ds.length) (hmax : ds.length ≤ 1000000000000) :
    Calls Tryd.prog 53 #[.slice (some ⟨db, doff, none⟩) dl dc, .slice (some ⟨xb, xoff, none⟩) xl xc, .int .u64 n] w
      fun e w' => ∃ (es : List Nat) (o : Nat), e = .returned (.int .u64 o) ∧ Rw w' db T (pre ++ es.map dg ++ post) ∧ w.grownBy w' (some db) ∧ es.length = dl ∧ Dig es ∧ o < B64 ∧
        val es + B64 ^ dl * o = val ds + n * val xs := by
  subst hdl; subst hxl
  exact plusTimes_any w db doff dc xb xoff xc T pre post ds xs n hd hpre hx hne hdd hdx hn hle hmax

theorem grown_alloc {a w : World} {row : Option Nat} (h : a.grownBy w row) (o : Obj) : a.grownBy (w.alloc o) row :=
  grown_trans h (World.grownBy_alloc w o row)
theorem grown_of_below {a w : World} (h : Below a.heap.size a w) (row : Option Nat) : a.grownBy w row := ⟨h.os, h.tape, h.output, h.size, fun i hi _ => h.block i hi⟩

/-- Between the rounds of digit. -/
def DG (w wr : World) (xb : Nat) (T : TypeId) (pre post : List Value) (n X Y : Nat) (box : List Value) (t o : Nat) : Prop :=
  ∃ es : List Nat, es.length = n + 1 ∧ Dig es ∧ Rw wr xb T (pre ++ es.map dg ++ post) ∧ w.grownBy wr (some xb) ∧ Rw wr w.heap.size 94 box ∧ Try X Y (B64 ^ (n + 1)) (val es) t o

set_option maxRecDepth 100000 in
set_option maxHeartbeats 800000 in
theorem digit_any (w : World) (xb xo xc yb yo yc n : Nat) (T : TypeId) (pre post : List Value) (xs ys : List Nat) (hxR : Rw w xb T (pre ++ xs.map dg ++ post)) (hpre : pre.length = xo) (hy : Ds w yb yo ys) (hne : yb ≠ xb)
    (hxl : xs.length = n + 1) (hyl : ys.length = n) (hn1 : 1 ≤ n) (hdx : Dig xs) (hdy : Dig ys) (hn : n ≤ 100000000000) (htop : 9223372036854775808 ≤ ys.getD (n - 1) 0) (hlt : val xs < val ys * B64) :
    Calls Tryd.prog 77 #[.agg #[.slice (some ⟨xb, xo, none⟩) (n + 1) xc, .slice (some ⟨yb, yo, none⟩) n yc]] w
      fun e w' => ∃ es : List Nat, e = .returned (.int .u64 (val xs / val ys : Nat)) ∧ Rw w' xb T (pre ++ es.map dg ++ post) ∧ w.grownBy w' (some xb) ∧ es.length = n + 1 ∧ Dig es ∧ val es = val xs % val ys := by
  have hY : 0 < val ys := by
    rcases Nat.eq_zero_or_pos (val ys) with h | h
    · rw [h] at hlt; simp at hlt
    · exact h
  have hYP : val ys * B64 ≤ B64 ^ (n + 1) := by
    rw [Nat.pow_succ]; have := val_lt hdy; rw [hyl] at this; exact Nat.mul_le_mul_right _ (Nat.le_of_lt this)
  have hXd : Ds w xb xo xs := hxR.ds hpre
  have hylt : yb < w.heap.size := World.block_lt_of_cell? w _ (hy 0 (by omega))
  have hxlt : xb < w.heap.size := hxR.lt
  obtain ⟨X, hX⟩ : ∃ X, X = val xs := ⟨_, rfl⟩
  obtain ⟨Y, hYe⟩ : ∃ Y, Y = val ys := ⟨_, rfl⟩
  obtain ⟨box, hbox⟩ : ∃ box : List Value, box = [.slice (some ⟨xb, xo, none⟩) (n + 1) xc, .slice (some ⟨yb, yo, none⟩) n yc] := ⟨_, rfl⟩
  have HX := Lib.hid hX; clear hX
  have HY := Lib.hid hYe; clear hYe
  have HB := Lib.hid hbox; clear hbox
  go_enter Tryd.func77, Tryd.ntmps77
  go_wp2_with fail
  have hA1 := World.grownBy_alloc w (.cells #[.slice (some ⟨xb, xo, none⟩) (n + 1) xc, .slice (some ⟨yb, yo, none⟩) n yc] 94) (some xb)
  have hB1 : Rw (w.alloc (.cells #[.slice (some ⟨xb, xo, none⟩) (n + 1) xc, .slice (some ⟨yb, yo, none⟩) n yc] 94)) w.heap.size 94 box := by
    rw [HB.out]; exact Rw.new w _ _
  have hR1 : Rw (w.alloc (.cells #[.slice (some ⟨xb, xo, none⟩) (n + 1) xc, .slice (some ⟨yb, yo, none⟩) n yc] 94)) xb T (pre ++ xs.map dg ++ post) := hxR.alloc _
  generalize w.alloc (.cells #[.slice (some ⟨xb, xo, none⟩) (n + 1) xc, .slice (some ⟨yb, yo, none⟩) n yc] 94) = w1 at *
  have hX1 : Ds w1 xb xo xs := hR1.ds hpre
  have hsz := hA1.size
  have hl1 := hB1.lt
  refine (guess_any w1 xb xo xc yb yo yc n xs ys hX1 (hy.grown hA1 (by simpa using hne)) hxl hyl hn1 hdx hdy (by omega) _ _ _ rfl rfl rfl htop).mono ?_
  rintro e w2 ⟨g, rfl, hg, hgB, hb2⟩
  have hge : val xs / val ys ≤ g := guess_ge hxl hyl hn1 hdx rfl rfl rfl (by omega) hlt hg
  have hg2 : w.grownBy w2 (some xb) := grown_trans hA1 (grown_of_below hb2 _)
  have hB2 : Rw w2 w.heap.size 94 box := hB1.below hb2 hl1
  have hR2 : Rw w2 xb T (pre ++ xs.map dg ++ post) := hR1.below hb2 hR1.lt
  have hk0 := hB2.cell 0
  have hk1 := hB2.cell 1
  rw [HB.out] at hk0 hk1
  simp only [List.getElem?_cons_zero, List.getElem?_cons_succ] at hk0 hk1
  have HX2 := Lib.hid (And.intro hxl (And.intro hyl hpre)); clear hxl hyl hpre
  clear hA1 hB1 hR1 hX1 hb2 hg
  go_wp2_with fail
  refine (minusTimes_at (n := g) HX2.out.1 HX2.out.2.1 hR2 HX2.out.2.2 (hy.grown hg2 (by simpa using hne)) hne hdx hdy hgB (by rw [HX2.out.1, HX2.out.2.1]; omega) (by rw [HX2.out.1]; omega)).mono ?_
  rintro e w3 ⟨es, o, rfl, hR3, hg3, hel, hed, ho, hval⟩
  have hbx3 : Rw w3 w.heap.size 94 box := hB2.grown hg3 (by simp; omega)
  have hT : Try (val xs) (val ys) (B64 ^ (n + 1)) (val es) g o := try_first hval (by rw [← hel]; exact val_lt hed) hYP hge hgB hY
  have hDG : DG w w3 xb T pre post n (val xs) (val ys) box g o := ⟨es, hel, hed, hR3, grown_trans hg2 hg3, hbx3, hT⟩
  clear hR3 hg3 hel hed hval hT hbx3 hk0 hk1 hB2 hR2 hg2 hge
  go_wp2
  go_loopw [3, 4] (fun s u wr => ∃ t o : Nat, s = .int .u64 t ∧ u = .int .u64 o ∧ DG w wr xb T pre post n (val xs) (val ys) box t o) (fun s _ _ => (intOf s).toNat)
  case atStart => exact ⟨g, o, rfl, rfl, hDG⟩
  case round =>
    clear hDG
    obtain ⟨t, o, rfl, rfl, hDG⟩ := hrel
    obtain ⟨es, hel, hed, hR3, hg3, hbx3, hT⟩ := hDG
    by_cases ho0 : o = 0
    · subst ho0
      obtain ⟨e1, e2⟩ := try_done hT hY
      have E1 := Lib.hid e1; clear e1
      have E2 := Lib.hid e2; clear e2
      have HEL := Lib.hid hel; clear hel
      go_wp2
      go_ret
      exact ⟨es, congrArg (fun k : Nat => Ending.returned (.int .u64 (k : Int))) E1.out, hR3, hg3, HEL.out, hed, E2.out⟩
    · have hk0 := hbx3.cell 0
      have hk1 := hbx3.cell 1
      rw [HB.out] at hk0 hk1
      simp only [List.getElem?_cons_zero, List.getElem?_cons_succ] at hk0 hk1
      have ho1 := hT.2.1
      have htB := hT.2.2.2.2
      have HEL := Lib.hid hel; clear hel
      have HT := Lib.hid hT; clear hT
      have ht1 : 1 ≤ t := try_pos HT.out ho0
      have tz : ((o : Int) != 0) = true := by rw [bne_iff_ne]; omega
      have wt : IntKind.u64.wrap ((t : Int) - 1) = (t : Int) - 1 := by unfold B64 at htB; rw [IntKind.wrap_u64]; omega
      go_wp2_with fail
      refine (plusTimes_at (n := 1) HEL.out HX2.out.2.1 hR3 HX2.out.2.2 (hy.grown hg3 (by simpa using hne)) hne hed hdy (by unfold B64; omega) (by rw [HEL.out, HX2.out.2.1]; omega) (by rw [HEL.out]; omega)).mono ?_
      rintro e w4 ⟨es', c, rfl, hR4, hg4, hel', hed', hc, hval⟩
      obtain ⟨q1, q2, q3⟩ := try_more HT.out ho0 (by rw [Nat.one_mul] at hval; exact hval) (by rw [← hel']; exact val_lt hed') hYP hY
      have hbx4 : Rw w4 w.heap.size 94 box := hbx3.grown hg4 (by simp; omega)
      have hDG : DG w w4 xb T pre post n (val xs) (val ys) box (t - 1) (o - c) := ⟨es', hel', hed', hR4, grown_trans hg3 hg4, hbx4, q3⟩
      have wo : IntKind.u64.wrap ((o : Int) - (c : Int)) = (o : Int) - (c : Int) := by rw [IntKind.wrap_u64]; omega
      clear hval q3 hbx4 hR4 hg4 hel' hed' hk0 hk1
      go_wp2
      go_roundw
      case rel => exact ⟨t - 1, o - c, by go_num, by go_num, hDG⟩
      case measure => simp [intOf]; omega

end Go.Proofs.YtemlhloipjbecaaDoor
