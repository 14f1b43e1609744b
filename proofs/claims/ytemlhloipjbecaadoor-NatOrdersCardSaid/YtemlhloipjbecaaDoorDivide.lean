/- Quotient and rest of two rows, walked. -/
import Derived.Test.YtemlhloipjbecaaDoorFrom
import Derived.Test.YtemlhloipjbecaaDoorUp
import Derived.Test.YtemlhloipjbecaaDoorDivideNum
import Derived.Lib.ItoaNum
namespace Go.Proofs.YtemlhloipjbecaaDoor
open Go.RowKit Go.Shelf

theorem Ds.take {w : World} {b off : Nat} {ds : List Nat} (h : Ds w b off ds) (n : Nat) : Ds w b off (ds.take n) := by
  intro i hi
  have hi' : i < ds.length := by rw [List.length_take] at hi; omega
  rw [h i hi']
  simp
theorem Ds.mid {w : World} {b off : Nat} {ds : List Nat} (h : Ds w b off ds) (k : Nat) : Ds w b (off + k) (ds.drop k) := by
  intro i hi
  have hi' : k + i < ds.length := by rw [List.length_drop] at hi; omega
  have := h (k + i) hi'
  rw [← Nat.add_assoc] at this
  rw [this]
  simp
theorem Rw.ds0 {w : World} {b : Nat} {t : TypeId} {ds : List Nat} (h : Rw w b t (ds.map dg)) : Ds w b 0 ds := Rw.ds (pre := []) (post := []) (off := 0) (by simpa using h) rfl
theorem lz64 (y : Nat) (h0 : 0 < y) (hy : y < B64) : ∃ s : Nat, s < 64 ∧ 9223372036854775808 ≤ y * 2 ^ s ∧ y * 2 ^ s < B64 ∧ ∀ w : World,
    Calls Tryd.prog 37 #[.int .u64 y] w fun e w' => e = .returned (.int .i64 s) ∧ w = w' := by
  obtain ⟨l1, l2, l3⟩ := Lib.bitLenAux_bounds 64 y hy (by omega)
  have hL : Lib.bitLen y = Lib.bitLenAux 64 y := rfl
  rw [← hL] at l1 l2 l3
  have hl64 : Lib.bitLen y ≤ 64 := by
    rcases Nat.lt_or_ge 64 (Lib.bitLen y) with h | h
    · exfalso
      have : 2 ^ 64 ≤ 2 ^ (Lib.bitLen y - 1) := Nat.pow_le_pow_right (by omega) (by omega)
      have : B64 = 2 ^ 64 := rfl
      omega
    · exact h
  refine ⟨64 - Lib.bitLen y, by omega, ?_, ?_, fun w => ?_⟩
  · have h := Nat.mul_le_mul_right (2 ^ (64 - Lib.bitLen y)) l2
    rw [← Nat.pow_add, show Lib.bitLen y - 1 + (64 - Lib.bitLen y) = 63 by omega] at h
    exact h
  · have h := Nat.mul_lt_mul_of_pos_right l3 (Nat.two_pow_pos (64 - Lib.bitLen y))
    rw [← Nat.pow_add, show Lib.bitLen y + (64 - Lib.bitLen y) = 64 by omega] at h
    exact h
  · refine (Tryd.bits_LeadingZeros64 (y : Int) w (by omega) (by unfold B64 at hy; omega)).mono fun e w' ⟨he, hw⟩ => ⟨?_, hw.symm⟩
    rw [he, Int.toNat_natCast]
    congr 2
    omega

theorem up_at {w : World} {b off dc l : Nat} {ds : List Nat} {n : Nat} (hl : ds.length = l) (hd : Ds w b off ds) (hdd : Dig ds) (hn : n < 64) (hmax : l ≤ 1000000000000) :
    Calls Tryd.prog 55 #[.slice (some ⟨b, off, none⟩) l dc, .int .u64 n] w
      fun e w' => e = .returned (.slice (some ⟨w.heap.size, 0, none⟩) (l + 1) (l + 1)) ∧ Rw w' w.heap.size 22 ((ups n 0 ds).map dg) ∧ Below w.heap.size w w' := by
  subst hl
  exact up_any w b off dc ds n hd hdd hn hmax
theorem down_at {w : World} {db dc l : Nat} {T : TypeId} {ds : List Nat} {n : Nat} (hl : ds.length = l) (hd : Rw w db T (ds.map dg)) (hdd : Dig ds) (hn : n < 64) (hmax : l ≤ 1000000000000) :
    Calls Tryd.prog 56 #[.slice (some ⟨db, 0, none⟩) l dc, .int .u64 n] w
      fun e w' => e = .returned (.tuple #[]) ∧ Rw w' db T ((downs n ds).map dg) ∧ w.grownBy w' (some db) := by
  subst hl
  have h := down_any w db 0 dc T [] [] ds n (by simpa using hd) rfl hdd hn hmax
  simpa using h

theorem digit_at {w : World} {xb xo xc yb yo yc n : Nat} {T : TypeId} {pre post : List Value} {xs ys : List Nat} {q : Nat} (hq : q = val xs / val ys) (hxR : Rw w xb T (pre ++ xs.map dg ++ post)) (hpre : pre.length = xo) (hy : Ds w yb yo ys) (hne : yb ≠ xb)
    (hxl : xs.length = n + 1) (hyl : ys.length = n) (hn1 : 1 ≤ n) (hdx : Dig xs) (hdy : Dig ys) (hn : n ≤ 100000000000) (htop : 9223372036854775808 ≤ ys.getD (n - 1) 0) (hlt : val xs < val ys * B64) :
    Calls Tryd.prog 77 #[.agg #[.slice (some ⟨xb, xo, none⟩) (n + 1) xc, .slice (some ⟨yb, yo, none⟩) n yc]] w
      fun e w' => ∃ es : List Nat, e = .returned (.int .u64 q) ∧ Rw w' xb T (pre ++ es.map dg ++ post) ∧ w.grownBy w' (some xb) ∧ es.length = n + 1 ∧ Dig es ∧ val es = val xs % val ys := by
  subst hq
  exact digit_any w xb xo xc yb yo yc n T pre post xs ys hxR hpre hy hne hxl hyl hn1 hdx hdy hn htop hlt

/-- Between the rounds of divide. -/
def DV (w wr : World) (g1 g2 g3 g4 la n : Nat) (box : List Value) (A : Nat) (Ys : List Nat) (k : Nat) : Prop :=
  ∃ X Q : List Nat, X.length = la + 1 ∧ Q.length = la - n + 1 ∧ Dig X ∧ Dig Q ∧ Rw wr g1 22 (X.map dg) ∧ Rw wr g4 22 (Q.map dg) ∧ Ds wr g2 0 Ys ∧ Rw wr g3 94 box ∧
    Below w.heap.size w wr ∧ DJ A (val Ys) k X Q

set_option maxRecDepth 100000 in
set_option maxHeartbeats 1600000 in
theorem divide_any (w : World) (ab ao ac bb bo bc la n : Nat) (us bs : List Nat) (ha : Ds w ab ao us) (hb : Ds w bb bo bs) (hal : us.length = la) (hbl : bs.length = n) (hda : Dig us) (hdb : Dig bs)
    (hn1 : 1 ≤ n) (hnl : n ≤ la) (hmax : la ≤ 10000000000) (htop : 0 < bs.getD (n - 1) 0) :
    Calls Tryd.prog 54 #[.slice (some ⟨ab, ao, none⟩) la ac, .slice (some ⟨bb, bo, none⟩) n bc] w
      fun e w' => ∃ (qg xg : Nat) (Q R : List Nat), e = .returned (.tuple #[.slice (some ⟨qg, 0, none⟩) (la - n + 1) (la - n + 1), .slice (some ⟨xg, 0, none⟩) (la + 1) (la + 1)]) ∧
        Rw w' qg 22 (Q.map dg) ∧ Rw w' xg 22 (R.map dg) ∧ Q.length = la - n + 1 ∧ R.length = la + 1 ∧ Dig Q ∧ Dig R ∧ val Q = val us / val bs ∧ val R = val us % val bs ∧ Below w.heap.size w w' := by
  obtain ⟨top, ht⟩ : ∃ top, top = bs.getD (n - 1) 0 := ⟨_, rfl⟩
  have htB : top < B64 := by rw [ht]; simp [hbl, show n - 1 < n by omega]; exact hdb.get (by omega)
  have hct : w.cell? ⟨bb, bo + (n - 1), none⟩ = some (.int .u64 top) := by
    rw [hb (n - 1) (by omega), ht]; simp [dg, hbl, show n - 1 < n by omega]
  rw [← ht] at htop
  obtain ⟨s, hs64, hs1, hs2, hlz⟩ := lz64 top htop htB
  have wn : IntKind.i64.wrap ((n : Int) - 1) = (n : Int) - 1 := by rw [IntKind.wrap_i64]; omega
  have tn : ((n : Int) - 1).toNat = n - 1 := by omega
  have gn : (1 : Int) ≤ (n : Int) := by omega
  have Ht := Lib.hid ht; clear ht
  have HL := Lib.hid (And.intro hal hbl); clear hal hbl
  go_enter Tryd.func54, Tryd.ntmps54
  go_wp2_with (go_at_call 37; refine (hlz _).mono ?_; rintro e w' ⟨rfl, rfl⟩)
  refine (up_at HL.out.1 ha hda hs64 (by omega)).mono ?_
  rintro e w1 ⟨rfl, hX1, hb1⟩
  have hXlt := hX1.lt
  have hbb : bb < w.heap.size := World.block_lt_of_cell? w _ hct
  have hblt1 : w.heap.size ≤ w1.heap.size := hb1.size
  go_wp2_with fail
  refine (up_at HL.out.2 (hb.below hb1 hbb) hdb hs64 (by omega)).mono ?_
  rintro e w2 ⟨rfl, hY2, hb2⟩
  have hX2 := hX1.below hb2 hXlt
  have hYlt := hY2.lt
  have hb02 : Below w.heap.size w w2 := hb1.trans (hb2.mono hblt1)
  have hblt2 : w1.heap.size ≤ w2.heap.size := hb2.size
  have hmk := make_row (la - n + 1) ((la : Int) - (n : Int) + 1) (by omega) (by omega)
  clear hX1 hb1 hb2 hct wn tn gn
  obtain ⟨hYv, hYt⟩ := norm_ups HL.out.2 hn1 hs64 (by rw [← Ht.out]; exact hs2) (by rw [← Ht.out]; exact hs1)
  obtain ⟨Ys, hYs⟩ : ∃ Ys, Ys = (ups s 0 bs).take n := ⟨_, rfl⟩
  rw [← hYs] at hYv hYt
  have hYl : Ys.length = n := by rw [hYs, List.length_take, length_ups, HL.out.2]; omega
  have hYd : Dig Ys := by rw [hYs]; exact (dig_ups hs64 hdb (Nat.two_pow_pos _)).take _
  have hYD : Ds w2 w1.heap.size 0 Ys := by rw [hYs]; exact hY2.ds0.take n
  have HYV := Lib.hid (And.intro hYv (And.intro hYl hYs)); clear hYv hYl hYs
  obtain ⟨box, hbox⟩ : ∃ box : List Value, box = [.slice (some ⟨w.heap.size, 0, none⟩) (la + 1) (la + 1), .slice (some ⟨w1.heap.size, 0, none⟩) n (n + 1)] := ⟨_, rfl⟩
  have HB := Lib.hid hbox; clear hbox
  go_wp2
  have hDV : DV w ((w2.alloc (.cells #[.slice (some ⟨w.heap.size, 0, none⟩) (la + 1) (la + 1), .slice (some ⟨w1.heap.size, 0, none⟩) n (n + 1)] 94)).alloc (.cells (zeros (la - n + 1)) 22))
      w.heap.size w1.heap.size w2.heap.size (w2.heap.size + 1) la n box (val us * 2 ^ s) Ys (la - n + 1) := by
    refine ⟨ups s 0 us, List.replicate (la - n + 1) 0, by rw [length_ups, HL.out.1], by simp, dig_ups hs64 hda (Nat.two_pow_pos _), Dig.replicate _, (hX2.alloc _).alloc _, ?_, ?_, ?_, ?_, ?_⟩
    · have := Rw.new (w2.alloc (.cells #[.slice (some ⟨w.heap.size, 0, none⟩) (la + 1) (la + 1), .slice (some ⟨w1.heap.size, 0, none⟩) n (n + 1)] 94)) 22 ((List.replicate (la - n + 1) 0).map dg)
      rw [World.size_alloc] at this
      exact this
    · exact (hYD.grown (World.grownBy_alloc _ _ none) (by simp)).grown (World.grownBy_alloc _ _ none) (by simp)
    · have := (Rw.new w2 94 box).alloc (.cells (zeros (la - n + 1)) 22)
      rw [HB.out] at this ⊢
      exact this
    · exact (hb02.alloc hb02.size _).alloc (by rw [World.size_alloc]; have := hb02.size; omega) _
    · refine dj_start (s := s) (n := n) (by rw [val_ups hs64]; rfl) (by rw [length_ups, HL.out.1]; omega) (by simp) ?_ ?_ hn1
      · have h1 := val_lt hda
        rw [HL.out.1] at h1
        rw [show la - n + 1 + n - 1 = la by omega]
        exact Nat.mul_lt_mul_of_pos_right h1 (Nat.two_pow_pos _)
      · rw [HYV.out.1]
        refine Nat.mul_le_mul_right _ ?_
        have h2 := val_split bs (n - 1) (by rw [HL.out.2]; omega)
        have h3 : bs.drop (n - 1) = [bs.getD (n - 1) 0] := by
          rw [List.drop_eq_getElem_cons (by rw [HL.out.2]; omega), List.drop_of_length_le (by rw [HL.out.2]; omega)]
          simp [HL.out.2, show n - 1 < n by omega]
        rw [h3, val_single, ← Ht.out] at h2
        have h4 : B64 ^ (n - 1) * 1 ≤ B64 ^ (n - 1) * top := Nat.mul_le_mul_left _ htop
        omega
  generalize (w2.alloc (.cells #[.slice (some ⟨w.heap.size, 0, none⟩) (la + 1) (la + 1), .slice (some ⟨w1.heap.size, 0, none⟩) n (n + 1)] 94)).alloc (.cells (zeros (la - n + 1)) 22) = w3 at *
  clear hX2 hY2 hb02 hYD hmk
  go_loopw [8] (fun i wr => ∃ (k : Nat) (c : Int), k ≤ la - n + 1 ∧ i = .int .i64 c ∧ c = (k : Int) - 1 ∧ DV w wr w.heap.size w1.heap.size w2.heap.size (w2.heap.size + 1) la n box (val us * 2 ^ s) Ys k)
    (fun i _ => (intOf i + 1).toNat)
  case atStart => exact ⟨la - n + 1, _, Nat.le_refl _, rfl, by omega, hDV⟩
  case round =>
    clear hDV
    obtain ⟨k, c, hk, rfl, hc, hDV⟩ := hrel
    obtain ⟨X, Q, d1, d2, d3, d4, d5, d6, d7, d8, d9, d10⟩ := hDV
    have hb0 := d8.cell 0
    have hb1 := d8.cell 1
    rw [HB.out] at hb0 hb1
    simp only [List.getElem?_cons_zero, List.getElem?_cons_succ] at hb0 hb1
    rcases Nat.eq_zero_or_pos k with hk0 | hk0
    · subst hk0
      obtain rfl : c = -1 := by omega
      have hDJ := dj_done d10
      have HD := Lib.hid (And.intro d1 (And.intro d2 (And.intro hDJ d10))); clear d1 d2 d10 hDJ hc
      go_wp2_with fail
      refine (down_at HD.out.1 d5 d3 hs64 (by omega)).mono ?_
      rintro e w5 ⟨rfl, hR5, hg5⟩
      have d8' := d8.grown hg5 (by simp; omega)
      have hb0' := d8'.cell 0
      rw [HB.out] at hb0'
      simp only [List.getElem?_cons_zero] at hb0'
      go_wp2
      go_quiet (fail)
      go_wp2
      go_ret2
      refine ⟨w2.heap.size + 1, w.heap.size, Q, downs s X, rfl, ?_, ?_, HD.out.2.1, by rw [length_downs, HD.out.1], d4, dig_downs hs64 d3, ?_, ?_, ?_⟩
      · exact (d6.grown hg5 (by simp; omega)).drewN _
      · exact hR5.drewN _
      · rw [HD.out.2.2.1.1, HYV.out.1, Nat.mul_comm (val us), Nat.mul_comm (val bs), Nat.mul_div_mul_left _ _ (Nat.two_pow_pos _)]
      · rw [val_downs hs64, HD.out.2.2.1.2, HYV.out.1, Nat.mul_mod_mul_right, Nat.mul_div_cancel _ (Nat.two_pow_pos _)]
      · exact below_drewN (d9.grown hg5 (d9.size) (by intro k hk; injection hk with hk; omega)) _
    · obtain ⟨j, rfl⟩ : ∃ j, k = j + 1 := ⟨k - 1, by omega⟩
      obtain rfl : c = (j : Int) := by omega
      have hYB : val Ys < B64 ^ n := by have := val_lt hYd; rw [HYV.out.2.1] at this; exact this
      obtain ⟨hz, hwin⟩ := dj_window d10 d3 (n := n) (by omega) hYB
      have hY0 : 0 < val Ys := Nat.lt_of_le_of_lt (Nat.zero_le _) d10.2
      have hst := fun es he1 he2 => dj_step (es := es) d10 d3 (n := n) (by omega) hYB hY0 (by omega) he1 he2
      obtain ⟨q, hq⟩ : ∃ q, q = val ((X.drop j).take (n + 1)) / val Ys := ⟨_, rfl⟩
      rw [← hq] at hst
      have HST := Lib.hid hst; clear hst
      have HQ := Lib.hid hq; clear hq
      have HD := Lib.hid (And.intro d1 (And.intro d2 (And.intro hwin d10))); clear d1 d2 d10 hc hz hwin
      have hqB : q < B64 := by
        rw [HQ.out, Nat.div_lt_iff_lt_mul hY0, Nat.mul_comm]; exact HD.out.2.2.1
      go_wp2_with fail
      refine (from_any wr w.heap.size 0 (la + 1) (la + 1) w1.heap.size 0 (n + 1) n j (by omega) (by omega)).mono ?_
      rintro e w5 ⟨rfl, hb5⟩
      go_wp2_with fail
      have e5 : X.map dg = (X.take j).map dg ++ ((X.drop j).take (n + 1)).map dg ++ (X.drop (j + n + 1)).map dg := by
        rw [← List.map_append, ← List.map_append]
        congr 1
        rw [List.append_assoc, show j + n + 1 = j + (n + 1) by omega, ← List.drop_drop, List.take_append_drop, List.take_append_drop]
      have hR5 : Rw w5 w.heap.size 22 ((X.take j).map dg ++ ((X.drop j).take (n + 1)).map dg ++ (X.drop (j + n + 1)).map dg) := by
        rw [← e5]; exact d5.below hb5 d5.lt
      have hQ5 := d6.below hb5 d6.lt
      have hB5 := d8.below hb5 d8.lt
      have hY5 : Ds w5 w1.heap.size 0 Ys := d7.grown (grown_of_below hb5 none) (by simp)
      refine (digit_at HQ.out hR5 (by rw [List.length_map, List.length_take, HD.out.1]; omega) hY5 (by omega) (by rw [List.length_take, List.length_drop, HD.out.1]; omega) HYV.out.2.1 hn1 ((d3.drop j).take _) hYd (by omega) hYt HD.out.2.2.1).mono ?_
      rintro e w6 ⟨es, rfl, hR6, hg6, hel, hed, hev⟩
      have hQ6 := hQ5.grown hg6 (by simp; omega)
      have hB6 := hB5.grown hg6 (by simp; omega)
      have hY6 : Ds w6 w1.heap.size 0 Ys := hY5.grown hg6 (by simp; omega)
      have hb6 : Below w.heap.size w w6 := (d9.trans (hb5.mono d9.size)).grown hg6 (Nat.le_trans d9.size hb5.size) (by intro k hk; injection hk with hk; omega)
      have hq6 := hQ6.cell j
      have hfr6 : w6.frozen? ⟨w2.heap.size + 1, j, none⟩ = false := hQ6.frozen _
      rw [List.getElem?_map, List.getElem?_eq_getElem (by rw [HD.out.2.1]; omega), Option.map_some] at hq6
      unfold dg at hq6
      obtain ⟨z, hz⟩ : ∃ z, z = Q[j]'(by rw [HD.out.2.1]; omega) := ⟨_, rfl⟩
      rw [← hz] at hq6
      clear hz e5
      have HE := Lib.hid (And.intro hel hev); clear hel hev
      clear hb0 hb1
      go_wp2
      go_roundw
      case rel =>
        refine ⟨j, (j : Int) - 1, by omega, rfl, by omega, X.take j ++ es ++ X.drop (j + n + 1), Q.set j q, ?_, ?_, ?_, ?_, ?_, ?_, ?_, ?_, ?_, ?_⟩
        · have := HD.out.1; have := HE.out.1
          simp; omega
        · simp [HD.out.2.1]
        · exact ((d3.take j).append hed).append (d3.drop _)
        · intro x hx
          rcases List.mem_or_eq_of_mem_set hx with h | h
          · exact d4 x h
          · rw [h]; exact hqB
        · have := hR6.far (p := ⟨w2.heap.size + 1, j, none⟩) (by simp; omega) (.int .u64 (q : Int))
          simpa [List.map_append] using this
        · have := hQ6.set_ j (dg q)
          rw [← List.map_set] at this
          exact this
        · intro i hi
          rw [World.cell?_setCell_other _ _ _ _ (by intro e; injection e with e1 e2; omega)]
          exact hY6 i hi
        · exact hB6.far (p := ⟨w2.heap.size + 1, j, none⟩) (by simp) _
        · exact hb6.setCell (by have := hb6.size; simp; omega) _
        · exact HST.out es HE.out.1 HE.out.2
      case measure => simp [intOf]

end Go.Proofs.YtemlhloipjbecaaDoor
