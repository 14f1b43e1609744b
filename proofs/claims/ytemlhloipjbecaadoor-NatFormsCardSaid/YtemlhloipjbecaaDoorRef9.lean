/- The document's quotient and rest, walked. -/
import Derived.Test.YtemlhloipjbecaaDoorRef8
namespace Go.Proofs.YtemlhloipjbecaaDoor
open Go.RowKit Go.Shelf

theorem Bw.far {w : World} {ad : Option Addr} {c : Nat} {bs : List Nat} (h : Bw w ad c bs) {p : Addr} (hp : ∀ b off, ad = some ⟨b, off, none⟩ → b ≠ p.block) (u : Value) : Bw (w.setCell p u) ad c bs := by
  refine ⟨h.le, h.max, ?_, fun i hi => ?_⟩
  · rcases h.addr with h | ⟨b, off, e, hl⟩
    · exact .inl h
    · exact .inr ⟨b, off, e, by simpa using hl⟩
  · obtain ⟨b, off, e, hl, hc⟩ := h.cell i hi
    refine ⟨b, off, e, by simpa using hl, ?_⟩
    rw [← hc]
    exact World.cell?_of_block (w := w) (Below.heap_setCell w p u b (hp b off e))
/-- One bit in front. -/
theorem wpList_append_front {w : World} {ops : Array Oper} {rest : List Oper} {o : Oper} {a : Act} {Q : Exit → Act → World → Prop} (hgd : o.guard = none) (s y : Operand)
    (ho : o.op = .call { callee := .builtin .append, args := #[s, y], argTypes := #[27, 27] })
    (V : Value) (d : Nat) (hV : V = bv d) (g : Nat) (hg : g = w.heap.size) (hs : a.eval s = .slice (some ⟨g, 0, none⟩) 1 1) (od : Option Addr) (m c : Nat) (bs : List Nat) (hy : a.eval y = .slice od m c) (hm : bs.length = m) (h : Bw w od c bs) (hmax : m ≤ 1000000000)
    (hk : ∀ g' cap' w', w.heap.size ≤ g' → Bw w' (some ⟨g', 0, none⟩) cap' (d :: bs) → Below w.heap.size w w' → wpList Tryd.prog ops Q rest (a.put o.dst (.slice (some ⟨g', 0, none⟩) (m + 1) cap')) w') : wpList Tryd.prog ops Q (o :: rest) a (w.alloc (.cells #[V] 5)) := by
  subst hV hg hm
  obtain ⟨i, hi, hz, hsz, hby⟩ := info_parts info8
  have hR := Rw.new w 5 [bv d]
  have hB : Below w.heap.size w (w.alloc (.cells #[bv d] 5)) := (Below.refl _ _).alloc (Nat.le_refl _) _
  have hown : (w.alloc (.cells #[bv d] 5)).ownsRow w.heap.size 5 1 (.slice (some ⟨w.heap.size, 0, none⟩) 1 1) 1 [bv d] :=
    ⟨rfl, .inr ⟨w.heap.size, 1, #[bv d], rfl, Nat.le_refl _, hR, Nat.le_refl _, by unfold maxLen; omega, rfl, rfl⟩⟩
  rcases h.addr with ⟨rfl, hc0⟩ | ⟨b, off, rfl, hbl⟩
  · have hbs : bs = [] := by
      cases bs with
      | nil => rfl
      | cons x xs => have := h.le; simp at this; omega
    subst hbs hc0
    refine wpList_plain hgd fun K hK => ?_
    have hr : (Builtin.append_ #[27, 27] o.type #[.slice (some ⟨w.heap.size, 0, none⟩) 1 1, .slice none 0 0]).run Tryd.prog (w.alloc (.cells #[bv d] 5)) = .ok (.slice (some ⟨w.heap.size, 0, none⟩) 1 1) (w.alloc (.cells #[bv d] 5)) := by
      simp [Builtin.append_, run_underlying Tryd.underlying27, sizeOf, typeInfo, hi, Builtin.lenOf, Builtin.firstCells, storeCells]
    unfold Oper.wp execOp
    simp only [ho, resolve, invoke, builtin, Sem.run_bind, Sem.run_pure, Result.andThen_ok, List.map_toArray, List.map_cons, List.map_nil, hs, List.length_nil] at hy ⊢
    rw [hy]
    simp only [hr, Result.andThen_ok]
    refine hK _ _ (hk w.heap.size 1 _ (Nat.le_refl _) ⟨Nat.le_refl _, by unfold maxLen; omega, .inr ⟨w.heap.size, 0, rfl, hR.lt⟩, fun j hj => ⟨w.heap.size, 0, rfl, hR.lt, ?_⟩⟩ hB)
    simp at hj
    subst hj
    exact hR.cell 0
  · have hnews : ∀ j u, (bs.map bv)[j]? = some u → (w.alloc (.cells #[bv d] 5)).cell? ((⟨b, off, none⟩ : Addr).add j) = some u := by
      intro j u hj
      obtain ⟨hj1, hj2⟩ := List.getElem?_eq_some_iff.1 hj
      rw [List.length_map] at hj1
      obtain ⟨b', off', e, hl, hc⟩ := h.cell j hj1
      simp only [Option.some.injEq, Addr.mk.injEq] at e
      obtain ⟨rfl, rfl, _⟩ := e
      have ea : (⟨b, off, none⟩ : Addr).add j = ⟨b, off + j, none⟩ := by unfold Addr.add; split <;> simp_all
      rw [ea, ← hj2, List.getElem_map]
      exact cell_past hc _
    refine wpList_append_own _ hgd s y _ ho w.heap.size 5 i _ 1 1 Tryd.underlying27 hi hz hsz hby rfl (by omega) _ 1 [bv d] hs hown ⟨b, off, none⟩ bs.length c (bs.map bv) hy (by simp) hnews (by intro u hu; obtain ⟨x, _, rfl⟩ := List.mem_map.1 hu; rfl)
      (by unfold maxLen; omega) (by omega) hB.size ?_
    intro v' w' h2 h3 _
    rcases h2.2 with ⟨_, hn⟩ | ⟨g', cap, cur, hv, hbg, hgc, hn, hcm, hcs, ht⟩
    · omega
    · subst hv
      have hlt : g' < w'.heap.size := (Array.getElem?_eq_some_iff.1 hgc).1
      have hb2 : Below w.heap.size w w' := below_grown hB hB.size h3 (Nat.le_refl _)
      rw [show 1 + bs.length = bs.length + 1 by omega]
      refine hk g' cap w' hbg ⟨by simp; omega, hcm, .inr ⟨g', 0, rfl, hlt⟩, fun j hj => ⟨g', 0, rfl, hlt, ?_⟩⟩ hb2
      rw [Nat.zero_add, cell_of_row w' g' j cur 5 (0, 0) hgc]
      rw [Nat.mul_one] at ht
      have h4 : (cur.toList.take (1 + bs.length))[j]? = some (bv (d :: bs)[j]) := by
        rw [ht]
        have : ([bv d] ++ bs.map bv) = (d :: bs).map bv := rfl
        rw [this, List.getElem?_map, List.getElem?_eq_getElem hj]
        rfl
      rw [List.getElem?_take_of_lt (by simp at hj; omega)] at h4
      simpa using h4
/-- Between the rounds of Div. -/
def DB (w wr : World) (xs ys : List Nat) (k : Nat) (od : Option Addr) (oc : Nat) (rs ts : List Nat) : Prop :=
  Rw wr w.heap.size 5 ((List.replicate k 0 ++ ts).map bv) ∧ Below w.heap.size w wr ∧ Bw wr od oc rs ∧ (∀ b off, od = some ⟨b, off, none⟩ → w.heap.size < b) ∧ Bit rs ∧ TopB rs ∧ Bit ts ∧ k + ts.length = xs.length ∧ val2 (xs.drop k) = val2 ts * val2 ys + val2 rs ∧ val2 rs < val2 ys
section
variable {w wr : World} {xs ys rs ts : List Nat} {k : Nat} {od : Option Addr} {oc : Nat}
theorem bl_up {a m : Nat} (h : a < 2 ^ m) : bl a ≤ m := by
  rcases Nat.eq_zero_or_pos a with h0 | h0
  · rw [h0, bl_zero]; omega
  · obtain ⟨a1, a2, _⟩ := bl_bounds h0
    have := (Nat.pow_lt_pow_iff_right (by omega : 1 < 2)).1 (Nat.lt_of_le_of_lt a2 h)
    omega
theorem DB.len (h : DB w wr xs ys k od oc rs ts) (hy : Bit ys) : rs.length ≤ ys.length := by
  obtain ⟨_, _, _, _, h5, h6, _, _, _, h10⟩ := h
  rw [h6.length h5]
  exact bl_up (Nat.lt_trans h10 (val2_lt hy))
/-- The next digit is 0. -/
theorem DB.zero {wr' : World} {ud : Option Addr} {uc : Nat} {us : List Nat} (h : DB w wr xs ys (k + 1) od oc rs ts) (hb : Below wr.heap.size wr wr') (hu : Bw wr' ud uc us) (hf : ∀ b off, ud = some ⟨b, off, none⟩ → w.heap.size < b) (hbu : Bit us) (htu : TopB us)
    (hv : val2 us = xs.getD k 0 + 2 * val2 rs) (hlt : val2 us < val2 ys) : DB w wr' xs ys k ud uc us (0 :: ts) := by
  obtain ⟨h1, h2, h3, h4, h5, h6, h7, h8, h9, h10⟩ := h
  refine ⟨?_, h2.trans (hb.mono h2.size), hu, hf, hbu, htu, ?_, by simp; omega, ?_, hlt⟩
  · have e : List.replicate k 0 ++ 0 :: ts = List.replicate (k + 1) 0 ++ ts := by rw [List.replicate_succ', List.append_assoc]; rfl
    rw [e]
    exact h1.below hb h1.lt
  · intro x hx
    rcases List.mem_cons.1 hx with rfl | hx
    · omega
    · exact h7 x hx
  · rw [val2_drop, h9, hv, val2]
    simp only [Nat.mul_add, Nat.zero_add, Nat.mul_assoc]
    omega
/-- The next digit is 1. -/
theorem DB.one {wr' : World} {ud : Option Addr} {uc : Nat} {us : List Nat} (h : DB w wr xs ys (k + 1) od oc rs ts) (hx : Bit xs) (hb : Below wr.heap.size wr wr') (hu : Bw wr' ud uc us) (hf : ∀ b off, ud = some ⟨b, off, none⟩ → w.heap.size < b) (hbu : Bit us) (htu : TopB us)
    (hv : val2 us + val2 ys = xs.getD k 0 + 2 * val2 rs) : DB w (wr'.setCell ⟨w.heap.size, k, none⟩ (.int .u8 1)) xs ys k ud uc us (1 :: ts) := by
  obtain ⟨h1, h2, h3, h4, h5, h6, h7, h8, h9, h10⟩ := h
  have hx2 := hx.getD k
  refine ⟨?_, (h2.trans (hb.mono h2.size)).setCell (Nat.le_refl _) _, hu.far (fun b off e => by have := hf b off e; simp; omega) _, hf, hbu, htu, ?_, by simp; omega, ?_, by omega⟩
  · have hs := (h1.below hb h1.lt).set_ k (bv 1)
    have e : ((List.replicate (k + 1) 0 ++ ts).map bv).set k (bv 1) = (List.replicate k 0 ++ 1 :: ts).map bv := by
      rw [← List.map_set]
      congr 1
      rw [List.replicate_succ', List.append_assoc, List.set_append_right _ _ (by simp)]
      simp
    rw [e] at hs
    exact hs
  · intro x hx
    rcases List.mem_cons.1 hx with rfl | hx
    · omega
    · exact h7 x hx
  · rw [val2_drop, h9, val2]
    have e1 : (1 + 2 * val2 ts) * val2 ys = val2 ys + 2 * (val2 ts * val2 ys) := by rw [Nat.add_mul, Nat.one_mul, Nat.mul_assoc]
    rw [e1]
    omega
end
/-- What Div answers, by the bits. -/
theorem div_of {a b q r : Nat} (h : a = q * b + r) (hr : r < b) : divV a b = .tuple #[.string (fb q), .string (fb r), .bool true] := by
  unfold divV
  rw [if_neg (by omega)]
  have h1 : a / b = q := by rw [h, Nat.mul_comm, Nat.mul_add_div (by omega), Nat.div_eq_of_lt hr, Nat.add_zero]
  have h2 : a % b = r := by rw [h, Nat.mul_comm, Nat.mul_add_mod, Nat.mod_eq_of_lt hr]
  rw [h1, h2]

set_option maxRecDepth 100000 in
set_option maxHeartbeats 1600000 in
theorem ref_div (w : World) (s t : ByteArray) (hs : s.size ≤ 1000000) (ht : t.size ≤ 1000000) : Calls Tryd.prog 31 #[.string s, .string t] w (Ret (divV (num s) (num t)) w) := by
  go_enter Tryd.func31, Tryd.ntmps31
  go_wp2_with fail
  refine (bits_of_any _ s hs).mono ?_
  rintro e w1 ⟨ad, c, xs, rfl, hbw, hbx, _, hvx, hlx, hb⟩
  go_wp2_with fail
  refine (bits_of_any _ t ht).mono ?_
  rintro e w2 ⟨bd, d, ys, rfl, hyw, hby, hty, hvy, hly, hb2⟩
  have hxw := hbw.below hb2
  replace hb := below_trans hb hb2; clear hb2 hbw
  by_cases hy0 : ys = []
  · subst hy0
    have HV : Hid (divV (num s) (num t) = .tuple #[.string ⟨#[]⟩, .string ⟨#[]⟩, .bool false]) := by
      rw [← hvy]; unfold divV; rw [if_pos (show val2 [] = 0 from rfl)]; exact rfl
    clear hvy hty
    go_wp2
    go_ret3
    exact ⟨by rw [HV.out]; rfl, hb⟩
  · have hyp : 0 < ys.length := List.length_pos_iff.2 hy0
    have c0 : ((ys.length : Int) == 0) = false := by simp; exact hy0
    have hvp : 0 < val2 ys := by
      rcases hty with h | ⟨l, dd, h, hd⟩
      · exact absurd h hy0
      · rw [h, val2_snoc]
        have : 0 < 2 ^ l.length * dd := Nat.mul_pos (Nat.two_pow_pos _) (by omega)
        omega
    obtain ⟨N, hN⟩ : ∃ N, N = xs.length := ⟨_, rfl⟩
    have hNm : N ≤ 8000000 := by omega
    have hmk := make_bits N (N : Int) rfl (by omega)
    have hDB : DB w2 (w2.alloc (.cells (zeroB N) 5)) xs ys N none 0 [] [] := by
      refine ⟨?_, (Below.refl _ _).alloc (Nat.le_refl _) _, Bw.nil _, (fun _ _ e => by cases e), Bit.nil, .inl rfl, Bit.nil, by simp [hN], ?_, hvp⟩
      · rw [List.append_nil]
        exact Rw.new w2 5 ((List.replicate N 0).map bv)
      · rw [List.drop_of_length_le (by omega)]
        simp [val2]
    have HV := Lib.hid (And.intro hvx (And.intro hvy hN)); clear hvx hvy
    rw [← hN]
    clear hN hlx
    go_wp2
    go_loopw [10, 11] (fun v i wr => ∃ (k : Nat) (od : Option Addr) (oc : Nat) (rs ts : List Nat), k ≤ N ∧ i = .int .i64 ((k : Int) - 1) ∧ v = .slice od rs.length oc ∧ DB w2 wr xs ys k od oc rs ts) (fun _ i _ => intI i)
    case atStart => exact ⟨N, none, 0, [], [], Nat.le_refl _, rfl, rfl, hDB⟩
    case round =>
      clear hDB hmk
      obtain ⟨k, od, oc, rs, ts, hk, rfl, rfl, hDB⟩ := hrel
      have hrl := hDB.len hby
      by_cases hk0 : k = 0
      · subst hk0
        obtain ⟨h1, h2, h3, _, h5, _, h7, h8, h9, h10⟩ := hDB
        rw [List.drop_zero] at h9
        have hdv := div_of h9 h10
        rw [HV.out.1, HV.out.2.1] at hdv
        rw [List.replicate_zero, List.nil_append] at h1
        have htl : ts.length = N := by rw [HV.out.2.2]; omega
        have hqw : Bw wr (some ⟨w2.heap.size, 0, none⟩) N ts := by
          refine ⟨by omega, by unfold maxLen; omega, .inr ⟨w2.heap.size, 0, rfl, h1.lt⟩, fun i hi => ⟨w2.heap.size, 0, rfl, h1.lt, ?_⟩⟩
          rw [Nat.zero_add, h1.cell]
          simp [hi]
        have HD := Lib.hid hdv; clear hdv h9 h10
        go_wp2_with fail
        refine (textr_any _ _ N N ts hqw htl h7 (by omega)).mono ?_
        rintro e w4 ⟨rfl, hb4⟩
        have h3' := h3.below hb4
        go_wp2_with fail
        refine (textr_any _ od oc rs.length rs h3' rfl h5 (by omega)).mono ?_
        rintro e w5 ⟨rfl, hb5⟩
        go_wp2
        go_ret3
        exact ⟨by rw [HD.out]; rfl, below_trans (below_trans (below_trans hb h2) hb4) hb5⟩
      · obtain ⟨j, rfl⟩ : ∃ j, k = j + 1 := ⟨k - 1, by omega⟩
        have hj : ((j + 1 : Nat) : Int) - 1 = (j : Int) := by omega
        rw [hj]
        clear hj hk0
        have hjx : j < xs.length := by rw [← HV.out.2.2]; omega
        obtain ⟨bb, off, rfl, hbl, hcx⟩ := (hxw.below hDB.2.1).cell j hjx
        obtain ⟨b, hbb⟩ : ∃ b, b = xs[j] := ⟨_, rfl⟩
        have hb2 : b < 2 := by rw [hbb]; exact hbx.get hjx
        have hg : xs.getD j 0 = b := by rw [hbb]; simp [hjx]
        rw [← hbb] at hcx
        unfold bv at hcx
        have HG := Lib.hid hg; clear hg hbb
        have how := hDB.2.2.1
        go_wp2_with (first
          | (at_builtin; refine wpList_append_front rfl (.tmp 33) (.tmp 34) rfl _ b rfl _ rfl rfl od rs.length oc rs rfl rfl how (by omega) ?_))
        intro g3 cap3 w3 hg3 hw3 hb3
        have hbr : Bit (b :: rs) := by
          intro x hx
          rcases List.mem_cons.1 hx with rfl | hx
          · exact hb2
          · exact hDB.2.2.2.2.1 x hx
        have hg2 : w2.heap.size < wr.heap.size := hDB.1.lt
        go_wp2_with fail
        refine (cut_any _ (some ⟨g3, 0, none⟩) cap3 (rs.length + 1) (b :: rs) hw3 rfl hbr (by omega)).mono ?_
        rintro e w3' ⟨n3, hn3, rfl, hcv, hct, rfl⟩
        obtain ⟨us, hus⟩ : ∃ us, us = (b :: rs).take n3 := ⟨_, rfl⟩
        have hul : us.length = n3 := by rw [hus, List.length_take]; simp; omega
        have huw := hw3.take n3
        have hub := hbr.take n3
        rw [← hus] at hcv hct huw hub
        have huv : val2 us = xs.getD j 0 + 2 * val2 rs := by rw [hcv, HG.out]; rfl
        have HU := Lib.hid huv; clear huv hcv hus hbr hw3
        have hyw3 := (hyw.below hDB.2.1).below hb3
        go_wp2_with fail
        refine (compare_any _ (some ⟨g3, 0, none⟩) bd cap3 d n3 ys.length us ys huw hyw3 hul rfl hub hby (by omega) (by omega)).mono ?_
        rintro e w4 ⟨rfl, rfl⟩
        by_cases hlt : val2 us < val2 ys
        · have hc : decide ((0 : Int) ≤ cmpN (val2 us) (val2 ys)) = false := by unfold cmpN; rw [if_pos hlt]; decide
          have hDB2 := hDB.zero hb3 huw (by rintro b off e; cases e; omega) hub hct HU.out hlt
          have HL := Lib.hid hul
          clear hDB how huw hyw3 hlt
          go_wp2
          go_roundw
          case rel => exact ⟨j, some ⟨g3, 0, none⟩, cap3, us, 0 :: ts, by omega, rfl, by rw [HL.out], hDB2⟩
          case measure => simp [intI]
        · have hle : val2 ys ≤ val2 us := by omega
          have hc : decide ((0 : Int) ≤ cmpN (val2 us) (val2 ys)) = true := by unfold cmpN; rw [if_neg hlt]; split <;> simp
          go_wp2_with fail
          refine (minusr_any _ (some ⟨g3, 0, none⟩) bd cap3 d n3 ys.length us ys huw hyw3 hul rfl hub hby (by omega) hle).mono ?_
          rintro e w5 ⟨gs, rfl, hgw, hgl, hgb, hgv, hb5⟩
          go_wp2_with fail
          refine (cut_any _ _ n3 n3 gs hgw hgl hgb (by omega)).mono ?_
          rintro e w5' ⟨n5, hn5, rfl, hcv5, hct5, rfl⟩
          obtain ⟨vs, hvs⟩ : ∃ vs, vs = gs.take n5 := ⟨_, rfl⟩
          have hvl : vs.length = n5 := by rw [hvs, List.length_take]; omega
          have hvw := hgw.take n5
          have hvb := hgb.take n5
          rw [← hvs] at hcv5 hct5 hvw hvb
          have hvv : val2 vs + val2 ys = xs.getD j 0 + 2 * val2 rs := by rw [hcv5, hgv, ← HU.out]; omega
          have hb35 := below_trans hb3 hb5
          have hsz3 := hb3.size
          have hDB2 := hDB.one hbx hb35 hvw (by rintro b off e; cases e; omega) hvb hct5 hvv
          have hR5 := hDB.1.below hb35 hDB.1.lt
          have hcell : w5.cell? ⟨w2.heap.size, j, none⟩ = some (.int .u8 0) := by
            rw [hR5.cell, List.getElem?_map, List.getElem?_append_left (by simp), List.getElem?_replicate, if_pos (by omega)]
            rfl
          have hfro := hR5.frozen j
          have hjN : j < N := by omega
          have HL := Lib.hid hvl
          clear hDB how huw hyw3 hlt hvs hcv5 hgv hgw hR5 hvv hvl hul
          go_wp2
          go_roundw
          case rel => exact ⟨j, _, n3, vs, 1 :: ts, by omega, rfl, by rw [HL.out], hDB2⟩
          case measure => simp [intI]
end Go.Proofs.YtemlhloipjbecaaDoor
