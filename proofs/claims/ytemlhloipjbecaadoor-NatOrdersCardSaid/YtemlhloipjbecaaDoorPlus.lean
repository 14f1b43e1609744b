/- The sum of two rows, and room for more digits, walked. -/
import Derived.Test.YtemlhloipjbecaaDoorApp
import Derived.Test.YtemlhloipjbecaaDoorDigit
namespace Go.Proofs.YtemlhloipjbecaaDoor
open Go.RowKit Go.Shelf

/-- append(d, x) in a walk. -/
theorem wpList_append_digit {w : World} {ops : Array Oper} {rest : List Oper} {o : Oper} {a : Act} {Q : Exit → Act → World → Prop} (hgd : o.guard = none) (s y : Operand)
    (ho : o.op = .call { callee := .builtin .append, args := #[s, y], argTypes := #[54, 54] })
    (g cap : Nat) (ds : List Nat) (n : Nat) (hs : a.eval s = .slice (some ⟨g, 0, none⟩) n cap) (hn : ds.length = n) (h : Own64 w g cap ds) (b : Addr) (x c : Nat) (hy : a.eval y = .slice (some b) 1 c)
    (hx : ∀ j u, [dg x][j]? = some u → w.cell? (b.add j) = some u) (hmax : n ≤ 10000000000000)
    (hk : ∀ g' cap' w', Own64 w' g' cap' (ds ++ [x]) → w.grownBy w' (some g) → (g' = g ∨ g' = w.heap.size) → wpList Tryd.prog ops Q rest (a.put o.dst (.slice (some ⟨g', 0, none⟩) (n + 1) cap')) w') : wpList Tryd.prog ops Q (o :: rest) a w := by
  refine wpList_plain hgd fun K hK => ?_
  obtain ⟨g', cap', w', hr, h2, h3, h4⟩ := run_append_digit w o.type g cap ds n hn h b x c hx hmax
  unfold Oper.wp execOp
  simp only [ho, resolve, invoke, builtin, Sem.run_bind, Sem.run_pure, Result.andThen_ok, List.map_toArray, List.map_cons, List.map_nil, hs, hy, hr]
  exact hK _ _ (hk g' cap' w' h2 h3 h4)
def lenP : Value → Nat | .slice _ n _ => n | _ => 0
theorem one_digit (w : World) (x : Nat) : ∀ j u, [dg x][j]? = some u → (w.alloc (.cells #[.int .u64 (x : Int)] 22)).cell? ((⟨w.heap.size, 0, none⟩ : Addr).add j) = some u := by
  intro j u hj
  have h := (Rw.new w 22 [dg x]).cell j
  rw [addr_add0]
  exact h.trans hj

/-- Only block g, and what is new, has turned. -/
theorem grown_new {a b c : World} {g g1 : Nat} (h : a.grownBy b (some g)) (k : b.grownBy c (some g1)) (hg : g1 = g ∨ a.heap.size ≤ g1) : a.grownBy c (some g) :=
  ⟨k.os.trans h.os, k.tape.trans h.tape, k.output.trans h.output, Nat.le_trans h.size k.size, fun i hi hne =>
    (k.block i (Nat.lt_of_lt_of_le hi h.size) (by simp at hne ⊢; omega)).trans (h.block i hi hne)⟩
/-- Between the rounds of plus. -/
def PL (w wr : World) (g m : Nat) (ds : List Nat) (g1 cap1 : Nat) (ds1 : List Nat) : Prop :=
  Own64 wr g1 cap1 ds1 ∧ w.grownBy wr (some g) ∧ (g1 = g ∨ w.heap.size ≤ g1) ∧ Dig ds1 ∧ val ds1 = val ds ∧ ds1.length ≤ max ds.length m

set_option maxRecDepth 100000 in
set_option maxHeartbeats 800000 in
theorem plus_any (w : World) (g cap n xb m xc : Nat) (ds xs : List Nat) (hd : Own64 w g cap ds) (hn : ds.length = n) (hx : Ds w xb 0 xs) (hxl : xs.length = m) (hne : xb ≠ g) (hxb : xb < w.heap.size) (hdd : Dig ds) (hdx : Dig xs) (hmax : n ≤ 100000000000) (hmax2 : m ≤ 100000000000) :
    Calls Tryd.prog 51 #[.slice (some ⟨g, 0, none⟩) n cap, .slice (some ⟨xb, 0, none⟩) m xc] w
      fun e w' => ∃ g' cap' es, e = .returned (.slice (some ⟨g', 0, none⟩) es.length cap') ∧ Own64 w' g' cap' es ∧ w.grownBy w' (some g) ∧ (g' = g ∨ w.heap.size ≤ g') ∧ Dig es ∧ val es = val ds + val xs ∧ es.length ≤ max n m + 1 := by
  have hP : PL w w g m ds g cap ds := ⟨hd, World.grownBy.refl w _, .inl rfl, hdd, rfl, by omega⟩
  have HX := Lib.hid (And.intro hxl hx); clear hxl hx
  subst hn
  go_enter Tryd.func51, Tryd.ntmps51
  go_wp2
  go_loopw [0] (fun v wr => ∃ (g1 cap1 : Nat) (ds1 : List Nat), v = .slice (some ⟨g1, 0, none⟩) ds1.length cap1 ∧ PL w wr g m ds g1 cap1 ds1)
    (fun v _ => m - lenP v)
  case atStart => exact ⟨g, cap, ds, rfl, hP⟩
  case round =>
    clear hP
    obtain ⟨g1, cap1, ds1, rfl, hP⟩ := hrel
    obtain ⟨p1, p2, p3, p4, p5, p6⟩ := hP
    have P5 := Lib.hid p5; clear p5
    have hne1 : xb ≠ g1 := by rcases p3 with h | h <;> omega
    by_cases hlt : ds1.length < m
    · go_wp2_with (first
        | (at_builtin; refine wpList_append_digit rfl (.tmp 10) (.tmp 11) rfl g1 cap1 ds1 ds1.length rfl rfl (p1.alloc _) ⟨wr.heap.size, 0, none⟩ 0 1 rfl (one_digit wr 0) (by omega) ?_))
      intro g2 cap2 w2 hO2 hg2 ha2
      have hsz := p2.size
      have hP2 : PL w w2 g m ds g2 cap2 (ds1 ++ [0]) := by
        refine ⟨hO2, grown_new p2 (grown_trans (World.grownBy_alloc wr _ (some g1)) hg2) p3, ?_, p4.snoc B64_pos, by rw [val_snoc, Nat.mul_zero, Nat.add_zero]; exact P5.out, by simp; omega⟩
        rcases ha2 with h | h
        · rw [h]; exact p3
        · omega
      clear hO2 hg2 ha2
      go_wp2
      go_roundw
      case rel => exact ⟨g2, cap2, ds1 ++ [0], by simp, hP2⟩
      case measure => simp [lenP]; omega
    · have hle : m ≤ ds1.length := by omega
      have hpre : ([] : List Value).length = 0 := rfl
      obtain ⟨T, post, hR, hcp, hcm⟩ := p1.parts
      have hxw : Ds wr xb 0 xs := HX.out.2.grown p2 (by simpa using hne)
      have HCP := Lib.hid hcp; clear hcp
      go_wp2_with fail
      refine (plusTimes_at (n := 1) rfl HX.out.1 hR rfl hxw hne1 p4 hdx (by unfold B64; omega) (by rw [HX.out.1]; omega) (by omega)).mono ?_
      rintro e w2 ⟨es, o, rfl, hR2, hg2, hel, hed, ho, hval⟩
      rw [Nat.one_mul, P5.out] at hval
      have hO2 : Own64 w2 g1 cap1 es := Own64.of_parts hR2 (by rw [hel, HCP.out]) hcm
      have hgg := grown_new p2 hg2 p3
      have HE := Lib.hid (And.intro hel hval); clear hel hval
      by_cases ho0 : o = 0
      · subst ho0
        go_wp2
        go_ret
        exact ⟨g1, cap1, es, by rw [HE.out.1]; rfl, hO2, hgg, p3, hed, by have := HE.out.2; simpa using this, by rw [HE.out.1]; omega⟩
      · have tno : ((o : Int) != 0) = true := by rw [bne_iff_ne]; omega
        have ho1 : o = 1 := by
          have h1 := val_lt hed
          have h2 := HE.out.2
          have h3 := val_lt p4
          have h4 := val_lt hdx
          rw [P5.out] at h3
          rw [HX.out.1] at h4
          have h5 : B64 ^ m ≤ B64 ^ ds1.length := Nat.pow_le_pow_right B64_pos hle
          rcases Nat.lt_or_ge o 2 with h | h
          · omega
          · have : B64 ^ ds1.length * 2 ≤ B64 ^ ds1.length * o := Nat.mul_le_mul_left _ h
            omega
        have hel := HE.out.1
        have hne2 : es.length = ds1.length := hel
        clear hel
        have HN := Lib.hid hne2; clear hne2
        go_wp2_with (first
          | (at_builtin; refine wpList_append_digit rfl (.tmp 17) (.tmp 18) rfl g1 cap1 es ds1.length rfl HN.out (hO2.alloc _) ⟨w2.heap.size, 0, none⟩ 1 1 rfl (one_digit w2 1) (by omega) ?_))
        intro g3 cap3 w3 hO3 hg3 ha3
        have hsz := hgg.size
        have hg4 := grown_new hgg (grown_trans (World.grownBy_alloc w2 _ (some g1)) hg3) p3
        have hP3 : g3 = g ∨ w.heap.size ≤ g3 := by
          rcases ha3 with h | h
          · rw [h]; exact p3
          · omega
        clear hg3 ha3
        go_wp2
        go_ret
        refine ⟨g3, cap3, es ++ [1], by rw [List.length_append, HN.out]; rfl, hO3, hg4, hP3, hed.snoc (by unfold B64; omega), ?_, by rw [List.length_append, HN.out]; simp; omega⟩
        rw [val_snoc, HN.out]
        have := HE.out.2
        rw [ho1] at this
        exact this

end Go.Proofs.YtemlhloipjbecaaDoor
