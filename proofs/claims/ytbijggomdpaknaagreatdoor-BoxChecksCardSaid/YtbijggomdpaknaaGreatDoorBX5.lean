/- Package box: Corner, Place; walked. -/
import Derived.Test.YtbijggomdpaknaaGreatDoorBX3
import Derived.Deep.CutBlock
namespace Go.Proofs.YtbijggomdpaknaaGreatDoor
open Go.RowKit Go.Shelf

theorem cell_keep {w w' : World} {p : Addr} {v : Value} (hq : Below w.heap.size w w') (h : w.cell? p = some v) : w'.cell? p = some v := by
  rw [hq.cell (World.block_lt_of_cell? w _ h)]
  exact h
theorem goes_bcorner1 (aa : Array Value) (W : World) : Sem.run Tryz.prog (callFunc 59 aa) W = .ok (.enter 59 aa) W := by kernel_rfl
theorem goes_bplace1 (aa : Array Value) (W : World) : Sem.run Tryz.prog (callFunc 60 aa) W = .ok (.enter 60 aa) W := by kernel_rfl
theorem and_bit (k i : Nat) (h : k < 9223372036854775808) : bits BinOp.and IntKind.i64 ((k : Int) / 2 ^ i) 1 = ((k / 2 ^ i % 2 : Nat) : Int) := by
  have h2 : k / 2 ^ i < 9223372036854775808 := Nat.lt_of_le_of_lt (Nat.div_le_self _ _) h
  have h3 : ((k : Int) / 2 ^ i) = ((k / 2 ^ i : Nat) : Int) := by rw [Int.natCast_ediv, Int.natCast_pow]; rfl
  have h1 : (BitVec.ofInt 64 1).toNat = 2 ^ 1 - 1 := by decide
  rw [h3]
  generalize k / 2 ^ i = m at *
  have key : (BitVec.ofInt 64 (m : Int) &&& BitVec.ofInt 64 1).toNat = ((m : Int) % ((2 ^ 64 : Nat) : Int)).toNat % 2 ^ 1 := by
    rw [BitVec.toNat_and, BitVec.toNat_ofInt, h1, Nat.and_two_pow_sub_one_eq_mod]
  show IntKind.i64.wrap ((BitVec.ofInt 64 (m : Int) &&& BitVec.ofInt 64 1).toNat : Nat) = _
  rw [key, IntKind.wrap_i64]
  omega
/-- Is bit i of k set? (Of 62 bits.) -/
def bitB (k i : Nat) : Bool := decide (i < 62) && decide (k / 2 ^ i % 2 = 1)
def cornN (k i : Nat) (x : SV) : NV := if bitB k i then x.2 else x.1
set_option maxRecDepth 100000 in
set_option maxHeartbeats 3200000 in
theorem bcorner1_any (w : World) (i k : Nat) (hi : i ≤ 1000) (hk : k < 9223372036854775808) (x : SV) (P : Nat) (hP : w.cell? ⟨P, 0, none⟩ = some (.int .i64 k)) :
    Calls Tryz.prog 59 (#[.int .i64 i, sagg x] ++ #[.pointer (some ⟨P, 0, none⟩)]) w (Ret (nagg (cornN k i x)) w) := by
  obtain ⟨⟨m, s, d⟩, n, t, e⟩ := x
  have hPl := World.block_lt_of_cell? w _ hP
  show Calls Tryz.prog 59 #[.int .i64 i, .agg #[.bool m, .string s, .int .i64 d, .bool n, .string t, .int .i64 e], .pointer (some ⟨P, 0, none⟩)] w (Ret (nagg (cornN k i ((m, s, d), n, t, e))) w)
  go_enter Tryz.func59, Tryz.ntmps59
  have hA := Sk.new w 41 m s d n t e
  have hb := (Below.refl w.heap.size w).alloc (Nat.le_refl _) (Obj.cells #[Value.bool m, Value.string s, Value.int IntKind.i64 d, Value.bool n, Value.string t, Value.int IntKind.i64 e] 41)
  have hR := Nk.new ((w.alloc (Obj.cells #[Value.bool m, Value.string s, Value.int IntKind.i64 d, Value.bool n, Value.string t, Value.int IntKind.i64 e] 41))) false ⟨#[]⟩ 0
  simp only [World.size_alloc] at hR
  replace hA := hA.alloc (Obj.cells #[Value.bool false, Value.string { data := #[] }, Value.int IntKind.i64 0] 36)
  replace hb := hb.alloc hb.size (Obj.cells #[Value.bool false, Value.string { data := #[] }, Value.int IntKind.i64 0] 36)
  replace hP := cell_keep hb hP
  go_upto_region 1 with fail
  generalize ((w.alloc (Obj.cells #[Value.bool m, Value.string s, Value.int IntKind.i64 d, Value.bool n, Value.string t, Value.int IntKind.i64 e] 41)).alloc (Obj.cells #[Value.bool false, Value.string { data := #[] }, Value.int IntKind.i64 0] 36)) = W0 at *
  obtain ⟨A0, A1, A2, A3, A4, A5⟩ := hA.cells
  obtain ⟨hR0, hR1, hR2, hR3, hR4, hR5⟩ := hR.facts
  by_cases h62 : i < 62
  · have hi0 : (0 : Int) ≤ (i : Int) := by omega
    have h62' : (i : Int) < 62 := by omega
    have hbit := and_bit k i hk
    by_cases h1 : k / 2 ^ i % 2 = 1
    · have hv : cornN k i ((m, s, d), n, t, e) = (n, t, e) := by unfold cornN bitB; rw [decide_eq_true h62, decide_eq_true h1]; rfl
      replace hv := Lib.hid hv
      rw [h1] at hbit
      clear h1
      have hbit2 : bits BinOp.and IntKind.i64 ((k : Int) / 2 ^ i) 1 = 1 := hbit
      clear hbit
      go_wp2
      exact ret_num rfl rfl (hR.set3 _ _ _) ⟨by rw [hv.out]; rfl, below_set3 hb (by omega) _ _ _ _ _ _⟩
    · have hv : cornN k i ((m, s, d), n, t, e) = (m, s, d) := by unfold cornN bitB; rw [decide_eq_false h1]; cases decide (i < 62) <;> rfl
      replace hv := Lib.hid hv
      have h2 : k / 2 ^ i % 2 = 0 := by omega
      rw [h2] at hbit
      have hbit2 : bits BinOp.and IntKind.i64 ((k : Int) / 2 ^ i) 1 = 0 := hbit
      clear hbit h1 h2
      go_wp2
      exact ret_num rfl rfl (hR.set3 _ _ _) ⟨by rw [hv.out]; rfl, below_set3 hb (by omega) _ _ _ _ _ _⟩
  · have h62' : ¬(i : Int) < 62 := by omega
    have hv : cornN k i ((m, s, d), n, t, e) = (m, s, d) := by unfold cornN bitB; rw [decide_eq_false h62]; rfl
    replace hv := Lib.hid hv
    go_wp2
    exact ret_num rfl rfl (hR.set3 _ _ _) ⟨by rw [hv.out]; rfl, below_set3 hb (by omega) _ _ _ _ _ _⟩

set_option maxRecDepth 100000 in
set_option maxHeartbeats 1600000 in
theorem bcorner_any (w : World) (ad : Option Addr) (l : List SV) (n c : Nat) (hn : l.length = n) (hmax : n ≤ 1000) (hl : SAt w ad l) (hs : ∀ x ∈ l, O2 x) (z : Int) (hz : z < 9223372036854775808) :
    Calls Tryz.prog 26 #[.slice ad n c, .int .i64 z] w (RowN w ((l.zipIdx).map fun x => cornN z.toNat x.2 (fS x.1)) n) := by
  have hP := Rw.new w 3 [.int .i64 z]
  have hb := (Below.refl w.heap.size w).alloc (Nat.le_refl _) (Obj.cells #[Value.int IntKind.i64 z] 3)
  go_enter Tryz.func26, Tryz.ntmps26
  go_upto_region 1 with fail
  have hl2 := hl.alloc (Obj.cells #[Value.int IntKind.i64 z] 3)
  generalize (w.alloc (Obj.cells #[Value.int IntKind.i64 z] 3)) = W0 at *
  obtain ⟨P0, F0⟩ : W0.cell? ⟨w.heap.size, 0, none⟩ = some (.int .i64 z) ∧ W0.frozen? ⟨w.heap.size, 0, none⟩ = false := ⟨hP.cell 0, hP.frozen 0⟩
  go_upto_region 2 with fail
  obtain ⟨k, hk⟩ : ∃ k : Nat, z.toNat = k := ⟨_, rfl⟩
  rw [show max z 0 = (k : Int) by omega]
  clear P0 F0
  replace hb := hb.setCell (p := ⟨w.heap.size, 0, none⟩) (Nat.le_refl _) (.int .i64 (k : Int))
  replace hP := hP.set_ 0 (.int .i64 (k : Int))
  generalize (W0.setCell ⟨w.heap.size, 0, none⟩ (.int .i64 (k : Int))) = W1 at *
  have hc := eachN_any W1 59 #[.pointer (some ⟨w.heap.size, 0, none⟩)] goes_bcorner1 ad l n c hn hmax (hl.below hb) hs (l.zipIdx.map fun x => cornN k x.2 (fS x.1)) (by simp [hn]) (fun i h h2 W hq => by
    rw [List.getElem_map, List.getElem_zipIdx]
    simp only [Nat.zero_add]
    exact bcorner1_any W i k (by omega) (by omega) _ _ (cell_keep hq (hP.cell 0)))
  clear hl hl2 hs
  go_wp2_with fail
  refine hc.mono ?_
  rintro e W ⟨g, rfl, hg, hR, hq⟩
  go_wp2
  go_ret
  refine ⟨g, rfl, Nat.le_trans hb.size hg, ?_, below_next hb hq⟩
  rw [hk]; exact hR

/-- One number of a row, where it stands. -/
def El (W : World) (b o : Nat) (m : Bool) (s : ByteArray) (d : Int) : Prop := b < W.heap.size ∧ W.cell? ⟨b, o, none⟩ = some (.bool m) ∧ W.cell? ⟨b, o + 1, none⟩ = some (.string s) ∧ W.cell? ⟨b, o + 2, none⟩ = some (.int .i64 d)
section
variable {W W' : World} {b o : Nat} {m : Bool} {s : ByteArray} {d : Int}
theorem El.lt (h : El W b o m s d) : b < W.heap.size := h.1
theorem El.below (h : El W b o m s d) (hq : Below W.heap.size W W') : El W' b o m s d := ⟨Nat.lt_of_lt_of_le h.1 hq.size, cell_keep hq h.2.1, cell_keep hq h.2.2.1, cell_keep hq h.2.2.2⟩
theorem El.alloc (h : El W b o m s d) (x : Obj) : El (W.alloc x) b o m s d := h.below ((Below.refl _ _).alloc (Nat.le_refl _) _)
theorem El.drew (h : El W b o m s d) : El W.drew b o m s d := h
theorem El.far (h : El W b o m s d) {p : Addr} (hp : b ≠ p.block) (u : Value) : El (W.setCell p u) b o m s d := by
  have hc : ∀ k, (W.setCell p u).cell? ⟨b, k, none⟩ = W.cell? ⟨b, k, none⟩ := fun k => World.cell?_of_block (Below.heap_setCell W p u b hp)
  have hs : (W.setCell p u).heap.size = W.heap.size := World.size_setCell _ _ _
  exact ⟨by rw [hs]; exact h.1, by rw [hc]; exact h.2.1, by rw [hc]; exact h.2.2.1, by rw [hc]; exact h.2.2.2⟩
theorem El.fr {W : World} {b o : Nat} {m : Bool} {s : ByteArray} {d : Int} (h : El W b o m s d) (A k : Nat) (u : Value) (hp : b ≠ A := by omega) : El (W.setCell ⟨A, k, none⟩ u) b o m s d := h.far (p := ⟨A, k, none⟩) hp u
end
/-- The place t in a span that stands as it counts. -/
def placN (t : List NV) (i : Nat) (x : SV) : NV := if h : i < t.length then canonN (nvl x.1 + nvl t[i] * wS x) else x.1
set_option maxRecDepth 100000 in
set_option maxHeartbeats 3200000 in
theorem bplace1_any (w : World) (i : Nat) (x : SV) (P : Nat) (td : Option Addr) (tl : List NV) (n' c' : Nat) (hn' : tl.length = n') (hi : i ≤ 1000) (ht : NAt w td tl) (hP : Rw w P 25 [.slice td n' c']) {B E : Nat} (hx : GS B E x) (hs' : ∀ y ∈ tl, Gd B E y) (hB : B ≤ 100) (hE : E ≤ 1000) :
    Calls Tryz.prog 60 (#[.int .i64 i, sagg x] ++ #[.pointer (some ⟨P, 0, none⟩)]) w (Ret (nagg (placN tl i x)) w) := by
  have hw := fun W => c_width W x hx.o2.o3
  have hox := hx.o2.o3
  have hbw := hx.width
  have hb1 := hx.1.2
  obtain ⟨⟨m, s, d⟩, n, t, e⟩ := x
  have hPl := hP.lt
  show Calls Tryz.prog 60 #[.int .i64 i, .agg #[.bool m, .string s, .int .i64 d, .bool n, .string t, .int .i64 e], .pointer (some ⟨P, 0, none⟩)] w (Ret (nagg (placN tl i ((m, s, d), n, t, e))) w)
  go_enter Tryz.func60, Tryz.ntmps60
  have hA := Sk.new w 41 m s d n t e
  have hb := (Below.refl w.heap.size w).alloc (Nat.le_refl _) (Obj.cells #[Value.bool m, Value.string s, Value.int IntKind.i64 d, Value.bool n, Value.string t, Value.int IntKind.i64 e] 41)
  have hR := Nk.new ((w.alloc (Obj.cells #[Value.bool m, Value.string s, Value.int IntKind.i64 d, Value.bool n, Value.string t, Value.int IntKind.i64 e] 41))) false ⟨#[]⟩ 0
  simp only [World.size_alloc] at hR
  replace hA := hA.alloc (Obj.cells #[Value.bool false, Value.string { data := #[] }, Value.int IntKind.i64 0] 36)
  replace hb := hb.alloc hb.size (Obj.cells #[Value.bool false, Value.string { data := #[] }, Value.int IntKind.i64 0] 36)
  replace hP := hP.below hb hPl
  go_upto_region 1 with fail
  generalize ((w.alloc (Obj.cells #[Value.bool m, Value.string s, Value.int IntKind.i64 d, Value.bool n, Value.string t, Value.int IntKind.i64 e] 41)).alloc (Obj.cells #[Value.bool false, Value.string { data := #[] }, Value.int IntKind.i64 0] 36)) = W0 at *
  by_cases hin : i < n'
  · have hi2 : ¬(n' : Int) ≤ i := by omega
    have hil : i < tl.length := by omega
    obtain ⟨kb, ko, rfl, hkb, b0, b1, b2⟩ := ht i hil
    have hT : El w kb (ko + i * 3) tl[i].1 tl[i].2.1 tl[i].2.2 := ⟨hkb, b0, b1, b2⟩
    replace hT := hT.below hb
    clear b0 b1 b2 ht
    have hty := hs' _ (List.getElem_mem hil)
    have hv : placN tl i ((m, s, d), n, t, e) = canonN (nv m s d + nvl tl[i] * wS ((m, s, d), n, t, e)) := by unfold placN; rw [dif_pos hil]; rfl
    generalize tl[i] = y at *
    have hmul : Bnd (nvl y * wS ((m, s, d), n, t, e)) (B + (B + 1)) (E + E) := hty.2.mul hbw
    have hok1 : Ok3 (canonN (wS ((m, s, d), n, t, e))).2.1 (canonN (wS ((m, s, d), n, t, e))).2.2 := by have := hbw.canon; unfold Ok3; omega
    have hok2 : Ok3 (canonN (nvl y * wS ((m, s, d), n, t, e))).2.1 (canonN (nvl y * wS ((m, s, d), n, t, e))).2.2 := by have := hmul.canon; unfold Ok3; omega
    have hok3 : Ok3 y.2.1 y.2.2 := hty.1.ok3
    have v1 := nvl_canon (wS ((m, s, d), n, t, e))
    have v2 := nvl_canon (nvl y * wS ((m, s, d), n, t, e))
    have d2 := canonN_df (nvl y * wS ((m, s, d), n, t, e))
    have d3 := canonN_df (nv m s d + nvl y * wS ((m, s, d), n, t, e))
    generalize canonN (nv m s d + nvl y * wS ((m, s, d), n, t, e)) = y3 at *
    generalize canonN (nvl y * wS ((m, s, d), n, t, e)) = y2 at *
    generalize canonN (wS ((m, s, d), n, t, e)) = y1 at *
    rw [← v2] at d3
    rw [← v1] at d2
    clear v1 v2 hmul hbw hb1 hx hs' hty
    obtain ⟨my, sy, dy⟩ := y
    obtain ⟨ma, sa, da⟩ := y1
    obtain ⟨mb, sb, db⟩ := y2
    obtain ⟨mc, sc, dc⟩ := y3
    replace hw : ∀ W, Calls Tryz.prog 62 #[.agg #[.bool m, .string s, .int .i64 d, .bool n, .string t, .int .i64 e]] W (Ret (.agg #[.bool ma, .string sa, .int .i64 da]) W) := hw
    have HC := Lib.hid (And.intro hw (And.intro hok1 (And.intro hok2 (And.intro hok3 (And.intro d2 (And.intro d3 (And.intro hox hv)))))))
    clear hw hok1 hok2 hok3 d2 d3 hox hv
    simp only at hT
    have hi0 : (0 : Int) ≤ (i : Int) := by omega
    have hi3 : (i : Int) < n' := by omega
    have hkw : kb < w.heap.size := hkb
    have hPf := hP.cell 0
    simp only [List.getElem?_cons_zero] at hPf
    go_upto_region 3 with fail
    clear hPf
    -- REG
    refine region_segs (n := 13) #[false, false, false, false, false, false, false, false, false, false, false, false, false] (by kernel_rfl) (by kernel_rfl) (by kernel_rfl) ?_
    intro fu hf
    refine lin_seg 13 [0, 1, 2, 3, 4, 5, 6, 7, 8, 9, 10, 11] 11 (fun L ac Wn => ∃ l0 l1 l2 l3 l4 l5 l6 l7 l8 l9 l10 : Bool, L = #[l0, l1, l2, l3, l4, l5, l6, l7, l8, l9, l10, false, false] ∧ ∃ g20 g22 : Nat, ac = { tmps := #[.int .i64 ↑i, .agg #[.bool m, .string s, .int .i64 d, .bool n, .string t, .int .i64 e], .pointer (some ⟨P, 0, none⟩), undef, .pointer (some ⟨w.heap.size, 0, none⟩), .pointer (some ⟨w.heap.size + 1, 0, none⟩), .int .i64 ↑i, .slice (some { block := kb, off := ko }) n' c', .int .i64 ↑n', .bool false, undef, undef, sel l0 (.pointer (some ⟨w.heap.size, 0, none⟩)) (undef), sel l1 (.agg #[.bool m, .string s, .int .i64 d]) (undef), sel l2 (.slice (some { block := kb, off := ko }) n' c') (undef), sel l3 (.int .i64 ↑i) (undef), sel l4 (.pointer (some { block := kb, off := ko + i * 3 })) (undef), sel l5 (.agg #[.bool my, .string sy, .int .i64 dy]) (undef), sel l6 (.agg #[.bool m, .string s, .int .i64 d, .bool n, .string t, .int .i64 e]) (undef), sel l7 (.agg #[.bool ma, .string sa, .int .i64 da]) (undef), sel l8 (.slice (some ⟨g20, 0, none⟩) 2 2) (undef), sel l9 (.agg #[.bool mb, .string sb, .int .i64 db]) (undef), sel l10 (.slice (some ⟨g22, 0, none⟩) 2 2) (undef), undef], defers := [] } ∧ Below (w.heap.size) w Wn ∧ (Sk Wn (w.heap.size) 41 m s d n t e) ∧ (Nk Wn (w.heap.size + 1) false ⟨#[]⟩ 0) ∧ (Rw Wn P 25 [.slice (some { block := kb, off := ko }) n' c']) ∧ (El Wn kb (ko + i * 3) my sy dy) ∧ (On l8 → Off l9 → NAt Wn (some ⟨g20, 0, none⟩) [(my, sy, dy), (ma, sa, da)]) ∧ (On l10 → NAt Wn (some ⟨g22, 0, none⟩) [(m, s, d), (mb, sb, db)])) (by kernel_rfl) (by kernel_rfl) (by kernel_rfl) (by kernel_rfl) hf ?_ ?_ ?_ (by kernel_rfl) ?_ (by decide)
    · exact ⟨false, false, false, false, false, false, false, false, false, false, false, by kernel_rfl, 0, 0, by kernel_rfl, hb.drew, hA.drew, hR.drew, hP.drew, hT.drew, (fun h _ => not_ft h), (fun h => not_ft h)⟩
    · rintro L ac Wn ⟨l0, l1, l2, l3, l4, l5, l6, l7, l8, l9, l10, rfl, _⟩
      kernel_rfl
    · refine (seg_all (b := 11) [0, 1, 2, 3, 4, 5, 6, 7, 8, 9, 10] ?_ : ∀ j ∈ [0, 1, 2, 3, 4, 5, 6, 7, 8, 9, 10, 11], j ≠ 11 → _)
      refine lin_cons [] [1, 10] rfl (by kernel_rfl) (by kernel_rfl) ?_ ?_
      · intro L ac Wn hI hi hds hus Kc hK
        obtain ⟨l0, l1, l2, l3, l4, l5, l6, l7, l8, l9, l10, rfl, hI⟩ := hI
        obtain rfl : l0 = false := hi
        obtain ⟨rfl, rfl, -⟩ : l1 = false ∧ l10 = false ∧ True := hus
        simp only [sel_f] at hI
        obtain ⟨g20, g22, rfl, hb, hA, hR, hP, hT, hW8, hW10⟩ := hI
        refine lin_yield (.pointer (some ⟨w.heap.size, 0, none⟩)) rfl (by go_simp; first | done | with_reducible rfl | assumption) ?_
        exact hK.out _ _ ⟨true, false, l2, l3, l4, l5, l6, l7, l8, l9, false, by kernel_rfl, g20, g22, by kernel_rfl, hb, (hA), (hR), (hP), (hT), (fun z0 z1 => (hW8 z0 z1)), (fun h => not_ft h)⟩
      refine lin_cons [0] [10] rfl (by kernel_rfl) (by kernel_rfl) ?_ ?_
      · intro L ac Wn hI hi hds hus Kc hK
        obtain ⟨l0, l1, l2, l3, l4, l5, l6, l7, l8, l9, l10, rfl, hI⟩ := hI
        obtain rfl : l1 = false := hi
        obtain ⟨rfl, -⟩ : l0 = true ∧ True := hds
        obtain ⟨rfl, -⟩ : l10 = false ∧ True := hus
        simp only [sel_t, sel_f] at hI
        obtain ⟨g20, g22, rfl, hb, hA, hR, hP, hT, hW8, hW10⟩ := hI
        obtain ⟨q0, q1, q2, q3, q4, q5, q6, q7, q8, q9, q10, q11⟩ := (hA).facts
        refine lin_yield (.agg #[.bool m, .string s, .int .i64 d]) rfl (by go_simp; first | done | with_reducible rfl | assumption) ?_
        exact hK.out _ _ ⟨true, true, l2, l3, l4, l5, l6, l7, l8, l9, false, by kernel_rfl, g20, g22, by kernel_rfl, hb, (hA), (hR), (hP), (hT), (fun z0 z1 => (hW8 z0 z1)), (fun h => not_ft h)⟩
      refine lin_cons [] [4, 5, 8, 9, 10] rfl (by kernel_rfl) (by kernel_rfl) ?_ ?_
      · intro L ac Wn hI hi hds hus Kc hK
        obtain ⟨l0, l1, l2, l3, l4, l5, l6, l7, l8, l9, l10, rfl, hI⟩ := hI
        obtain rfl : l2 = false := hi
        obtain ⟨rfl, rfl, rfl, rfl, rfl, -⟩ : l4 = false ∧ l5 = false ∧ l8 = false ∧ l9 = false ∧ l10 = false ∧ True := hus
        simp only [sel_f] at hI
        obtain ⟨g20, g22, rfl, hb, hA, hR, hP, hT, hW8, hW10⟩ := hI
        have q0 := (hP).cell 0
        have f0 := (hP).frozen 0
        simp only [List.getElem?_cons_zero] at q0
        refine lin_yield (.slice (some { block := kb, off := ko }) n' c') rfl (by go_simp; first | done | with_reducible rfl | assumption) ?_
        exact hK.out _ _ ⟨l0, l1, true, l3, false, false, l6, l7, false, false, false, by kernel_rfl, g20, g22, by kernel_rfl, hb, (hA), (hR), (hP), (hT), (fun h _ => not_ft h), (fun h => not_ft h)⟩
      refine lin_cons [] [4, 5, 8, 9, 10] rfl (by kernel_rfl) (by kernel_rfl) ?_ ?_
      · intro L ac Wn hI hi hds hus Kc hK
        obtain ⟨l0, l1, l2, l3, l4, l5, l6, l7, l8, l9, l10, rfl, hI⟩ := hI
        obtain rfl : l3 = false := hi
        obtain ⟨rfl, rfl, rfl, rfl, rfl, -⟩ : l4 = false ∧ l5 = false ∧ l8 = false ∧ l9 = false ∧ l10 = false ∧ True := hus
        simp only [sel_f] at hI
        obtain ⟨g20, g22, rfl, hb, hA, hR, hP, hT, hW8, hW10⟩ := hI
        refine lin_yield (.int .i64 ↑i) rfl (by go_simp; first | done | with_reducible rfl | assumption) ?_
        exact hK.out _ _ ⟨l0, l1, l2, true, false, false, l6, l7, false, false, false, by kernel_rfl, g20, g22, by kernel_rfl, hb, (hA), (hR), (hP), (hT), (fun h _ => not_ft h), (fun h => not_ft h)⟩
      refine lin_cons [2, 3] [5, 8, 9, 10] rfl (by kernel_rfl) (by kernel_rfl) ?_ ?_
      · intro L ac Wn hI hi hds hus Kc hK
        obtain ⟨l0, l1, l2, l3, l4, l5, l6, l7, l8, l9, l10, rfl, hI⟩ := hI
        obtain rfl : l4 = false := hi
        obtain ⟨rfl, rfl, -⟩ : l2 = true ∧ l3 = true ∧ True := hds
        obtain ⟨rfl, rfl, rfl, rfl, -⟩ : l5 = false ∧ l8 = false ∧ l9 = false ∧ l10 = false ∧ True := hus
        simp only [sel_t, sel_f] at hI
        obtain ⟨g20, g22, rfl, hb, hA, hR, hP, hT, hW8, hW10⟩ := hI
        refine lin_yield (.pointer (some { block := kb, off := ko + i * 3 })) rfl (by go_simp; first | done | with_reducible rfl | assumption) ?_
        exact hK.out _ _ ⟨l0, l1, true, true, true, false, l6, l7, false, false, false, by kernel_rfl, g20, g22, by kernel_rfl, hb, (hA), (hR), (hP), (hT), (fun h _ => not_ft h), (fun h => not_ft h)⟩
      refine lin_cons [2, 3, 4] [8, 9, 10] rfl (by kernel_rfl) (by kernel_rfl) ?_ ?_
      · intro L ac Wn hI hi hds hus Kc hK
        obtain ⟨l0, l1, l2, l3, l4, l5, l6, l7, l8, l9, l10, rfl, hI⟩ := hI
        obtain rfl : l5 = false := hi
        obtain ⟨rfl, rfl, rfl, -⟩ : l2 = true ∧ l3 = true ∧ l4 = true ∧ True := hds
        obtain ⟨rfl, rfl, rfl, -⟩ : l8 = false ∧ l9 = false ∧ l10 = false ∧ True := hus
        simp only [sel_t, sel_f] at hI
        obtain ⟨g20, g22, rfl, hb, hA, hR, hP, hT, hW8, hW10⟩ := hI
        have ⟨_, e0, e1, e2⟩ := hT
        refine lin_yield (.agg #[.bool my, .string sy, .int .i64 dy]) rfl (by go_simp; first | done | with_reducible rfl | assumption) ?_
        exact hK.out _ _ ⟨l0, l1, true, true, true, true, l6, l7, false, false, false, by kernel_rfl, g20, g22, by kernel_rfl, hb, (hA), (hR), (hP), (hT), (fun h _ => not_ft h), (fun h => not_ft h)⟩
      refine lin_cons [] [7, 8, 9, 10] rfl (by kernel_rfl) (by kernel_rfl) ?_ ?_
      · intro L ac Wn hI hi hds hus Kc hK
        obtain ⟨l0, l1, l2, l3, l4, l5, l6, l7, l8, l9, l10, rfl, hI⟩ := hI
        obtain rfl : l6 = false := hi
        obtain ⟨rfl, rfl, rfl, rfl, -⟩ : l7 = false ∧ l8 = false ∧ l9 = false ∧ l10 = false ∧ True := hus
        simp only [sel_f] at hI
        obtain ⟨g20, g22, rfl, hb, hA, hR, hP, hT, hW8, hW10⟩ := hI
        obtain ⟨q0, q1, q2, q3, q4, q5, q6, q7, q8, q9, q10, q11⟩ := (hA).facts
        refine lin_yield (.agg #[.bool m, .string s, .int .i64 d, .bool n, .string t, .int .i64 e]) rfl (by go_simp; first | done | with_reducible rfl | assumption) ?_
        exact hK.out _ _ ⟨l0, l1, l2, l3, l4, l5, true, false, false, false, false, by kernel_rfl, g20, g22, by kernel_rfl, hb, (hA), (hR), (hP), (hT), (fun h _ => not_ft h), (fun h => not_ft h)⟩
      refine lin_cons [6] [8, 9, 10] rfl (by kernel_rfl) (by kernel_rfl) ?_ ?_
      · intro L ac Wn hI hi hds hus Kc hK
        obtain ⟨l0, l1, l2, l3, l4, l5, l6, l7, l8, l9, l10, rfl, hI⟩ := hI
        obtain rfl : l7 = false := hi
        obtain ⟨rfl, -⟩ : l6 = true ∧ True := hds
        obtain ⟨rfl, rfl, rfl, -⟩ : l8 = false ∧ l9 = false ∧ l10 = false ∧ True := hus
        simp only [sel_t, sel_f] at hI
        obtain ⟨g20, g22, rfl, hb, hA, hR, hP, hT, hW8, hW10⟩ := hI
        go_simp
        go_fit (HC.out.1 _)
        rintro e V ⟨rfl, hq⟩
        exact hK.out _ _ ⟨l0, l1, l2, l3, l4, l5, true, true, false, false, false, by kernel_rfl, g20, g22, by kernel_rfl, (below_next hb hq), (hA.below hq), (hR.below hq), (hP.below hq (hP).lt), (hT.below hq), (fun h _ => not_ft h), (fun h => not_ft h)⟩
      refine lin_cons [2, 3, 4, 5, 6, 7] [9, 10] rfl (by kernel_rfl) (by kernel_rfl) ?_ ?_
      · intro L ac Wn hI hi hds hus Kc hK
        obtain ⟨l0, l1, l2, l3, l4, l5, l6, l7, l8, l9, l10, rfl, hI⟩ := hI
        obtain rfl : l8 = false := hi
        obtain ⟨rfl, rfl, rfl, rfl, rfl, rfl, -⟩ : l2 = true ∧ l3 = true ∧ l4 = true ∧ l5 = true ∧ l6 = true ∧ l7 = true ∧ True := hds
        obtain ⟨rfl, rfl, -⟩ : l9 = false ∧ l10 = false ∧ True := hus
        simp only [sel_t, sel_f] at hI
        obtain ⟨g20, g22, rfl, hb, hA, hR, hP, hT, hW8, hW10⟩ := hI
        go_simp
        exact hK.out _ _ ⟨l0, l1, true, true, true, true, true, true, true, false, false, by kernel_rfl, _, g22, by kernel_rfl, (hb.alloc hb.size _), (hA.alloc _), (hR.alloc _), (hP.alloc _), (hT.alloc _), (fun _ _ => NAt.new _ _ _ _ rfl), (fun h => not_ft h)⟩
      refine lin_cons [2, 3, 4, 5, 6, 7, 8] [10] rfl (by kernel_rfl) (by kernel_rfl) ?_ ?_
      · intro L ac Wn hI hi hds hus Kc hK
        obtain ⟨l0, l1, l2, l3, l4, l5, l6, l7, l8, l9, l10, rfl, hI⟩ := hI
        obtain rfl : l9 = false := hi
        obtain ⟨rfl, rfl, rfl, rfl, rfl, rfl, rfl, -⟩ : l2 = true ∧ l3 = true ∧ l4 = true ∧ l5 = true ∧ l6 = true ∧ l7 = true ∧ l8 = true ∧ True := hds
        obtain ⟨rfl, -⟩ : l10 = false ∧ True := hus
        simp only [sel_t, sel_f] at hI
        obtain ⟨g20, g22, rfl, hb, hA, hR, hP, hT, hW8, hW10⟩ := hI
        go_simp
        go_fit (use_ymul2 HC.out.2.2.2.1 HC.out.2.1 (hW8 rfl rfl) HC.out.2.2.2.2.1)
        rintro e V ⟨rfl, hq⟩
        exact hK.out _ _ ⟨l0, l1, true, true, true, true, true, true, true, true, false, by kernel_rfl, g20, g22, by kernel_rfl, (below_next hb hq), (hA.below hq), (hR.below hq), (hP.below hq (hP).lt), (hT.below hq), (fun _ h => not_tf h), (fun h => not_ft h)⟩
      refine lin_cons [0, 1, 2, 3, 4, 5, 6, 7, 8, 9] [] rfl (by kernel_rfl) (by kernel_rfl) ?_ lin_nil
      intro L ac Wn hI hi hds hus Kc hK
      obtain ⟨l0, l1, l2, l3, l4, l5, l6, l7, l8, l9, l10, rfl, hI⟩ := hI
      obtain rfl : l10 = false := hi
      obtain ⟨rfl, rfl, rfl, rfl, rfl, rfl, rfl, rfl, rfl, rfl, -⟩ : l0 = true ∧ l1 = true ∧ l2 = true ∧ l3 = true ∧ l4 = true ∧ l5 = true ∧ l6 = true ∧ l7 = true ∧ l8 = true ∧ l9 = true ∧ True := hds
      simp only [sel_t, sel_f] at hI
      obtain ⟨g20, g22, rfl, hb, hA, hR, hP, hT, hW8, hW10⟩ := hI
      go_simp
      exact hK.out _ _ ⟨true, true, true, true, true, true, true, true, true, true, true, by kernel_rfl, g20, _, by kernel_rfl, (hb.alloc hb.size _), (hA.alloc _), (hR.alloc _), (hP.alloc _), (hT.alloc _), (fun _ h => not_tf h), (fun _ => NAt.new _ _ _ _ rfl)⟩
    refine bar_of [0, 1, 2, 3, 4, 5, 6, 7, 8, 9, 10] rfl (by kernel_rfl) ?_
    intro L ac Wn hI hds Kc hK
    obtain ⟨l0, l1, l2, l3, l4, l5, l6, l7, l8, l9, l10, rfl, hI⟩ := hI
    obtain ⟨rfl, rfl, rfl, rfl, rfl, rfl, rfl, rfl, rfl, rfl, rfl, -⟩ : l0 = true ∧ l1 = true ∧ l2 = true ∧ l3 = true ∧ l4 = true ∧ l5 = true ∧ l6 = true ∧ l7 = true ∧ l8 = true ∧ l9 = true ∧ l10 = true ∧ True := hds
    simp only [sel_t] at hI
    obtain ⟨g20, g22, rfl, hb, hA, hR, hP, hT, hW8, hW10⟩ := hI
    clear hW8
    replace hW10 := hW10 rfl
    go_simp
    go_fit (use_yadd2 HC.out.2.2.2.2.2.2.1.1 HC.out.2.2.1 hW10 HC.out.2.2.2.2.2.1)
    rintro e V ⟨rfl, hq⟩
    replace hA := hA.below hq
    replace hR := hR.below hq
    replace hP := hP.below hq (hP).lt
    replace hT := hT.below hq
    replace hW10 := hW10.below hq
    replace hb := (below_next hb hq)
    refine hK.out _ _ (fun fu hf => ?_)
    clear hK Kc
    refine lin_seg 13 [12] 12 (fun L ac Wn => L = #[true, true, true, true, true, true, true, true, true, true, true, true, false] ∧ ac = { tmps := #[.int .i64 ↑i, .agg #[.bool m, .string s, .int .i64 d, .bool n, .string t, .int .i64 e], .pointer (some ⟨P, 0, none⟩), undef, .pointer (some ⟨w.heap.size, 0, none⟩), .pointer (some ⟨w.heap.size + 1, 0, none⟩), .int .i64 ↑i, .slice (some { block := kb, off := ko }) n' c', .int .i64 ↑n', .bool false, undef, undef, .pointer (some ⟨w.heap.size, 0, none⟩), .agg #[.bool m, .string s, .int .i64 d], .slice (some { block := kb, off := ko }) n' c', .int .i64 ↑i, .pointer (some { block := kb, off := ko + i * 3 }), .agg #[.bool my, .string sy, .int .i64 dy], .agg #[.bool m, .string s, .int .i64 d, .bool n, .string t, .int .i64 e], .agg #[.bool ma, .string sa, .int .i64 da], .slice (some ⟨g20, 0, none⟩) 2 2, .agg #[.bool mb, .string sb, .int .i64 db], .slice (some ⟨g22, 0, none⟩) 2 2, .agg #[.bool mc, .string sc, .int .i64 dc]], defers := [] } ∧ Below (w.heap.size) w Wn ∧ (Sk Wn (w.heap.size) 41 m s d n t e) ∧ (Nk Wn (w.heap.size + 1) false ⟨#[]⟩ 0) ∧ (Rw Wn P 25 [.slice (some { block := kb, off := ko }) n' c']) ∧ (El Wn kb (ko + i * 3) my sy dy)) (by kernel_rfl) (by kernel_rfl) (by kernel_rfl) (by kernel_rfl) hf ?_ ?_ ?_ (by kernel_rfl) ?_ (by decide)
    · exact ⟨by kernel_rfl, by kernel_rfl, hb, hA, hR, hP, hT⟩
    · rintro L ac Wn ⟨rfl, _⟩
      kernel_rfl
    · exact (seg_all (b := 12) [] lin_nil : ∀ j ∈ [12], j ≠ 12 → _)
    refine bar_of [] rfl (by kernel_rfl) ?_
    intro L ac Wn hI hds Kc hK
    obtain ⟨rfl, hI⟩ := hI
    obtain ⟨rfl, hb, hA, hR, hP, hT⟩ := hI
    obtain ⟨q0, q1, q2, q3, q4, q5⟩ := (hR).facts
    go_simp
    replace hA := (((hA).far (p := ⟨w.heap.size + 1, 0, none⟩) (by show w.heap.size ≠ w.heap.size + 1; omega) (.bool mc)).far (p := ⟨w.heap.size + 1, 1, none⟩) (by show w.heap.size ≠ w.heap.size + 1; omega) (.string sc)).far (p := ⟨w.heap.size + 1, 2, none⟩) (by show w.heap.size ≠ w.heap.size + 1; omega) (.int .i64 dc)
    replace hR := (hR).set3 (mc) (sc) (dc)
    replace hP := (((hP).far (p := ⟨w.heap.size + 1, 0, none⟩) (by show P ≠ w.heap.size + 1; omega) (.bool mc)).far (p := ⟨w.heap.size + 1, 1, none⟩) (by show P ≠ w.heap.size + 1; omega) (.string sc)).far (p := ⟨w.heap.size + 1, 2, none⟩) (by show P ≠ w.heap.size + 1; omega) (.int .i64 dc)
    replace hT := (((hT).far (p := ⟨w.heap.size + 1, 0, none⟩) (by show kb ≠ w.heap.size + 1; omega) (.bool mc)).far (p := ⟨w.heap.size + 1, 1, none⟩) (by show kb ≠ w.heap.size + 1; omega) (.string sc)).far (p := ⟨w.heap.size + 1, 2, none⟩) (by show kb ≠ w.heap.size + 1; omega) (.int .i64 dc)
    replace hb := (((hb.setCell (p := ⟨w.heap.size + 1, 0, none⟩) (by show w.heap.size ≤ w.heap.size + 1; omega) (.bool mc)).setCell (p := ⟨w.heap.size + 1, 1, none⟩) (by show w.heap.size ≤ w.heap.size + 1; omega) (.string sc)).setCell (p := ⟨w.heap.size + 1, 2, none⟩) (by show w.heap.size ≤ w.heap.size + 1; omega) (.int .i64 dc))
    refine hK.out _ _ (fun fu hf => wpAnyH_done (by kernel_rfl) ?_ _)
    clear hK Kc hf
    obtain ⟨hR0, hR1, hR2, hR3, hR4, hR5⟩ := hR.facts
    go_wp2
    exact ret_num rfl rfl hR ⟨by rw [HC.out.2.2.2.2.2.2.2]; rfl, hb⟩
    -- END
  · have hi2 : (n' : Int) ≤ i := by omega
    have hv : placN tl i ((m, s, d), n, t, e) = (m, s, d) := by unfold placN; rw [dif_neg (by omega)]
    obtain ⟨A0, A1, A2, A3, A4, A5⟩ := hA.cells
    obtain ⟨hR0, hR1, hR2, hR3, hR4, hR5⟩ := hR.facts
    have hPf := hP.cell 0
    simp only [List.getElem?_cons_zero] at hPf
    replace hv := Lib.hid hv
    clear hw hs' hbw hb1 ht hA
    go_wp2
    exact ret_num rfl rfl (hR.set3 _ _ _) ⟨by rw [hv.out]; rfl, below_set3 hb (by omega) _ _ _ _ _ _⟩

set_option maxRecDepth 100000 in
set_option maxHeartbeats 1600000 in
theorem bplace_any (w : World) (ad : Option Addr) (l : List SV) (n c : Nat) (hn : l.length = n) (hmax : n ≤ 1000) (hl : SAt w ad l) (td : Option Addr) (tl : List NV) (n' c' : Nat) (hn' : tl.length = n') (ht : NAt w td tl) {B E : Nat} (hs : ∀ x ∈ l, GS B E x) (hs' : ∀ y ∈ tl, Gd B E y) (hB : B ≤ 100) (hE : E ≤ 1000) :
    Calls Tryz.prog 27 #[.slice ad n c, .slice td n' c'] w (RowN w (l.zipIdx.map fun x => placN tl x.2 (fS x.1)) n) := by
  have hP := Rw.new w 25 [.slice td n' c']
  have hb := (Below.refl w.heap.size w).alloc (Nat.le_refl _) (Obj.cells #[Value.slice td n' c'] 25)
  go_enter Tryz.func27, Tryz.ntmps27
  go_upto_region 1 with fail
  generalize (w.alloc (Obj.cells #[Value.slice td n' c'] 25)) = W1 at *
  replace ht := ht.below hb
  have hc := eachN_any W1 60 #[.pointer (some ⟨w.heap.size, 0, none⟩)] goes_bplace1 ad l n c hn hmax (hl.below hb) (fun x h => (hs x h).o2) (l.zipIdx.map fun x => placN tl x.2 (fS x.1)) (by simp [hn]) (fun i h h2 W hq => by
    rw [List.getElem_map, List.getElem_zipIdx]
    simp only [Nat.zero_add]
    exact bplace1_any W i _ w.heap.size td tl n' c' hn' (by omega) (ht.below hq) (hP.below hq hP.lt) ((hs _ (List.getElem_mem h)).form (by omega) (by omega)) hs' hB hE)
  clear hl hs ht hs'
  go_wp2_with fail
  refine hc.mono ?_
  rintro e W ⟨g, rfl, hg, hR, hq⟩
  go_wp2
  go_ret
  exact ⟨g, rfl, Nat.le_trans hb.size hg, hR, below_next hb hq⟩
end Go.Proofs.YtbijggomdpaknaaGreatDoor
