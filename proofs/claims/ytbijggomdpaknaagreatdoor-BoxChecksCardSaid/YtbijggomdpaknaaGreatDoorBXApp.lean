/- append onto rows of numbers and of spans of the program's own. No function is walked in this text. -/
import Derived.Test.YtbijggomdpaknaaGreatDoorHB
import Derived.Test.YtbijggomdpaknaaGreatDoorDScale
import Derived.Laws.AppendOwn
import Derived.Laws.OwnMore
import Derived.Deep.RegionLaw
namespace Go.Proofs.YtbijggomdpaknaaGreatDoor
open Go.RowKit Go.Shelf Go.Lib

theorem ncells_app : ∀ (l m : List NV), ncells (l ++ m) = ncells l ++ ncells m
  | [], m => rfl
  | x :: l, m => by
    show Value.bool x.1 :: Value.string x.2.1 :: Value.int .i64 x.2.2 :: ncells (l ++ m) = _
    rw [ncells_app l m]
    rfl
theorem ncells_len : ∀ (l : List NV), (ncells l).length = l.length * 3
  | [] => rfl
  | x :: l => by
    show (ncells l).length + 1 + 1 + 1 = (l.length + 1) * 3
    rw [ncells_len l]
    omega
theorem ncells_one : ∀ (l : List NV), ∀ u ∈ ncells l, u.oneCell' = true
  | [], _, h => by cases h
  | x :: l, u, h => by
    rcases List.mem_cons.1 h with rfl | h
    · rfl
    rcases List.mem_cons.1 h with rfl | h
    · rfl
    rcases List.mem_cons.1 h with rfl | h
    · rfl
    exact ncells_one l u h
/-- The cells of a slice of numbers, as an append reads them. -/
theorem NAt.reads {w : World} {b o : Nat} {l : List NV} (h : NAt w (some ⟨b, o, none⟩) l) : ∀ j u, (ncells l)[j]? = some u → w.cell? ((⟨b, o, none⟩ : Addr).add j) = some u := by
  intro j u hj
  have hjl : j < l.length * 3 := by
    rw [← ncells_len]
    exact (List.getElem?_eq_some_iff.1 hj).1
  obtain ⟨lb, lo, e, -, h1, h2, h3⟩ := h (j / 3) (by omega)
  simp only [Option.some.injEq, Addr.mk.injEq, and_true] at e
  obtain ⟨rfl, rfl⟩ := e
  obtain ⟨g1, g2, g3⟩ := ncells_get l (j / 3) (by omega)
  have ea : (⟨b, o, none⟩ : Addr).add j = ⟨b, o + j, none⟩ := by unfold Addr.add; split <;> simp_all
  rw [ea]
  rcases (show j % 3 = 0 ∨ j % 3 = 1 ∨ j % 3 = 2 by omega) with e | e | e
  · rw [show j = j / 3 * 3 by omega] at hj ⊢
    rw [g1] at hj
    rw [← hj]
    exact h1
  · rw [show j = j / 3 * 3 + 1 by omega] at hj ⊢
    rw [g2] at hj
    rw [← hj]
    exact h2
  · rw [show j = j / 3 * 3 + 2 by omega] at hj ⊢
    rw [g3] at hj
    rw [← hj]
    exact h3
theorem NAt.spot {w : World} {ad : Option Addr} {x : NV} {l : List NV} (h : NAt w ad (x :: l)) : ∃ b o, ad = some ⟨b, o, none⟩ := by
  obtain ⟨b, o, e, _⟩ := h 0 (by simp)
  exact ⟨b, o, e⟩
/-- A row of the program's own, as a slice that holds these numbers. -/
theorem own_nat {w : World} {B n size : Nat} {e : TypeId} {v : Value} {l : List NV} (hn : l.length * 3 = n * size) (h : w.ownsRow B e size v n (ncells l)) : ∃ od oc, v = .slice od n oc ∧ n ≤ oc ∧ NAt w od l := by
  rcases h.2 with ⟨rfl, rfl⟩ | ⟨g, cap, cur, rfl, _, hg, hc, _, _, _⟩
  · obtain rfl : l = [] := List.eq_nil_of_length_eq_zero (by omega)
    exact ⟨none, 0, rfl, Nat.le_refl _, fun i hi => by simp at hi⟩
  · refine ⟨some ⟨g, 0, none⟩, cap, rfl, hc, fun i hi => ?_⟩
    have hcell := h.cells (g := g) rfl
    obtain ⟨g1, g2, g3⟩ := ncells_get l i hi
    have ea : ∀ j : Nat, (⟨g, 0, none⟩ : Addr).add j = ⟨g, 0 + j, none⟩ := fun j => by unfold Addr.add; split <;> simp_all
    have h1 := hcell _ _ g1
    have h2 := hcell _ _ g2
    have h3 := hcell _ _ g3
    rw [ea] at h1 h2 h3
    exact ⟨g, 0, rfl, World.block_lt_of_cell? w _ h1, h1, by rw [Nat.add_assoc]; exact h2, by rw [Nat.add_assoc]; exact h3⟩
theorem own_sat {w : World} {B n : Nat} {e : TypeId} {v : Value} {l : List SV} (hn : l.length = n) (h : w.ownsRow B e 6 v n (ncells (flat l))) : ∃ od oc, v = .slice od n oc ∧ n ≤ oc ∧ SAt w od l := by
  obtain ⟨od, oc, h1, h2, h3⟩ := own_nat (l := flat l) (by rw [flat_len, hn]; omega) h
  exact ⟨od, oc, h1, h2, SAt.of_flat h3⟩
/-- Such a row lies in new memory. -/
theorem own_at {w : World} {B n size : Nat} {e : TypeId} {v : Value} {xs : List Value} (h : w.ownsRow B e size v n xs) {b o : Nat} {c : Nat} (hv : v = .slice (some ⟨b, o, none⟩) n c) : B ≤ b := by
  subst hv
  rcases h.2 with ⟨h1, _⟩ | ⟨g, cap, cur, h1, hB, _⟩
  · cases h1
  · injection h1 with h1
    injection h1 with h1
    injection h1 with h1
    subst h1; exact hB
theorem grown_same (w : World) (row : Option Nat) : w.grownBy w row := ⟨rfl, rfl, rfl, Nat.le_refl _, fun _ _ _ => rfl⟩
/-- What grows is new memory. -/
theorem grown_own {w0 w w' : World} {B size n : Nat} {e : TypeId} {v : Value} {xs : List Value} (hb : Below B w0 w) (hB : B ≤ w.heap.size) (h : w.ownsRow B e size v n xs) (hg : w.grownBy w' v.ownBlock) : Below B w0 w' :=
  Below.grown hb hg hB fun k hk => (h.lt k hk).1
section
variable {t e : TypeId} {i : TypeInfo} {z : Value} {size bytes : Nat} (h1 : Tryz.prog.underlying t = some (.slice e)) (h2 : Tryz.prog.info? e = some i) (h3 : i.zero = some z) (h4 : i.size = size) (h5 : i.bytes = bytes) (h6 : z.cells.size = size) (h7 : 0 < size) (h8 : bytes ≤ 1000)
include h1 h2 h3 h4 h5 h6 h7 h8
theorem run_append_nat {w : World} {B k m oc : Nat} {v : Value} {L M : List NV} {od : Option Addr} (ty : TypeId) (hown : w.ownsRow B e size v k (ncells L)) (hB : B ≤ w.heap.size) (h : NAt w od M) (hl : M.length * 3 = m * size) (hkm : k + m ≤ 1000000) :
    ∃ v' w', (Builtin.append_ #[t, t] ty #[v, .slice od m oc]).run Tryz.prog w = .ok v' w' ∧ w'.ownsRow B e size v' (k + m) (ncells (L ++ M)) ∧ w.grownBy w' v.ownBlock := by
  cases od with
  | none =>
    have hl0 : M = [] := by
      cases M with
      | nil => rfl
      | cons x l => obtain ⟨_, _, e, _⟩ := h 0 (by simp); cases e
    subst hl0
    obtain rfl : m = 0 := by
      rcases Nat.eq_zero_or_pos m with h | h
      · exact h
      · have := Nat.mul_pos h h7
        simp at hl
        omega
    refine ⟨v, w, ?_, by simpa using hown, grown_same _ _⟩
    rcases hown.2 with ⟨rfl, rfl⟩ | ⟨g, cap, cur, rfl, _, _, hnc, _⟩
    · simp [Builtin.append_, run_underlying h1, sizeOf, typeInfo, h2, Builtin.lenOf, Builtin.firstCells]
    · simp [Builtin.append_, run_underlying h1, sizeOf, typeInfo, h2, Builtin.lenOf, Builtin.firstCells, hnc, storeCells]
  | some ad =>
    have hrd : ∀ j u, (ncells M)[j]? = some u → w.cell? (ad.add j) = some u := by
      cases M with
      | nil => intro j u hj; cases hj
      | cons x l =>
        obtain ⟨b, o, rfl⟩ : ∃ b o, ad = ⟨b, o, none⟩ := by
          obtain ⟨b, o, e⟩ := h.spot
          exact ⟨b, o, by injection e⟩
        exact h.reads
    obtain ⟨v', w', hr, g1, g2, _⟩ := run_append_own (P := Tryz.prog) w B t ty e i z size bytes h1 h2 h3 h4 h5 h6 h7 v k _ hown ad m oc (ncells M) (by rw [ncells_len, hl]) hrd (ncells_one M) (by unfold maxLen; omega) (Nat.le_trans (Nat.mul_le_mul hkm h8) (by decide)) hB
    exact ⟨v', w', hr, by rw [ncells_app]; exact g1, g2⟩
theorem wp_append_nat {w : World} {o : Oper} {a : Act} {K : Act → World → Prop} {Q : Exit → Act → World → Prop} (s y : Operand)
    (ho : o.op = .call { callee := .builtin .append, args := #[s, y], argTypes := #[t, t] }) {B k m oc : Nat} {v : Value} {L M : List NV} {od : Option Addr}
    (hs : a.eval s = v) (hown : w.ownsRow B e size v k (ncells L)) (hB : B ≤ w.heap.size) (hx : a.eval y = .slice od m oc) (h : NAt w od M) (hl : M.length * 3 = m * size) (hkm : k + m ≤ 1000000)
    (hk : ∀ v' w', w'.ownsRow B e size v' (k + m) (ncells (L ++ M)) → w.grownBy w' v.ownBlock → K (a.put o.dst v') w') : o.wp Tryz.prog a w K Q := by
  obtain ⟨v', w', hr, g1, g2⟩ := run_append_nat h1 h2 h3 h4 h5 h6 h7 h8 (oc := oc) o.type hown hB h hl hkm
  unfold Oper.wp execOp
  simp only [ho, resolve, invoke, builtin, Sem.run_bind, Sem.run_pure, Result.andThen_ok, List.map_toArray, List.map_cons, List.map_nil, hs, hx, hr]
  exact hk v' w' g1 g2
theorem wpList_append_nat {w : World} {ops : Array Oper} {rest : List Oper} {o : Oper} {a : Act} {Q : Exit → Act → World → Prop} (hgd : o.guard = none) (s y : Operand)
    (ho : o.op = .call { callee := .builtin .append, args := #[s, y], argTypes := #[t, t] }) {B k m oc : Nat} {v : Value} {L M : List NV} {od : Option Addr}
    (hs : a.eval s = v) (hown : w.ownsRow B e size v k (ncells L)) (hB : B ≤ w.heap.size) (hx : a.eval y = .slice od m oc) (h : NAt w od M) (hl : M.length * 3 = m * size) (hkm : k + m ≤ 1000000)
    (hk : ∀ v' w', w'.ownsRow B e size v' (k + m) (ncells (L ++ M)) → w.grownBy w' v.ownBlock → wpList Tryz.prog ops Q rest (a.put o.dst v') w') : wpList Tryz.prog ops Q (o :: rest) a w :=
  wpList_plain hgd fun _ hK => wp_append_nat h1 h2 h3 h4 h5 h6 h7 h8 s y ho hs hown hB hx h hl hkm fun v' w' h2 h3 => hK _ _ (hk v' w' h2 h3)
theorem step_append_nat {w : World} {ops : Array Oper} {o : Oper} {a : Act} {K : Act → World → Prop} {Q : Exit → Act → World → Prop} {E : Prop} (hgd : o.guard = none) (s y : Operand)
    (ho : o.op = .call { callee := .builtin .append, args := #[s, y], argTypes := #[t, t] }) {B k m oc : Nat} {v : Value} {L M : List NV} {od : Option Addr}
    (hs : a.eval s = v) (hown : w.ownsRow B e size v k (ncells L)) (hB : B ≤ w.heap.size) (hx : a.eval y = .slice od m oc) (h : NAt w od M) (hl : M.length * 3 = m * size) (hkm : k + m ≤ 1000000)
    (hk : ∀ v' w', w'.ownsRow B e size v' (k + m) (ncells (L ++ M)) → w.grownBy w' v.ownBlock → K (a.put o.dst v') w') :
    if Region.wanted o (yielded ops a.tmps) = true then Oper.wp Tryz.prog o a w K Q else E := by
  have hw : Region.wanted o (yielded ops a.tmps) = true := by simp [Region.wanted, hgd]
  rw [if_pos hw]
  exact wp_append_nat h1 h2 h3 h4 h5 h6 h7 h8 s y ho hs hown hB hx h hl hkm hk
end
end Go.Proofs.YtbijggomdpaknaaGreatDoor
