/- A row of numbers, copied onto a new one. -/
import Derived.Test.YtdpihoblkldghaaM12
namespace Go.Proofs.Ytdpihoblkldghaa
open Go.RowKit Go.Lib

theorem ov_of_owns {B : Nat} {te : TypeId} {w : World} {v : Value} {n : Nat} {vs : List Value} (h : w.ownsRow B te 1 v n vs) (hn : vs.length = n) : OV B w v vs := by
  rcases h.2 with ⟨rfl, h0⟩ | ⟨g, cap, cur, hv, hBg, hgc, hnc, hcm, hcs, ht⟩
  · exact .inl ⟨rfl, List.eq_nil_of_length_eq_zero (by omega)⟩
  · refine .inr ⟨g, cap, te, cur.toList, by rw [hn]; exact hv, hBg, hgc, by omega, by rw [Array.length_toList, hcs]; omega, hcm, ?_⟩
    rw [hn]
    simpa using ht
theorem run_copy_ints (w : World) (ty : TypeId) (ad : Option Addr) (ns : List Int) (n c : Nat) (hl : ns.length = n) (hr : RI w ad ns) (had : ad = none → c = 0) (hnc : n ≤ c) (hn : n ≤ 1000000000) :
    ∃ v' w', (Builtin.append_ #[22, 22] ty #[.slice (some ⟨w.heap.size, 0, none⟩) 0 0, .slice ad n c]).run Try.prog (w.alloc (.cells #[] 3)) = .ok v' w' ∧ OV w.heap.size w' v' (ns.map (Value.int .i64)) ∧ Below w.heap.size w w' := by
  obtain ⟨i, hi, hz, hs, hby⟩ := info_parts infoI
  have hR := Rw.new w 3 []
  have hB : Below w.heap.size w (w.alloc (.cells #[] 3)) := (Below.refl _ _).alloc (Nat.le_refl _) _
  cases ad with
  | none =>
    have hc0 := had rfl
    obtain rfl : n = 0 := by omega
    subst hc0
    have hns : ns = [] := List.eq_nil_of_length_eq_zero hl
    subst hns
    refine ⟨.slice (some ⟨w.heap.size, 0, none⟩) 0 0, w.alloc (.cells #[] 3), ?_, .inr ⟨w.heap.size, 0, 3, [], rfl, Nat.le_refl _, hR, Nat.le_refl _, rfl, Nat.zero_le _, rfl⟩, hB⟩
    simp [Builtin.append_, run_underlying Try.underlying22, sizeOf, typeInfo, hi, Builtin.lenOf, Builtin.firstCells, storeCells]
  | some a =>
    have hown : (w.alloc (.cells #[] 3)).ownsRow w.heap.size 3 1 (.slice (some ⟨w.heap.size, 0, none⟩) 0 0) 0 [] :=
      ⟨rfl, .inr ⟨w.heap.size, 0, #[], rfl, Nat.le_refl _, hR, Nat.le_refl _, Nat.zero_le _, rfl, rfl⟩⟩
    have hnews : ∀ j u, (ns.map (Value.int .i64))[j]? = some u → (w.alloc (.cells #[] 3)).cell? (a.add j) = some u := by
      intro j u hj
      obtain ⟨hj1, hj2⟩ := List.getElem?_eq_some_iff.1 hj
      rw [List.length_map] at hj1
      obtain ⟨b, off, e, hlt, hc⟩ := hr j hj1
      injection e with e
      subst e
      rw [addr0, ← hj2, List.getElem_map]
      exact cell_past hc _
    obtain ⟨v', w', hrun, hown', hg, _⟩ := run_append_own (P := Try.prog) (w.alloc (.cells #[] 3)) w.heap.size 22 ty 3 i _ 1 8 Try.underlying22 hi hz hs hby rfl (by omega) (.slice (some ⟨w.heap.size, 0, none⟩) 0 0) 0 [] hown a n c (ns.map (Value.int .i64)) (by simp [hl]) hnews
      (by intro u hu; obtain ⟨x, _, rfl⟩ := List.mem_map.1 hu; rfl) (by unfold maxLen; omega) (by omega) (by simp)
    refine ⟨v', w', hrun, ?_, hB.grown hg (by simp) (fun k hk => by simp only [Value.ownBlock, Option.some.injEq] at hk; omega)⟩
    rw [Nat.zero_add, List.nil_append] at hown'
    exact ov_of_owns hown' (by simp [hl])
theorem wpList_copy_ints {w : World} {ops : Array Oper} {rest : List Oper} {o : Oper} {a : Act} {Q : Exit → Act → World → Prop} (hgd : o.guard = none) (s y : Operand)
    (ho : o.op = .call { callee := .builtin .append, args := #[s, y], argTypes := #[22, 22] })
    (ad : Option Addr) (ns : List Int) (n c : Nat) (hl : ns.length = n) (hs : a.eval s = .slice (some ⟨w.heap.size, 0, none⟩) 0 0) (hy : a.eval y = .slice ad n c) (hr : RI w ad ns) (had : ad = none → c = 0) (hnc : n ≤ c) (hn : n ≤ 1000000000)
    (hk : ∀ ad' c' w', RI w' ad' ns → Below w.heap.size w w' → wpList Try.prog ops Q rest (a.put o.dst (.slice ad' n c')) w') : wpList Try.prog ops Q (o :: rest) a (w.alloc (.cells #[] 3)) := by
  refine wpList_plain hgd fun K hK => ?_
  obtain ⟨v', w', hrun, h2, h3⟩ := run_copy_ints w o.type ad ns n c hl hr had hnc hn
  obtain ⟨ad', c', rfl, hri⟩ := h2.ri
  rw [hl] at hrun
  unfold Oper.wp execOp
  simp only [ho, resolve, invoke, builtin, Sem.run_bind, Sem.run_pure, Result.andThen_ok, List.map_toArray, List.map_cons, List.map_nil, hs, hy, hrun]
  exact hK _ _ (hk ad' c' w' hri h3)
end Go.Proofs.Ytdpihoblkldghaa
