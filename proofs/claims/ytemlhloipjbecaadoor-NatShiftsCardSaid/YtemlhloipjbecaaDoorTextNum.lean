/- Plain facts on the text of a row of digits: no program stands in this text. -/
import Derived.Test.YtemlhloipjbecaaDoorByte2
namespace Go.Proofs.YtemlhloipjbecaaDoor

theorem numL_flat (ds : List Nat) (hd : Dig ds) : numL (ds.reverse.flatMap eightL) = val ds := by
  induction ds with
  | nil => rfl
  | cons d ds ih =>
    have h1 : d < B64 := hd d (List.mem_cons_self ..)
    rw [List.reverse_cons, List.flatMap_append, numL_append, ih (fun x hx => hd x (List.mem_cons_of_mem _ hx)), List.flatMap_singleton, numL_eightL h1]
    simp only [val, eightL, List.length_cons, List.length_nil]
    rw [Nat.mul_comm B64]
    have : (256 : Nat) ^ (0 + 1 + 1 + 1 + 1 + 1 + 1 + 1 + 1) = B64 := rfl
    rw [this]; omega
/-- What stands behind the digits that have come, the first sk bytes left out. -/
def gone (sk : Nat) (l : List Nat) : List UInt8 := (l.flatMap eightL).drop sk
theorem gone_nil (sk : Nat) : gone sk [] = [] := by simp [gone]
theorem gone_first {sk : Nat} (x : Nat) : gone sk [x] = (eightL x).drop sk := by simp [gone]
theorem gone_more {sk : Nat} {l : List Nat} (h : l ≠ []) (hs : sk ≤ 8) (x : Nat) : gone sk (l ++ [x]) = gone sk l ++ eightL x := by
  unfold gone
  rw [List.flatMap_append, List.drop_append_of_le_length, List.flatMap_singleton]
  cases l with
  | nil => exact absurd rfl h
  | cons a l => simp [eightL]; omega
/-- What the first bytes left out are, behind the digits that have come. -/
def skv (sk : Nat) (pre : List (Nat × Nat)) : Nat := if pre.isEmpty then sk else 0
theorem gone_step (sk : Nat) (pre : List (Nat × Nat)) (x : Nat × Nat) (hs : sk ≤ 8) : gone sk ((pre ++ [x]).map (·.2)) = gone sk (pre.map (·.2)) ++ (eightL x.2).drop (skv sk pre) := by
  cases pre with
  | nil => simp [gone, skv]
  | cons y pre =>
    have h := gone_more (sk := sk) (l := (y :: pre).map (·.2)) (by simp) hs x.2
    rw [List.map_append]
    have e : skv sk (y :: pre) = 0 := rfl
    rw [e, List.drop_zero]
    exact h
theorem gone_length {sk : Nat} (l : List Nat) : (gone sk l).length ≤ 8 * l.length := by
  unfold gone
  rw [List.length_drop]
  have : (l.flatMap eightL).length = 8 * l.length := by
    induction l with
    | nil => rfl
    | cons a l ih => simp [eightL, ih]; omega
  omega
/-- All digits from the last one down, the noughts ahead left out: the one form. -/
theorem gone_all {ds : List Nat} {d sk : Nat} (hd : Dig (ds ++ [d])) (h0 : d ≠ 0) (hs : sk < 8) (hsk : (eightL d).drop sk = formL d) : gone sk (ds ++ [d]).reverse = formL (val (ds ++ [d])) := by
  symm
  have hdB : d < B64 := hd d (by simp)
  have e : gone sk (ds ++ [d]).reverse = formL d ++ ds.reverse.flatMap eightL := by
    unfold gone
    rw [List.reverse_append, List.reverse_singleton, List.singleton_append, List.flatMap_cons, List.drop_append_of_le_length (by simp [eightL]; omega), hsk]
  rw [e]
  have hl : ∀ l : List Nat, (l.flatMap eightL).length = 8 * l.length := by
    intro l
    induction l with
    | nil => rfl
    | cons a l ih => simp [eightL, ih]; omega
  refine formL_of ?_ ?_
  · cases hf : formL d with
    | nil => exact absurd (by have := numL_formL d; rw [hf] at this; exact this.symm) h0
    | cons b l =>
      intro x hx
      simp at hx
      subst hx
      exact NZ_formL d b (by rw [hf]; rfl)
  · rw [numL_append, numL_formL, hl, List.length_reverse, numL_flat ds hd.of_append.1, val_snoc]
    rw [show (256 : Nat) ^ (8 * ds.length) = B64 ^ ds.length by rw [Nat.pow_mul]; rfl, Nat.mul_comm d]
    omega
theorem backs_map (ds : List Nat) : ((List.range ds.length).map fun j => ds.getD (ds.length - 1 - j) 0) = ds.reverse := by
  apply List.ext_getElem
  · simp
  · intro i h1 h2
    have hi : i < ds.length := by simpa using h1
    simp [List.getElem_reverse, show ds.length - 1 - i < ds.length by omega]
end Go.Proofs.YtemlhloipjbecaaDoor
