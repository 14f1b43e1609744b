/- The document's answer's bits of a text, walked. -/
import Derived.Test.YtemlhloipjbecaaDoorRef4
namespace Go.Proofs.YtemlhloipjbecaaDoor
open Go.RowKit Go.Shelf

/-- A row of bits of the call's own, nil at first. -/
def OB (w wr : World) (v : Value) (es : List Nat) : Prop := wr.ownsRow w.heap.size 5 1 v es.length (es.map bv) ∧ Below w.heap.size w wr ∧ Bit es
theorem OB.nil (w : World) : OB w w (.slice none 0 0) [] := ⟨World.ownsRow_nil .., Below.refl _ _, Bit.nil⟩
theorem OB.nil' {w wr : World} (h : Below w.heap.size w wr) : OB w wr (.slice none 0 0) [] := ⟨World.ownsRow_nil .., h, Bit.nil⟩
theorem OB.bw {w wr : World} {v : Value} {es : List Nat} (h : OB w wr v es) : ∃ ad c, v = .slice ad es.length c ∧ Bw wr ad c es := by
  obtain ⟨h1, _, _⟩ := h
  rcases h1.2 with ⟨hv, hn⟩ | ⟨g, cap, cur, hv, hb, hg, hn, hm, hs, ht⟩
  · have he : es = [] := List.eq_nil_of_length_eq_zero hn
    subst he
    exact ⟨none, 0, hv, Bw.nil wr⟩
  · have hlt : g < wr.heap.size := (Array.getElem?_eq_some_iff.1 hg).1
    refine ⟨some ⟨g, 0, none⟩, cap, hv, ⟨hn, hm, .inr ⟨g, 0, rfl, hlt⟩, fun i hi => ⟨g, 0, rfl, hlt, ?_⟩⟩⟩
    rw [Nat.zero_add, cell_of_row wr g i cur 5 (0, 0) hg]
    rw [Nat.mul_one] at ht
    have h2 : (cur.toList.take es.length)[i]? = some (bv es[i]) := by rw [ht]; simp [hi]
    rw [List.getElem?_take_of_lt hi] at h2
    simpa using h2
/-- One bit more. -/
theorem wpList_append_bit {w w0 : World} {ops : Array Oper} {rest : List Oper} {o : Oper} {a : Act} {Q : Exit → Act → World → Prop} (hgd : o.guard = none) (s y : Operand)
    (ho : o.op = .call { callee := .builtin .append, args := #[s, y], argTypes := #[27, 27] })
    (v : Value) (es : List Nat) (hs : a.eval s = v) (h : OB w w0 v es) (V : Value) (d : Nat) (hV : V = bv d) (hd : d < 2) (b c : Nat) (hb : b = w0.heap.size) (hy : a.eval y = .slice (some ⟨b, 0, none⟩) 1 c) (hmax : es.length ≤ 1000000000)
    (hk : ∀ v' w', OB w w' v' (es ++ [d]) → wpList Tryd.prog ops Q rest (a.put o.dst v') w') : wpList Tryd.prog ops Q (o :: rest) a (w0.alloc (.cells #[V] 5)) := by
  subst hV hb
  obtain ⟨i, hi, hz, hsz, hby⟩ := info_parts info8
  have hnew : ∀ j u, [bv d][j]? = some u → (w0.alloc (.cells #[bv d] 5)).cell? ((⟨w0.heap.size, 0, none⟩ : Addr).add j) = some u := by
    intro j u hj
    have h := (Rw.new w0 5 [bv d]).cell j
    rw [addr_add0]
    exact h.trans hj
  have hB2 := h.2.1.alloc h.2.1.size (.cells #[bv d] 5)
  refine wpList_append_own _ hgd s y _ ho w.heap.size 5 i _ 1 1 Tryd.underlying27 hi hz hsz hby rfl (by omega) v es.length (es.map bv) hs (h.1.alloc _) ⟨w0.heap.size, 0, none⟩ 1 c [bv d] hy rfl hnew (by intro u hu; simp at hu; rw [hu]; rfl)
    (by unfold maxLen; omega) (by omega) hB2.size ?_
  intro v' w' h2 h3 _
  refine hk v' w' ⟨?_, ?_, h.2.2.append (Bit.one hd)⟩
  · rw [List.length_append, List.map_append]; exact h2
  · refine hB2.grown h3 hB2.size (fun k hk => ?_)
    rcases h.1.2 with ⟨rfl, _⟩ | ⟨g, cap, cur, rfl, hbg, _⟩
    · cases hk
    · simp [Value.ownBlock] at hk; omega
def intI : Value → Nat | .int _ n => (n + 1).toNat | _ => 0
def intK : Value → Nat | .int _ n => n.toNat | _ => 0
theorem num_drop (s : ByteArray) (r : Nat) (h : r < s.size) : numL (s.data.toList.drop r) = s[r].toNat * 2 ^ (8 * (s.size - (r + 1))) + numL (s.data.toList.drop (r + 1)) := by
  have hl : r < s.data.toList.length := h
  rw [List.drop_eq_getElem_cons hl, numL_cons, List.length_drop, pow256]
  rfl
theorem mod_two_pow_succ (c k : Nat) : c % 2 ^ (k + 1) = c % 2 ^ k + 2 ^ k * (c / 2 ^ k % 2) := by rw [Nat.pow_succ, Nat.mod_mul]

set_option maxRecDepth 100000 in
set_option maxHeartbeats 800000 in
theorem bits_of_any (w : World) (s : ByteArray) (hs : s.size ≤ 1000000) :
    Calls Tryd.prog 17 #[.string s] w fun e w' => ∃ ad c es, e = .returned (.slice ad es.length c) ∧ Bw w' ad c es ∧ Bit es ∧ TopB es ∧ val2 es = num s ∧ es.length ≤ 8 * s.size ∧ Below w.heap.size w w' := by
  have hO := OB.nil w
  go_enter Tryd.func17, Tryd.ntmps17
  go_wp2
  go_loopw [3, 4] (fun v i wr => ∃ (r : Nat) (es : List Nat), r ≤ s.size ∧ i = .int .i64 ((r : Int) - 1) ∧ OB w wr v es ∧ es.length = 8 * (s.size - r) ∧ val2 es = numL (s.data.toList.drop r)) (fun _ i _ => intI i)
  case atStart => exact ⟨s.size, [], Nat.le_refl _, rfl, hO, by simp, by rw [List.drop_of_length_le (show s.data.toList.length ≤ s.size from Nat.le_refl _)]; rfl⟩
  case round =>
    clear hO
    obtain ⟨r, es, hr, rfl, hO, hel, hev⟩ := hrel
    have HE := Lib.hid (And.intro hel hev); clear hel hev
    by_cases hr0 : r = 0
    · subst hr0
      obtain ⟨ad, c, rfl, hbw⟩ := hO.bw
      have hlen : es.length ≤ 8 * s.size := by have := HE.out.1; omega
      go_wp2_with fail
      refine (cut_any _ ad c es.length es hbw rfl hO.2.2 (by omega)).mono ?_
      rintro e w' ⟨k, hk, rfl, hcv, hct, rfl⟩
      go_wp2
      go_ret
      refine ⟨ad, c, es.take k, ?_, hbw.take k, hO.2.2.take k, hct, ?_, by rw [List.length_take]; omega, hO.2.1⟩
      · rw [List.length_take, Nat.min_eq_left hk]; rfl
      · rw [hcv, HE.out.2]; rfl
    · obtain ⟨q, rfl⟩ : ∃ q, r = q + 1 := ⟨r - 1, by omega⟩
      have hqi : ((q + 1 : Nat) : Int) - 1 = (q : Int) := by omega
      rw [hqi]
      clear hqi hr0
      have hq : q < s.size := by omega
      obtain ⟨c, hc⟩ : ∃ c : Nat, s[q].toNat = c := ⟨_, rfl⟩
      have hc8 : c < 256 := by rw [← hc]; exact s[q].toNat_lt
      have HEe := Lib.hid (And.intro HE.out.1 (And.intro HE.out.2 hc))
      go_wp2
      go_loopw [3, 5] (fun v i wr => ∃ (k : Nat) (fs : List Nat), k ≤ 8 ∧ i = .int .i64 k ∧ OB w wr v fs ∧ fs.length = 8 * (s.size - (q + 1)) + k ∧ val2 fs = numL (s.data.toList.drop (q + 1)) + 2 ^ (8 * (s.size - (q + 1))) * (c % 2 ^ k)) (fun _ i _ => 8 - intK i)
      case atStart => exact ⟨0, es, by omega, rfl, hO, by rw [HE.out.1]; omega, by rw [HE.out.2]; simp [Nat.mod_one]⟩
      case round =>
        clear hO HE
        obtain ⟨k, fs, hk, rfl, hO, hfl, hfv⟩ := hrel
        by_cases hk8 : k < 8
        · have ha := and_one_u8 (c / 2 ^ k) (Nat.lt_of_le_of_lt (Nat.div_le_self _ _) hc8)
          rw [show ((c / 2 ^ k : Nat) : Int) = (c : Int) / 2 ^ k by simp] at ha
          have HA := Lib.hid ha; clear ha
          have hfl2 : fs.length ≤ 1000000000 := by omega
          have HF := Lib.hid (And.intro hfl hfv); clear hfl hfv
          go_wp2_with (first
            | (at_builtin; refine wpList_append_bit rfl (.tmp 17) (.tmp 24) rfl _ fs rfl hO _ (c / 2 ^ k % 2) (by unfold bv; rw [← HA.out]) (Nat.mod_lt _ (by omega)) _ 1 rfl rfl hfl2 ?_))
          intro v' w' hO2
          clear hO
          go_wp2
          go_roundw
          case rel =>
            refine ⟨k + 1, fs ++ [c / 2 ^ k % 2], by omega, by simp, hO2, by rw [List.length_append, HF.out.1]; simp; omega, ?_⟩
            rw [val2_snoc, HF.out.1, HF.out.2, mod_two_pow_succ, Nat.mul_add, Nat.pow_add, Nat.mul_assoc, Nat.add_assoc]
          case measure => simp [intK]; omega
        · have hk8' : k = 8 := by omega
          have hlen : fs.length = 8 * (s.size - q) := by omega
          have hval : val2 fs = numL (s.data.toList.drop q) := by
            rw [num_drop s q hq, HEe.out.2.2, hfv, hk8', Nat.mod_eq_of_lt (show c < 2 ^ 8 from hc8), Nat.mul_comm c, Nat.add_comm]
          have HF := Lib.hid (And.intro hlen hval); clear hfl hfv hlen hval hk8'
          go_wp2
          go_roundw
          case rel => exact ⟨q, fs, by omega, rfl, hO, HF.out.1, HF.out.2⟩
          case measure => simp [intI]
end Go.Proofs.YtemlhloipjbecaaDoor
