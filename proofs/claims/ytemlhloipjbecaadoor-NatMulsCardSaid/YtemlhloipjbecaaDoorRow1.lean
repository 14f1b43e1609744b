/- The rows' sums: what plusTimes and minusTimes do to a block of digits, walked. -/
import Derived.Test.YtemlhloipjbecaaDoorMem
import Derived.Test.YtemlhloipjbecaaDoorShelf
import Derived.Test.YtemlhloipjbecaaDoorRows
import Derived.LoopTactic
import Derived.BigQuiet
import Derived.Deep.QuietTactic
import Derived.Shelf.Spec.BitsCarry
namespace Go.Proofs.YtemlhloipjbecaaDoor
open Go.RowKit Go.Shelf

def IsMul (x y hi lo : Nat) : Prop := hi * B64 + lo = x * y ∧ lo < B64 ∧ hi < B64
def IsAdd (x y s c : Nat) : Prop := s + B64 * c = x + y ∧ s < B64 ∧ c ≤ 1
def IsSub (x y s c : Nat) : Prop := s + y = x + B64 * c ∧ s < B64 ∧ c ≤ 1

theorem mul64_any (x y : Nat) (hx : x < B64) (hy : y < B64) (w : World) :
    Calls Tryd.prog 66 #[.int .u64 x, .int .u64 y] w fun e w' => ∃ hi lo : Nat, e = .returned (.tuple #[.int .u64 hi, .int .u64 lo]) ∧ IsMul x y hi lo ∧ w = w' :=
  (Tryd.bits_Mul64 x y hx hy w).mono fun e w' ⟨he, hw⟩ => ⟨_, _, he, ⟨by unfold B64; omega, by unfold B64; omega, by
    unfold B64 at *
    rw [Nat.div_lt_iff_lt_mul (by omega)]
    exact Nat.lt_of_le_of_lt (Nat.mul_le_mul (Nat.le_of_lt_succ hx) (Nat.le_of_lt_succ hy)) (by omega)⟩, hw.symm⟩

theorem add64_ex (x y : Nat) (hx : x < B64) (hy : y < B64) :
    ∃ s c : Nat, (∀ w, (callFunc 67 #[.int .u64 x, .int .u64 y, .int .u64 0]).run Tryd.prog w = .ok (.value (.tuple #[.int .u64 s, .int .u64 c])) w) ∧ IsAdd x y s c := by
  refine ⟨(x + y) % B64, (x + y) / B64, fun w => ?_, ?_⟩
  · rw [run_callFunc_extern Tryd.func67 (by kernel_rfl) (by kernel_rfl) (by kernel_rfl) (e := add64Entry) (by kernel_rfl), run_add64 (x := (x : Int)) (y := (y : Int)) (c := 0) (by omega) (by omega) (by omega) (by omega)]
    simp only [Result.andThen, Int.add_zero, B64_eq]
    congr 5 <;> omega
  · unfold IsAdd B64 at *; refine ⟨by omega, by omega, by omega⟩

theorem sub64_ex (x y : Nat) (hx : x < B64) (hy : y < B64) :
    ∃ s c : Nat, (∀ w, (callFunc 68 #[.int .u64 x, .int .u64 y, .int .u64 0]).run Tryd.prog w = .ok (.value (.tuple #[.int .u64 s, .int .u64 c])) w) ∧ IsSub x y s c := by
  refine ⟨(x + B64 - y) % B64, if x < y then 1 else 0, fun w => ?_, ?_⟩
  · have h := run_sub64 (P := Tryd.prog) x y 0 (by omega) w
    rw [run_callFunc_extern Tryd.func68 (by kernel_rfl) (by kernel_rfl) (by kernel_rfl) (e := sub64Entry) (by kernel_rfl)]
    rw [show (0 : Int) = ((0 : Nat) : Int) from rfl, h]
    simp only [Result.andThen, B64_eq, Nat.sub_zero, Nat.add_zero]
  · unfold IsSub B64 at *; split <;> refine ⟨by omega, by omega, by omega⟩

/-- Behind k rounds the first k digits are others, of whose number R holds; o is carried. -/
def PT (w wr : World) (db : Nat) (T : TypeId) (pre post : List Value) (ds : List Nat) (R : Nat → Prop) (k o : Nat) : Prop :=
  ∃ es : List Nat, es.length = k ∧ Dig es ∧ o < B64 ∧ Rw wr db T (pre ++ (es ++ ds.drop k).map dg ++ post) ∧ w.grownBy wr (some db) ∧ R (val es)
/-- What plusTimes has made of k digits. -/
def RP (D N k o : Nat) (E : Nat) : Prop := E + B64 ^ k * o = D + N
/-- What minusTimes has made of k digits. -/
def RM (D N k o : Nat) (E : Nat) : Prop := E + N = D + B64 ^ k * o

theorem cellOf {pre post : List Value} {es ds : List Nat} {k : Nat} (he : es.length = k) (hk : k < ds.length) {wr : World} {db : Nat} {T : TypeId} (h : Rw wr db T (pre ++ (es ++ ds.drop k).map dg ++ post)) :
    wr.cell? ⟨db, pre.length + k, none⟩ = some (dg ds[k]) := by
  rw [h.cell, List.append_assoc, List.getElem?_append_right (by omega), Nat.add_sub_cancel_left, List.getElem?_append_left (by simp; omega)]
  simp [List.getElem?_append_right, he, hk]
theorem PT.cell {w wr : World} {db : Nat} {T : TypeId} {pre post : List Value} {ds : List Nat} {R : Nat → Prop} {k o : Nat} (h : PT w wr db T pre post ds R k o) (hk : k < ds.length) :
    wr.cell? ⟨db, pre.length + k, none⟩ = some (dg ds[k]) := by
  obtain ⟨es, he, _, _, hR, _⟩ := h
  exact cellOf he hk hR
theorem setOf_ {pre post : List Value} {es ds : List Nat} {k e : Nat} (he : es.length = k) (hk : k < ds.length) :
    (pre ++ (es ++ ds.drop k).map dg ++ post).set (pre.length + k) (dg e) = pre ++ ((es ++ [e]) ++ ds.drop (k + 1)).map dg ++ post := by
  rw [List.append_assoc, List.append_assoc, List.set_append_right _ _ (by omega), Nat.add_sub_cancel_left, List.map_append, List.append_assoc,
    List.set_append_right _ _ (by simp; omega), List.length_map, he, Nat.sub_self, List.drop_eq_getElem_cons hk]
  simp only [List.map_cons, List.cons_append, List.set_cons_zero, List.map_append, List.append_assoc, List.nil_append]
/-- A round's store. -/
theorem PT.step {w wr : World} {db : Nat} {T : TypeId} {pre post : List Value} {ds : List Nat} {R R' : Nat → Prop} {k o e o' : Nat} (h : PT w wr db T pre post ds R k o) (hk : k < ds.length)
    (he : e < B64) (ho : o' < B64) (hR : ∀ E, R E → R' (E + B64 ^ k * e)) :
    PT w (wr.setCell ⟨db, pre.length + k, none⟩ (.int .u64 (e : Int))) db T pre post ds R' (k + 1) o' := by
  obtain ⟨es, h1, h2, _, h4, h5, h6⟩ := h
  refine ⟨es ++ [e], by simp [h1], h2.snoc he, ho, ?_, grown_setCell h5 rfl _, ?_⟩
  · have := h4.set_ (pre.length + k) (dg e)
    rw [setOf_ h1 hk] at this
    exact this
  · rw [val_snoc, h1]; exact hR _ h6
theorem PT.frozen {w wr : World} {db : Nat} {T : TypeId} {pre post : List Value} {ds : List Nat} {R : Nat → Prop} {k o : Nat} (h : PT w wr db T pre post ds R k o) (i : Nat) : wr.frozen? ⟨db, i, none⟩ = false := by
  obtain ⟨_, _, _, _, hR, _, _⟩ := h
  exact hR.frozen _
theorem PT.grown {w wr : World} {db : Nat} {T : TypeId} {pre post : List Value} {ds : List Nat} {R : Nat → Prop} {k o : Nat} (h : PT w wr db T pre post ds R k o) : w.grownBy wr (some db) := by
  obtain ⟨_, _, _, _, _, hg, _⟩ := h
  exact hg
theorem PT.lt {w wr : World} {db : Nat} {T : TypeId} {pre post : List Value} {ds : List Nat} {R : Nat → Prop} {k o : Nat} (h : PT w wr db T pre post ds R k o) : o < B64 := by
  obtain ⟨_, _, _, ho, _⟩ := h
  exact ho
/-- The way out: the rest is as it was. -/
theorem PT.done {w wr : World} {db : Nat} {T : TypeId} {pre post : List Value} {ds : List Nat} {R : Nat → Prop} {k o : Nat} (h : PT w wr db T pre post ds R k o) (hk : k ≤ ds.length) (hdd : Dig ds) :
    ∃ es : List Nat, Rw wr db T (pre ++ es.map dg ++ post) ∧ w.grownBy wr (some db) ∧ es.length = ds.length ∧ Dig es ∧ ∃ E, val es = E + B64 ^ k * val (ds.drop k) ∧ R E := by
  obtain ⟨es, h1, h2, _, h4, h5, h6⟩ := h
  exact ⟨es ++ ds.drop k, h4, h5, by simp; omega, h2.append (hdd.drop k), val es, by rw [val_append, h1], h6⟩
theorem RP.done {D N k o E V len : Nat} (h : RP D N k o E) (ho : o = 0 ∨ k = len) : E + B64 ^ k * V + B64 ^ len * o = (D + B64 ^ k * V) + N := by
  unfold RP at h
  rcases ho with rfl | rfl
  · simp at h ⊢; omega
  · omega
theorem RM.done {D N k o E V len : Nat} (h : RM D N k o E) (ho : o = 0 ∨ k = len) : E + B64 ^ k * V + N = (D + B64 ^ k * V) + B64 ^ len * o := by
  unfold RM at h
  rcases ho with rfl | rfl
  · simp at h ⊢; omega
  · omega
theorem RP.step {d o s c D N k E : Nat} (h : RP D N k o E) (hs : IsAdd d o s c) : RP (D + B64 ^ k * d) N (k + 1) c (E + B64 ^ k * s) := by
  unfold RP at h ⊢
  have : B64 ^ k * (s + B64 * c) = B64 ^ k * (d + o) := by rw [hs.1]
  simp only [Nat.mul_add, Nat.pow_succ] at this ⊢
  rw [← Nat.mul_assoc] at this
  omega
theorem RM.step {d o s c D N k E : Nat} (h : RM D N k o E) (hs : IsSub d o s c) : RM (D + B64 ^ k * d) N (k + 1) c (E + B64 ^ k * s) := by
  unfold RM at h ⊢
  have : B64 ^ k * (s + o) = B64 ^ k * (d + B64 * c) := by rw [hs.1]
  simp only [Nat.mul_add, Nat.pow_succ] at this ⊢
  rw [← Nat.mul_assoc] at this
  omega

theorem wrap_u64 (a b : Nat) (h : a + b < B64) : IntKind.u64.wrap ((a : Int) + (b : Int)) = (a : Int) + (b : Int) := by
  unfold B64 at h; rw [IntKind.wrap_u64]; omega

theorem wrap_u64' (a b c : Nat) (h : a + b + c < B64) : IntKind.u64.wrap ((a : Int) + (b : Int) + (c : Int)) = (a : Int) + (b : Int) + (c : Int) := by
  unfold B64 at h; rw [IntKind.wrap_u64]; omega

set_option maxHeartbeats 400000 in
theorem plusTimes_any (w : World) (db doff dc xb xoff xc : Nat) (T : TypeId) (pre post : List Value) (ds xs : List Nat) (n : Nat)
    (hd : Rw w db T (pre ++ ds.map dg ++ post)) (hpre : pre.length = doff) (hx : Ds w xb xoff xs) (hne : xb ≠ db) (hdd : Dig ds) (hdx : Dig xs) (hn : n < B64)
    (hle : xs.length ≤ ds.length) (hmax : ds.length ≤ 1000000000000) :
    Calls Tryd.prog 53 #[.slice (some ⟨db, doff, none⟩) ds.length dc, .slice (some ⟨xb, xoff, none⟩) xs.length xc, .int .u64 n] w
      fun e w' => ∃ (es : List Nat) (o : Nat), e = .returned (.int .u64 o) ∧ Rw w' db T (pre ++ es.map dg ++ post) ∧ w.grownBy w' (some db) ∧ es.length = ds.length ∧ Dig es ∧ o < B64 ∧
        val es + B64 ^ ds.length * o = val ds + n * val xs := by
  subst hpre
  have hPT0 : PT w w db T pre post ds (RP (val (ds.take 0)) (n * val (xs.take 0)) 0 0) 0 0 := ⟨[], rfl, Dig.nil, B64_pos, by simpa using hd, World.grownBy.refl w _, by simp [val, RP]⟩
  go_enter Tryd.func53, Tryd.ntmps53
  go_wp2
  go_loopw [7, 16] (fun o i wr => ∃ k ov : Nat, k ≤ xs.length ∧ i = .int .i64 k ∧ o = .int .u64 ov ∧ PT w wr db T pre post ds (RP (val (ds.take k)) (n * val (xs.take k)) k ov) k ov)
    (fun _ i _ => xs.length - (intOf i).toNat)
  case atStart => exact ⟨0, 0, Nat.zero_le _, rfl, rfl, hPT0⟩
  case round =>
    obtain ⟨k, ov, hk, rfl, rfl, hPT⟩ := hrel
    by_cases hlt : k < xs.length
    · have hcx : wr.cell? ⟨xb, xoff + k, none⟩ = some (dg xs[k]) := by
        exact (hx.grown hPT.grown (by simpa using hne)) k hlt
      have hcd := hPT.cell (show k < ds.length by omega)
      have hfr : wr.frozen? ⟨db, pre.length + k, none⟩ = false := hPT.frozen _
      have hov : ov < B64 := hPT.lt
      have hmB := hdx.get hlt
      have hdB := hdd.get (show k < ds.length by omega)
      obtain ⟨m, hm⟩ : ∃ m, m = xs[k] := ⟨_, rfl⟩
      obtain ⟨d, hdk⟩ : ∃ d, d = ds[k]'(by omega) := ⟨_, rfl⟩
      rw [← hm] at hcx hmB
      rw [← hdk] at hcd hdB
      have Hm := Lib.hid hm; clear hm
      have Hd := Lib.hid hdk; clear hdk
      unfold dg at hcx hcd
      have hkd : k < ds.length := by omega
      go_wp2_with (first
        | (go_at_call 66; refine (mul64_any m n hmB hn _).mono ?_; rintro e w' ⟨hi, lo, rfl, hmul, rfl⟩; obtain ⟨s1, c1, hr1, hs1⟩ := add64_ex lo ov hmul.2.1 hov; obtain ⟨s2, c2, hr2, hs2⟩ := add64_ex d s1 hdB hs1.2.1; have hdig := digit_plus hdB hmB hn hov hmul.1 hmul.2.1 hs1.1 hs1.2.1 hs2.1 hs2.2.1; have hw1 := wrap_u64 hi c1 hdig.1; have hw2 := wrap_u64' hi c1 c2 hdig.2.1; have Hdig := Lib.hid hdig; clear hdig)
        )
      go_roundw
      case rel =>
        obtain ⟨_, g2, g3⟩ := Hdig.out
        refine ⟨k + 1, hi + c1 + c2, by omega, by go_num, by go_num, ?_⟩
        rw [take_succ_val ds hkd, take_succ_val xs hlt, ← Hm.out, ← Hd.out]
        exact hPT.step hkd hs2.2.1 g2 fun E hE => plus_step (o' := hi + c1 + c2) hE g3
      case measure => simp [intOf]; omega
    · have hkx : k = xs.length := by omega
      subst hkx
      rw [List.take_length] at hPT
      have hPT2 : PT w wr db T pre post ds (RP (val (ds.take xs.length)) (n * val xs) xs.length ov) xs.length ov := hPT
      clear hPT hPT0 hlt
      go_wp2
      go_loopw [7, 13] (fun o i wr => ∃ k ov : Nat, k ≤ ds.length ∧ i = .int .i64 k ∧ o = .int .u64 ov ∧ PT w wr db T pre post ds (RP (val (ds.take k)) (n * val xs) k ov) k ov)
        (fun _ i _ => ds.length - (intOf i).toNat)
      case atStart => exact ⟨xs.length, ov, hle, rfl, rfl, hPT2⟩
      case round =>
        clear hPT2
        obtain ⟨k, ov, hk, rfl, rfl, hPT⟩ := hrel
        by_cases ho : ov = 0
        · subst ho
          go_wp2
          go_ret
          obtain ⟨es, e1, e2, e3, e4, E, e5, e6⟩ := hPT.done hk hdd
          exact ⟨es, 0, rfl, e1, e2, e3, e4, B64_pos, by rw [e5, val_split ds k hk]; exact e6.done (.inl rfl)⟩
        · by_cases hlt : k < ds.length
          · have hcd := hPT.cell hlt
            have hfr : wr.frozen? ⟨db, pre.length + k, none⟩ = false := hPT.frozen _
            have hov : ov < B64 := hPT.lt
            have hdB := hdd.get hlt
            obtain ⟨d, hdk⟩ : ∃ d, d = ds[k] := ⟨_, rfl⟩
            rw [← hdk] at hcd hdB
            have Hd := Lib.hid hdk; clear hdk
            unfold dg at hcd
            obtain ⟨s2, c2, hr2, hs2⟩ := add64_ex d ov hdB hov
            go_wp2
            go_roundw
            case rel =>
              refine ⟨k + 1, c2, by omega, by go_num, by go_num, ?_⟩
              rw [take_succ_val ds hlt, ← Hd.out]
              exact hPT.step hlt hs2.2.1 (Nat.lt_of_le_of_lt hs2.2.2 (by unfold B64; omega)) fun E hE => hE.step hs2
            case measure => simp [intOf]; omega
          · go_wp2
            go_ret
            have hke : k = ds.length := by omega
            obtain ⟨es, e1, e2, e3, e4, E, e5, e6⟩ := hPT.done hk hdd
            exact ⟨es, ov, rfl, e1, e2, e3, e4, hPT.lt, by rw [e5, val_split ds k hk]; exact e6.done (.inr hke)⟩

end Go.Proofs.YtemlhloipjbecaaDoor
