/- A number's bytes read into a row of digits, walked. -/
import Derived.Test.YtemlhloipjbecaaDoorGrow
import Derived.Test.YtemlhloipjbecaaDoorNatA
import Derived.Deep.RegionLaw
import Derived.Test.YtemlhloipjbecaaDoorReadNum
namespace Go.Proofs.YtemlhloipjbecaaDoor
open Go.RowKit Go.Shelf

/-- append(d, x) as one step of a region that draws its order. -/
theorem step_append_digit {ops : Array Oper} {o : Oper} {a : Act} {w0 : World} {K : Act → World → Prop} {Q : Exit → Act → World → Prop} {E : Prop}
    (hgd : o.guard = none) (s y : Operand) (ho : o.op = .call { callee := .builtin .append, args := #[s, y], argTypes := #[54, 54] })
    (g cap : Nat) (ds : List Nat) (n : Nat) (hs : a.eval s = .slice (some ⟨g, 0, none⟩) n cap) (hn : ds.length = n) (h : Own64 w0 g cap ds) (V : Value) (x : Nat) (hV : V = dg x) (b c : Nat) (hb : b = w0.heap.size) (hy : a.eval y = .slice (some ⟨b, 0, none⟩) 1 c)
    (hmax : n ≤ 10000000000000)
    (hk : ∀ g' cap' w', Own64 w' g' cap' (ds ++ [x]) → w0.grownBy w' (some g) → (g' = g ∨ w0.heap.size ≤ g') → K (a.put o.dst (.slice (some ⟨g', 0, none⟩) (n + 1) cap')) w') :
    if Region.wanted o (yielded ops a.tmps) = true then Oper.wp Tryd.prog o a (w0.alloc (.cells #[V] 22)) K Q else E := by
  have hw : Region.wanted o (yielded ops a.tmps) = true := by simp [Region.wanted, hgd]
  rw [if_pos hw]
  subst hV hb
  obtain ⟨g', cap', w', hr, h2, h3, h4⟩ := run_append_digit _ o.type g cap ds n hn (h.alloc (.cells #[dg x] 22)) ⟨w0.heap.size, 0, none⟩ x c (one_digit w0 x) hmax
  unfold Oper.wp execOp
  simp only [ho, resolve, invoke, builtin, Sem.run_bind, Sem.run_pure, Result.andThen_ok, List.map_toArray, List.map_cons, List.map_nil, hs, hy, hr]
  exact hk _ _ _ h2 (grown_trans (World.grownBy_alloc w0 _ (some g)) h3) (by rcases h4 with h4 | h4 <;> simp_all)

theorem Own64.drew {w : World} {g cap : Nat} {ds : List Nat} (h : Own64 w g cap ds) : Own64 w.drew g cap ds := h
def intR : Value → Nat | .int _ n => n.toNat | _ => 0
def strLen : Value → Nat | .string s => s.size | _ => 0
/-- Between the rounds of read. -/
def RD (w wr : World) (g N S : Nat) (t : ByteArray) (g1 cap1 : Nat) (ds : List Nat) : Prop :=
  Own64 wr g1 cap1 ds ∧ w.grownBy wr (some g) ∧ (g1 = g ∨ w.heap.size ≤ g1) ∧ Dig ds ∧ num t * B64 ^ ds.length + val ds = N ∧ NZ t.data.toList ∧ (t.size = 0 → ds = [] ∨ ∃ l d, ds = l ++ [d] ∧ d ≠ 0) ∧ ds.length * 8 + t.size ≤ S

theorem RD.step {w wr w2 : World} {g N S : Nat} {t v : ByteArray} {g1 g2 cap2 : Nat} {ds : List Nat} {c0 c1 c2 c3 c4 c5 c6 c7 : UInt8} (hE : t.data.toList = v.data.toList ++ [c0, c1, c2, c3, c4, c5, c6, c7]) (hv : v.size = t.size - 8) (ht : 8 ≤ t.size)
    (r2 : w.grownBy wr (some g)) (r3 : g1 = g ∨ w.heap.size ≤ g1) (r4 : Dig ds) (R : num t * B64 ^ ds.length + val ds = N ∧ NZ t.data.toList ∧ (t.size = 0 → ds = [] ∨ ∃ l d, ds = l ++ [d] ∧ d ≠ 0)) (r8 : ds.length * 8 + t.size ≤ S)
    (hO : Own64 w2 g2 cap2 (ds ++ [dig8 c0 c1 c2 c3 c4 c5 c6 c7])) (hg : wr.drew.grownBy w2 (some g1)) (ha : g2 = g1 ∨ wr.heap.size ≤ g2) : RD w w2 g N S v g2 cap2 (ds ++ [dig8 c0 c1 c2 c3 c4 c5 c6 c7]) := by
  obtain ⟨r5, r6, r7⟩ := R
  have hsz := r2.size
  refine ⟨hO, grown_new (grown_drew r2) hg r3, ?_, r4.snoc (dig8_lt ..), ?_, ?_, ?_, by simp; omega⟩
  · rcases ha with h | h
    · rw [h]; exact r3
    · right; omega
  · rw [val_snoc, List.length_append, List.length_singleton, Nat.pow_succ, ← r5, num8 t v _ _ _ _ _ _ _ _ hE, Nat.add_mul, Nat.mul_assoc, Nat.mul_comm B64, Nat.mul_comm (dig8 ..)]
    omega
  · rw [hE] at r6; exact NZ_append r6
  · intro hv0
    right
    rw [hE] at r6
    refine ⟨ds, _, rfl, dig8_pos r6 ?_⟩
    have : v.data.toList.length = 0 := hv0
    exact List.eq_nil_of_length_eq_zero this

/-- Between the rounds of the last digit. -/
def RT (w wq : World) (g g1 cap1 : Nat) (ds : List Nat) (t : ByteArray) (k top : Nat) : Prop :=
  Own64 wq g1 cap1 ds ∧ w.grownBy wq (some g) ∧ top = numL (t.data.toList.take k)

set_option maxRecDepth 100000 in
set_option maxHeartbeats 1600000 in
theorem read_any (w : World) (g cap : Nat) (s : ByteArray) (hd : Own64 w g cap []) (hs : s.size ≤ 1000000000) :
    Calls Tryd.prog 44 #[.slice (some ⟨g, 0, none⟩) 0 cap, .string s] w
      fun e w' => ∃ g' cap' ds, e = .returned (.slice (some ⟨g', 0, none⟩) ds.length cap') ∧ Own64 w' g' cap' ds ∧ w.grownBy w' (some g) ∧ (g' = g ∨ w.heap.size ≤ g') ∧ Dig ds ∧ val ds = num s ∧
        (ds = [] ∨ ∃ l d, ds = l ++ [d] ∧ d ≠ 0) ∧ ds.length ≤ s.size := by
  have h1 := fb_num_size s
  go_enter Tryd.func44, Tryd.ntmps44
  go_wp2_with fail
  refine (bare_any _ s).mono ?_
  rintro e w' ⟨rfl, rfl⟩
  go_wp2_with fail
  rw [show ((((fb (num s)).size : Int) + 7) / 8) = ((((fb (num s)).size + 7) / 8 : Nat) : Int) by omega]
  refine (grow_any _ g cap 0 _ [] hd rfl (by omega) (by omega)).mono ?_
  rintro e w1 ⟨g0, cap0, rfl, hO, hg, hg0⟩
  have hRD : RD w w1 g (num s) s.size (fb (num s)) g0 cap0 [] := ⟨hO, hg, hg0, Dig.nil, by simp [val, num_fb], by rw [fb_toList]; exact NZ_formL _, fun _ => .inl rfl, by simp; omega⟩
  clear hO hg hg0
  go_wp2
  go_loopw [0, 1] (fun v a wr => ∃ (t : ByteArray) (g1 cap1 : Nat) (ds : List Nat), v = .slice (some ⟨g1, 0, none⟩) ds.length cap1 ∧ a = .string t ∧ RD w wr g (num s) s.size t g1 cap1 ds)
    (fun _ a _ => strLen a)
  case atStart => exact ⟨_, g0, cap0, [], rfl, rfl, hRD⟩
  case round =>
    clear hRD h1
    obtain ⟨t, g1, cap1, ds, rfl, rfl, hRD⟩ := hrel
    obtain ⟨r1, r2, r3, r4, r5, r6, r7, r8⟩ := hRD
    have R := Lib.hid (And.intro r5 (And.intro r6 r7)); clear r5 r6 r7
    by_cases hlt : 8 ≤ t.size
    · obtain ⟨c0, c1, c2, c3, c4, c5, c6, c7, v, e1, e2, e3, e4⟩ := split8 t hlt
      have E := Lib.hid (And.intro e3 e4); clear e3 e4
      go_wp2
      rw [e1, e2]
      clear e1 e2
      obtain ⟨A1, A2, A3, A4, A5, A6, or1, or2, or3, or4, or5, or6, hor7⟩ := or_eight c0 c1 c2 c3 c4 c5 c6 c7
      have b0 : IntKind.u64.wrap ↑((⟨#[c0, c1, c2, c3, c4, c5, c6, c7]⟩ : ByteArray)[0]'(by show 0 < 8; omega)).toNat = (c0.toNat : Int) := wrap_byte c0
      have b1 : IntKind.u64.wrap ↑((⟨#[c0, c1, c2, c3, c4, c5, c6, c7]⟩ : ByteArray)[1]'(by show 1 < 8; omega)).toNat = (c1.toNat : Int) := wrap_byte c1
      have b2 : IntKind.u64.wrap ↑((⟨#[c0, c1, c2, c3, c4, c5, c6, c7]⟩ : ByteArray)[2]'(by show 2 < 8; omega)).toNat = (c2.toNat : Int) := wrap_byte c2
      have b3 : IntKind.u64.wrap ↑((⟨#[c0, c1, c2, c3, c4, c5, c6, c7]⟩ : ByteArray)[3]'(by show 3 < 8; omega)).toNat = (c3.toNat : Int) := wrap_byte c3
      have b4 : IntKind.u64.wrap ↑((⟨#[c0, c1, c2, c3, c4, c5, c6, c7]⟩ : ByteArray)[4]'(by show 4 < 8; omega)).toNat = (c4.toNat : Int) := wrap_byte c4
      have b5 : IntKind.u64.wrap ↑((⟨#[c0, c1, c2, c3, c4, c5, c6, c7]⟩ : ByteArray)[5]'(by show 5 < 8; omega)).toNat = (c5.toNat : Int) := wrap_byte c5
      have b6 : IntKind.u64.wrap ↑((⟨#[c0, c1, c2, c3, c4, c5, c6, c7]⟩ : ByteArray)[6]'(by show 6 < 8; omega)).toNat = (c6.toNat : Int) := wrap_byte c6
      have b7 : IntKind.u64.wrap ↑((⟨#[c0, c1, c2, c3, c4, c5, c6, c7]⟩ : ByteArray)[7]'(by show 7 < 8; omega)).toNat = (c7.toNat : Int) := wrap_byte c7
      refine wp_region_any (by kernel_rfl) ?_
      change wpAny _ _ _ _ _ _ _ (World.drew _)
      refine wpAny_take (i := 0) (v := ?v0) rfl (by kernel_rfl) (by kernel_rfl) (by kernel_rfl) (fun _ _ _ h => h) (Or.inl ⟨by rfl, ?y0⟩) ?_
      case y0 => intro w; go_simp; first | done | with_reducible rfl
      refine wpAny_take (i := 1) (v := ?v1) rfl (by kernel_rfl) (by kernel_rfl) (by kernel_rfl) (fun _ _ _ h => h) (Or.inl ⟨by rfl, ?y1⟩) ?_
      case y1 => intro w; go_simp; first | done | with_reducible rfl
      refine wpAny_take (i := 2) (v := ?v2) rfl (by kernel_rfl) (by kernel_rfl) (by kernel_rfl) (fun _ _ _ h => h) (Or.inl ⟨by rfl, ?y2⟩) ?_
      case y2 => intro w; go_simp; first | done | with_reducible rfl
      refine wpAny_take (i := 3) (v := ?v3) rfl (by kernel_rfl) (by kernel_rfl) (by kernel_rfl) (fun _ _ _ h => h) (Or.inl ⟨by rfl, ?y3⟩) ?_
      case y3 => intro w; go_simp; first | done | with_reducible rfl
      refine wpAny_take (i := 4) (v := ?v4) rfl (by kernel_rfl) (by kernel_rfl) (by kernel_rfl) (fun _ _ _ h => h) (Or.inl ⟨by rfl, ?y4⟩) ?_
      case y4 => intro w; go_simp; first | done | with_reducible rfl
      refine wpAny_take (i := 5) (v := ?v5) rfl (by kernel_rfl) (by kernel_rfl) (by kernel_rfl) (fun _ _ _ h => h) (Or.inl ⟨by rfl, ?y5⟩) ?_
      case y5 => intro w; go_simp; first | done | with_reducible rfl
      refine wpAny_take (i := 6) (v := ?v6) rfl (by kernel_rfl) (by kernel_rfl) (by kernel_rfl) (fun _ _ _ h => h) (Or.inl ⟨by rfl, ?y6⟩) ?_
      case y6 => intro w; go_simp; first | done | with_reducible rfl
      refine wpAny_take (i := 7) (v := ?v7) rfl (by kernel_rfl) (by kernel_rfl) (by kernel_rfl) (fun _ _ _ h => h) (Or.inl ⟨by rfl, ?y7⟩) ?_
      case y7 => intro w; go_simp; first | done | with_reducible rfl
      refine wpAny_take (i := 8) (v := ?v8) rfl (by kernel_rfl) (by kernel_rfl) (by kernel_rfl) (fun _ _ _ h => h) (Or.inl ⟨by rfl, ?y8⟩) ?_
      case y8 => intro w; go_simp; first | done | with_reducible rfl
      refine wpAny_take (i := 9) (v := ?v9) rfl (by kernel_rfl) (by kernel_rfl) (by kernel_rfl) (fun _ _ _ h => h) (Or.inl ⟨by rfl, ?y9⟩) ?_
      case y9 => intro w; go_simp; first | done | with_reducible rfl
      refine wpAny_take (i := 10) (v := ?v10) rfl (by kernel_rfl) (by kernel_rfl) (by kernel_rfl) (fun _ _ _ h => h) (Or.inl ⟨by rfl, ?y10⟩) ?_
      case y10 => intro w; go_simp; first | done | with_reducible rfl
      refine wpAny_take (i := 11) (v := ?v11) rfl (by kernel_rfl) (by kernel_rfl) (by kernel_rfl) (fun _ _ _ h => h) (Or.inl ⟨by rfl, ?y11⟩) ?_
      case y11 => intro w; go_simp; first | done | with_reducible rfl
      refine wpAny_take (i := 12) (v := ?v12) rfl (by kernel_rfl) (by kernel_rfl) (by kernel_rfl) (fun _ _ _ h => h) (Or.inl ⟨by rfl, ?y12⟩) ?_
      case y12 => intro w; go_simp; first | done | with_reducible rfl
      refine wpAny_take (i := 13) (v := ?v13) rfl (by kernel_rfl) (by kernel_rfl) (by kernel_rfl) (fun _ _ _ h => h) (Or.inl ⟨by rfl, ?y13⟩) ?_
      case y13 => intro w; go_simp; first | done | with_reducible rfl
      refine wpAny_take (i := 14) (v := ?v14) rfl (by kernel_rfl) (by kernel_rfl) (by kernel_rfl) (fun _ _ _ h => h) (Or.inl ⟨by rfl, ?y14⟩) ?_
      case y14 => intro w; go_simp; first | done | with_reducible rfl
      refine wpAny_take (i := 15) (v := ?v15) rfl (by kernel_rfl) (by kernel_rfl) (by kernel_rfl) (fun _ _ _ h => h) (Or.inl ⟨by rfl, ?y15⟩) ?_
      case y15 => intro w; go_simp; first | done | with_reducible rfl
      refine wpAny_take (i := 16) (v := ?v16) rfl (by kernel_rfl) (by kernel_rfl) (by kernel_rfl) (fun _ _ _ h => h) (Or.inl ⟨by rfl, ?y16⟩) ?_
      case y16 => intro w; go_simp; first | done | with_reducible rfl
      refine wpAny_take (i := 17) (v := ?v17) rfl (by kernel_rfl) (by kernel_rfl) (by kernel_rfl) (fun _ _ _ h => h) (Or.inl ⟨by rfl, ?y17⟩) ?_
      case y17 => intro w; go_simp; first | done | with_reducible rfl
      refine wpAny_take (i := 18) (v := ?v18) rfl (by kernel_rfl) (by kernel_rfl) (by kernel_rfl) (fun _ _ _ h => h) (Or.inl ⟨by rfl, ?y18⟩) ?_
      case y18 => intro w; go_simp; first | done | with_reducible rfl
      refine wpAny_take (i := 19) (v := ?v19) rfl (by kernel_rfl) (by kernel_rfl) (by kernel_rfl) (fun _ _ _ h => h) (Or.inl ⟨by rfl, ?y19⟩) ?_
      case y19 => intro w; go_simp; first | done | with_reducible rfl
      refine wpAny_take (i := 20) (v := ?v20) rfl (by kernel_rfl) (by kernel_rfl) (by kernel_rfl) (fun _ _ _ h => h) (Or.inl ⟨by rfl, ?y20⟩) ?_
      case y20 => intro w; go_simp; first | done | with_reducible rfl
      refine wpAny_take (i := 21) (v := ?v21) rfl (by kernel_rfl) (by kernel_rfl) (by kernel_rfl) (fun _ _ _ h => h) (Or.inl ⟨by rfl, ?y21⟩) ?_
      case y21 => intro w; go_simp; first | done | with_reducible rfl
      refine wpAny_take (i := 22) (v := ?v22) rfl (by kernel_rfl) (by kernel_rfl) (by kernel_rfl) (fun _ _ _ h => h) (Or.inl ⟨by rfl, ?y22⟩) ?_
      case y22 => intro w; go_simp; first | done | with_reducible rfl
      refine wpAny_take (i := 23) (v := ?v23) rfl (by kernel_rfl) (by kernel_rfl) (by kernel_rfl) (fun _ _ _ h => h) (Or.inl ⟨by rfl, ?y23⟩) ?_
      case y23 => intro w; go_simp; first | done | with_reducible rfl
      refine wpAny_take (i := 24) (v := ?v24) rfl (by kernel_rfl) (by kernel_rfl) (by kernel_rfl) (fun _ _ _ h => h) (Or.inl ⟨by rfl, ?y24⟩) ?_
      case y24 => intro w; go_simp; first | done | with_reducible rfl
      refine wpAny_take (i := 25) (v := ?v25) rfl (by kernel_rfl) (by kernel_rfl) (by kernel_rfl) (fun _ _ _ h => h) (Or.inl ⟨by rfl, ?y25⟩) ?_
      case y25 => intro w; go_simp; first | done | with_reducible rfl
      refine wpAny_take (i := 26) (v := ?v26) rfl (by kernel_rfl) (by kernel_rfl) (by kernel_rfl) (fun _ _ _ h => h) (Or.inl ⟨by rfl, ?y26⟩) ?_
      case y26 => intro w; go_simp; first | done | with_reducible rfl
      refine wpAny_take (i := 27) (v := ?v27) rfl (by kernel_rfl) (by kernel_rfl) (by kernel_rfl) (fun _ _ _ h => h) (Or.inl ⟨by rfl, ?y27⟩) ?_
      case y27 => intro w; go_simp; first | done | with_reducible rfl
      refine wpAny_take (i := 28) (v := ?v28) rfl (by kernel_rfl) (by kernel_rfl) (by kernel_rfl) (fun _ _ _ h => h) (Or.inl ⟨by rfl, ?y28⟩) ?_
      case y28 => intro w; go_simp; first | done | with_reducible rfl
      refine wpAny_take (i := 29) (v := ?v29) rfl (by kernel_rfl) (by kernel_rfl) (by kernel_rfl) (fun _ _ _ h => h) (Or.inl ⟨by rfl, ?y29⟩) ?_
      case y29 => intro w; go_simp; first | done | with_reducible rfl
      refine wpAny_take (i := 30) (v := ?v30) rfl (by kernel_rfl) (by kernel_rfl) (by kernel_rfl) (fun _ _ _ h => h) (Or.inl ⟨by rfl, ?y30⟩) ?_
      case y30 => intro w; go_simp; first | done | with_reducible rfl
      refine wpAny_take (i := 31) (v := ?v31) rfl (by kernel_rfl) (by kernel_rfl) (by kernel_rfl) (fun _ _ _ h => h) (Or.inl ⟨by rfl, ?y31⟩) ?_
      case y31 => intro w; go_simp; first | done | with_reducible rfl
      refine wpAny_take (i := 32) (v := ?v32) rfl (by kernel_rfl) (by kernel_rfl) (by kernel_rfl) (fun _ _ _ h => h) (Or.inl ⟨by rfl, ?y32⟩) ?_
      case y32 => intro w; go_simp; first | done | with_reducible rfl
      refine wpAny_take (i := 33) (v := ?v33) rfl (by kernel_rfl) (by kernel_rfl) (by kernel_rfl) (fun _ _ _ h => h) (Or.inl ⟨by rfl, ?y33⟩) ?_
      case y33 => intro w; go_simp; first | done | with_reducible rfl
      refine wpAny_take (i := 34) (v := ?v34) rfl (by kernel_rfl) (by kernel_rfl) (by kernel_rfl) (fun _ _ _ h => h) (Or.inl ⟨by rfl, ?y34⟩) ?_
      case y34 => intro w; go_simp; first | done | with_reducible rfl
      refine wpAny_take (i := 35) (v := ?v35) rfl (by kernel_rfl) (by kernel_rfl) (by kernel_rfl) (fun _ _ _ h => h) (Or.inl ⟨by rfl, ?y35⟩) ?_
      case y35 => intro w; go_simp; first | done | with_reducible rfl
      refine wpAny_take (i := 36) (v := ?v36) rfl (by kernel_rfl) (by kernel_rfl) (by kernel_rfl) (fun _ _ _ h => h) (Or.inl ⟨by rfl, ?y36⟩) ?_
      case y36 => intro w; go_simp; first | done | with_reducible rfl
      refine wpAny_take (i := 37) (v := ?v37) rfl (by kernel_rfl) (by kernel_rfl) (by kernel_rfl) (fun _ _ _ h => h) (Or.inl ⟨by rfl, ?y37⟩) ?_
      case y37 => intro w; go_simp; first | done | with_reducible rfl
      refine wpAny_take (i := 38) (v := ?v38) rfl (by kernel_rfl) (by kernel_rfl) (by kernel_rfl) (fun _ _ _ h => h) (Or.inl ⟨by rfl, ?y38⟩) ?_
      case y38 => intro w; go_simp; first | done | with_reducible rfl
      refine wpAny_ready (rs := [39]) (by kernel_rfl) (by simp) ?_
      refine AllReady.cons rfl (fun K hK => ?_) AllReady.nil
      go_simp
      refine hK _ _ ?_
      clear hK K
      refine wpAny_ready (rs := [40]) (by kernel_rfl) (by simp) ?_
      refine AllReady.cons rfl (fun K hK => ?_) AllReady.nil
      refine step_append_digit rfl (.tmp 29) (.tmp 68) rfl g1 cap1 ds ds.length rfl rfl (r1.drew) _ (dig8 c0 c1 c2 c3 c4 c5 c6 c7) rfl _ 1 rfl rfl (by omega) ?_
      intro g2 cap2 w2 hO2 hg2 ha2
      refine hK _ _ ?_
      clear hK K
      refine wpAny_take (i := 41) (v := ?v41) rfl (by kernel_rfl) (by kernel_rfl) (by kernel_rfl) (fun _ _ _ h => h) (Or.inl ⟨by rfl, ?y41⟩) ?_
      case y41 => intro w; go_simp; first | done | with_reducible rfl
      refine wpAny_done (by kernel_rfl) ?_ _
      have hRD : RD w w2 g (num s) s.size v g2 cap2 (ds ++ [dig8 c0 c1 c2 c3 c4 c5 c6 c7]) := RD.step E.out.1 E.out.2 hlt r2 r3 r4 R.out r8 hO2 hg2 ha2
      clear hO2 hg2 ha2 r1 r2 r3 r4 r8 R
      have hv8 : v.size < t.size := by have := E.out.2; omega
      clear E or1 or2 or3 or4 or5 or6 hor7 b0 b1 b2 b3 b4 b5 b6 b7
      go_simp
      go_wp2
      go_roundw
      case rel => exact ⟨v, g2, cap2, ds ++ [dig8 c0 c1 c2 c3 c4 c5 c6 c7], by simp, rfl, hRD⟩
      case measure => exact hv8
    · by_cases ht0 : t.size = 0
      · have e0 : t.toList.isEmpty = true := by rw [toList_isEmpty]; simp [ht0]
        go_wp2
        go_ret
        refine ⟨g1, cap1, ds, rfl, r1, r2, r3, r4, ?_, R.out.2.2 ht0, ?_⟩
        · have h0 : num t = 0 := by
            unfold num
            have : t.data.toList.length = 0 := ht0
            rw [List.eq_nil_of_length_eq_zero this]; rfl
          have := R.out.1
          rw [h0] at this; omega
        · omega
      · have e0 : t.toList.isEmpty = false := by rw [toList_isEmpty]; simp [ht0]
        have hRT : RT w wr g g1 cap1 ds t 0 0 := ⟨r1, r2, rfl⟩
        clear r1 r2
        go_wp2
        go_loopw [6, 75] (fun p i wq => ∃ k top : Nat, k ≤ t.size ∧ i = .int .i64 k ∧ p = .int .u64 top ∧ RT w wq g g1 cap1 ds t k top)
          (fun _ i _ => t.size - intR i)
        case atStart => exact ⟨0, 0, Nat.zero_le _, rfl, rfl, hRT⟩
        case round =>
          clear hRT
          obtain ⟨k, top, hk, rfl, rfl, q1, q2, q3⟩ := hrel
          by_cases hkt : k < t.size
          · have ol := or_low top (t[k]'hkt) (by rw [q3]; exact numL_take_lt _ _ (by omega) (by show t.data.size < 8; exact Nat.lt_of_not_le hlt) hkt)
            have hRT : RT w wr g g1 cap1 ds t (k + 1) (top * 256 + (t[k]'hkt).toNat) := ⟨q1, q2, by rw [numL_take_succ _ _ (show k < t.data.toList.length from hkt), ← q3]; rfl⟩
            have bk := wrap_byte (t[k]'hkt)
            clear q1 q2 q3 R
            go_wp2
            go_roundw
            case rel => exact ⟨k + 1, _, by omega, by simp, rfl, hRT⟩
            case measure => simp [intR]; omega
          · have Q3 := Lib.hid q3; clear q3
            go_wp2_with (first
              | (at_builtin; refine wpList_append_digit rfl (.tmp 86) (.tmp 88) rfl g1 cap1 ds ds.length rfl rfl (q1.alloc _) ⟨wr.heap.size, 0, none⟩ top 1 rfl (one_digit wr top) (by omega) ?_))
            intro g2 cap2 w2 hO2 hg2 ha2
            have htop : top = num t := by
              rw [Q3.out, List.take_of_length_le (by show t.data.size ≤ k; exact Nat.le_of_not_lt hkt)]; rfl
            have hsz := q2.size
            go_wp2
            go_ret
            refine ⟨g2, cap2, ds ++ [top], by simp, hO2, grown_new q2 (grown_trans (World.grownBy_alloc wr _ (some g1)) hg2) r3, ?_, r4.snoc ?_, ?_, .inr ⟨ds, top, rfl, ?_⟩, ?_⟩
            · rcases ha2 with h | h
              · rw [h]; exact r3
              · right
                rw [h]
                have := World.size_alloc wr
                simp at this ⊢
                omega
            · rw [htop]
              have h1 := num_lt t
              have h2 : 256 ^ t.size ≤ 256 ^ 7 := Nat.pow_le_pow_right (by omega) (by omega)
              unfold B64; omega
            · rw [val_snoc, htop, ← R.out.1, Nat.mul_comm (num t)]; omega
            · intro h0
              rw [htop] at h0
              have h1 := numL_zero_NZ R.out.2.1 h0
              apply ht0
              show t.data.toList.length = 0
              rw [h1]; rfl
            · simp; omega

end Go.Proofs.YtemlhloipjbecaaDoor
