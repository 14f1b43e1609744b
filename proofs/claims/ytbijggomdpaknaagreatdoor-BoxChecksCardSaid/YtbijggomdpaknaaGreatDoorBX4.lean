/- Package box: Has, Within, Check; walked. -/
import Derived.Test.YtbijggomdpaknaaGreatDoorBA
import Derived.Test.YtbijggomdpaknaaGreatDoorHP
import Derived.Deep.CutBlock
namespace Go.Proofs.YtbijggomdpaknaaGreatDoor
open Go.RowKit Go.Shelf

set_option maxRecDepth 100000 in
set_option maxHeartbeats 3200000 in
theorem eqfN_any (w : World) (f : Nat) (hgo : ∀ (aa : Array Value) (W : World), Sem.run Tryz.prog (callFunc f aa) W = .ok (.enter f aa) W) (ad bd : Option Addr) (l : List SV) (p : List NV) (n c n' c' : Nat) (hn : l.length = n) (hn' : p.length = n') (hmax : n ≤ 1000) (hmax' : n' ≤ 1000) (hl : SAt w ad l) (hp : NAt w bd p) (q : SV → NV → Bool)
    (hcall : ∀ x ∈ l, ∀ y ∈ p, ∀ W, Calls Tryz.prog f #[sagg x, nagg y] W (Ret (.bool (q x y)) W)) (r : Bool) (hr : (decide (l.length = p.length) && (l.zip p).all fun z => q z.1 z.2) = r) :
    Calls Tryz.prog 35 #[.slice ad n c, .slice bd n' c', .func (.func f) #[] #[]] w (Ret (.bool r) w) := by
  rw [hn, hn'] at hr
  have hiff : r = true ↔ n = n' ∧ ∀ i (h1 : i < l.length) (h2 : i < p.length), q l[i] p[i] = true := by
    rw [← hr, Bool.and_eq_true, decide_eq_true_iff, zip_all]
  have HC := Lib.hid (And.intro hcall hiff)
  clear hcall hiff hr
  by_cases hnn : n = n'
  case neg =>
    have hrf : r = false := by
      cases r with
      | false => rfl
      | true => exact absurd (HC.out.2.1 rfl).1 hnn
    subst hrf
    clear hl hp hgo
    have hnn2 : ¬((n : Int) = n') := by omega
    go_enter Tryz.func35, Tryz.ntmps35
    go_wp2
    go_ret
    exact ⟨rfl, Below.refl _ _⟩
  subst hnn
  go_enter Tryz.func35, Tryz.ntmps35
  go_wp2
  go_loopw [17] (fun i wr => ∃ k : Nat, k ≤ n ∧ i = .int .i64 k ∧ (∀ j (h1 : j < l.length) (h2 : j < p.length), j < k → q l[j] p[j] = true) ∧ Below w.heap.size w wr) (fun i _ => n - intY i)
  case atStart => exact ⟨0, Nat.zero_le _, rfl, fun j _ _ h => by omega, Below.refl _ _⟩
  case round =>
    obtain ⟨k, hk, rfl, hall, hb⟩ := hrel
    by_cases hlt : k < n
    · have hkl : k < l.length := by omega
      have hkp : k < p.length := by omega
      obtain ⟨lb, lo, rfl, hlb, ⟨c0, c1, c2⟩, c3, c4, c5⟩ := hl.below hb k hkl
      obtain ⟨kb, ko, rfl, hkb, b0, b1, b2⟩ := hp.below hb k hkp
      have hcl := HC.out.1 _ (List.getElem_mem hkl) _ (List.getElem_mem hkp)
      have hst : q l[k] p[k] = true → ∀ j (h1 : j < l.length) (h2 : j < p.length), j < k + 1 → q l[j] p[j] = true := fun h j h1 h2 hj => by
        rcases Nat.lt_or_ge j k with h3 | h3
        · exact hall j h1 h2 h3
        · obtain rfl : j = k := by omega
          exact h
      have hno : q l[k] p[k] = false → r = false := fun h => by
        cases hr : r with
        | false => rfl
        | true => rw [(HC.out.2.1 hr).2 k hkl hkp] at h; cases h
      obtain ⟨v, hv⟩ : ∃ v, q l[k] p[k] = v := ⟨_, rfl⟩
      rw [hv] at hcl hst hno
      generalize l[k] = x at *
      generalize p[k] = y at *
      clear hall
      obtain ⟨⟨m1, s1, d1⟩, n1, t1, e1⟩ := x
      obtain ⟨m2, s2, d2⟩ := y
      simp only at c0 c1 c2 c3 c4 c5 b0 b1 b2
      replace hcl : ∀ W, Calls Tryz.prog f #[.agg #[.bool m1, .string s1, .int .i64 d1, .bool n1, .string t1, .int .i64 e1], .agg #[.bool m2, .string s2, .int .i64 d2]] W (Ret (.bool v) W) := hcl
      have HX := Lib.hid (And.intro hcl (And.intro hst hno))
      clear hcl hst hno hv
      have hS := Sk.new wr 41 m1 s1 d1 n1 t1 e1
      replace b0 := (((Below.refl wr.heap.size wr).alloc (Nat.le_refl _) (Obj.cells #[Value.bool m1, Value.string s1, Value.int IntKind.i64 d1, Value.bool n1, Value.string t1, Value.int IntKind.i64 e1] 41)).cell hkb).trans b0
      replace b1 := (((Below.refl wr.heap.size wr).alloc (Nat.le_refl _) (Obj.cells #[Value.bool m1, Value.string s1, Value.int IntKind.i64 d1, Value.bool n1, Value.string t1, Value.int IntKind.i64 e1] 41)).cell hkb).trans b1
      replace b2 := (((Below.refl wr.heap.size wr).alloc (Nat.le_refl _) (Obj.cells #[Value.bool m1, Value.string s1, Value.int IntKind.i64 d1, Value.bool n1, Value.string t1, Value.int IntKind.i64 e1] 41)).cell hkb).trans b2
      replace hb := hb.alloc hb.size (Obj.cells #[Value.bool m1, Value.string s1, Value.int IntKind.i64 d1, Value.bool n1, Value.string t1, Value.int IntKind.i64 e1] 41)
      have hV := Nk.new (wr.alloc (Obj.cells #[Value.bool m1, Value.string s1, Value.int IntKind.i64 d1, Value.bool n1, Value.string t1, Value.int IntKind.i64 e1] 41)) m2 s2 d2
      rw [World.size_alloc] at hV
      replace hS := hS.alloc (Obj.cells #[Value.bool m2, Value.string s2, Value.int IntKind.i64 d2] 36)
      replace hb := hb.alloc hb.size (Obj.cells #[Value.bool m2, Value.string s2, Value.int IntKind.i64 d2] 36)
      obtain ⟨S0, S1, S2, S3, S4, S5⟩ := hS.cells
      obtain ⟨V0, V1, V2⟩ := hV.cells
      go_wp2_with fail
      clear c0 c1 c2 c3 c4 c5 b0 b1 b2 S0 S1 S2 S3 S4 S5 V0 V1 V2 hS hV
      refine (HX.out.1 _).mono ?_
      rintro e' V ⟨rfl, hq⟩
      replace hb := below_next hb hq
      clear hq
      cases v with
      | true =>
        have HS := Lib.hid (HX.out.2.1 rfl)
        clear HX
        go_wp2
        exact ⟨⟨k + 1, hlt, rfl, HS.out, hb⟩, by simp [intY]; omega⟩
      | false =>
        obtain rfl := HX.out.2.2 rfl
        clear HX
        go_wp2
        go_ret
        exact ⟨rfl, hb⟩
    · obtain rfl : k = n := by omega
      have hrt : r = true := HC.out.2.2 ⟨by trivial, fun i h1 h2 => hall i h1 h2 (by omega)⟩
      subst hrt
      clear hall
      go_wp2
      go_ret
      exact ⟨rfl, hb⟩

set_option maxRecDepth 100000 in
set_option maxHeartbeats 3200000 in
theorem eqfS_any (w : World) (f : Nat) (hgo : ∀ (aa : Array Value) (W : World), Sem.run Tryz.prog (callFunc f aa) W = .ok (.enter f aa) W) (ad bd : Option Addr) (l : List SV) (p : List SV) (n c n' c' : Nat) (hn : l.length = n) (hn' : p.length = n') (hmax : n ≤ 1000) (hmax' : n' ≤ 1000) (hl : SAt w ad l) (hp : SAt w bd p) (q : SV → SV → Bool)
    (hcall : ∀ x ∈ l, ∀ y ∈ p, ∀ W, Calls Tryz.prog f #[sagg x, sagg y] W (Ret (.bool (q x y)) W)) (r : Bool) (hr : (decide (l.length = p.length) && (l.zip p).all fun z => q z.1 z.2) = r) :
    Calls Tryz.prog 38 #[.slice ad n c, .slice bd n' c', .func (.func f) #[] #[]] w (Ret (.bool r) w) := by
  rw [hn, hn'] at hr
  have hiff : r = true ↔ n = n' ∧ ∀ i (h1 : i < l.length) (h2 : i < p.length), q l[i] p[i] = true := by
    rw [← hr, Bool.and_eq_true, decide_eq_true_iff, zip_all]
  have HC := Lib.hid (And.intro hcall hiff)
  clear hcall hiff hr
  by_cases hnn : n = n'
  case neg =>
    have hrf : r = false := by
      cases r with
      | false => rfl
      | true => exact absurd (HC.out.2.1 rfl).1 hnn
    subst hrf
    clear hl hp hgo
    have hnn2 : ¬((n : Int) = n') := by omega
    go_enter Tryz.func38, Tryz.ntmps38
    go_wp2
    go_ret
    exact ⟨rfl, Below.refl _ _⟩
  subst hnn
  go_enter Tryz.func38, Tryz.ntmps38
  go_wp2
  go_loopw [17] (fun i wr => ∃ k : Nat, k ≤ n ∧ i = .int .i64 k ∧ (∀ j (h1 : j < l.length) (h2 : j < p.length), j < k → q l[j] p[j] = true) ∧ Below w.heap.size w wr) (fun i _ => n - intY i)
  case atStart => exact ⟨0, Nat.zero_le _, rfl, fun j _ _ h => by omega, Below.refl _ _⟩
  case round =>
    obtain ⟨k, hk, rfl, hall, hb⟩ := hrel
    by_cases hlt : k < n
    · have hkl : k < l.length := by omega
      have hkp : k < p.length := by omega
      obtain ⟨lb, lo, rfl, hlb, ⟨c0, c1, c2⟩, c3, c4, c5⟩ := hl.below hb k hkl
      obtain ⟨kb, ko, rfl, hkb, ⟨b0, b1, b2⟩, b3, b4, b5⟩ := hp.below hb k hkp
      have hcl := HC.out.1 _ (List.getElem_mem hkl) _ (List.getElem_mem hkp)
      have hst : q l[k] p[k] = true → ∀ j (h1 : j < l.length) (h2 : j < p.length), j < k + 1 → q l[j] p[j] = true := fun h j h1 h2 hj => by
        rcases Nat.lt_or_ge j k with h3 | h3
        · exact hall j h1 h2 h3
        · obtain rfl : j = k := by omega
          exact h
      have hno : q l[k] p[k] = false → r = false := fun h => by
        cases hr : r with
        | false => rfl
        | true => rw [(HC.out.2.1 hr).2 k hkl hkp] at h; cases h
      obtain ⟨v, hv⟩ : ∃ v, q l[k] p[k] = v := ⟨_, rfl⟩
      rw [hv] at hcl hst hno
      generalize l[k] = x at *
      generalize p[k] = y at *
      clear hall
      obtain ⟨⟨m1, s1, d1⟩, n1, t1, e1⟩ := x
      obtain ⟨⟨m2, s2, d2⟩, n2, t2, e2⟩ := y
      simp only at c0 c1 c2 c3 c4 c5 b0 b1 b2 b3 b4 b5
      replace hcl : ∀ W, Calls Tryz.prog f #[.agg #[.bool m1, .string s1, .int .i64 d1, .bool n1, .string t1, .int .i64 e1], .agg #[.bool m2, .string s2, .int .i64 d2, .bool n2, .string t2, .int .i64 e2]] W (Ret (.bool v) W) := hcl
      have HX := Lib.hid (And.intro hcl (And.intro hst hno))
      clear hcl hst hno hv
      have hS := Sk.new wr 41 m1 s1 d1 n1 t1 e1
      replace b0 := (((Below.refl wr.heap.size wr).alloc (Nat.le_refl _) (Obj.cells #[Value.bool m1, Value.string s1, Value.int IntKind.i64 d1, Value.bool n1, Value.string t1, Value.int IntKind.i64 e1] 41)).cell hkb).trans b0
      replace b1 := (((Below.refl wr.heap.size wr).alloc (Nat.le_refl _) (Obj.cells #[Value.bool m1, Value.string s1, Value.int IntKind.i64 d1, Value.bool n1, Value.string t1, Value.int IntKind.i64 e1] 41)).cell hkb).trans b1
      replace b2 := (((Below.refl wr.heap.size wr).alloc (Nat.le_refl _) (Obj.cells #[Value.bool m1, Value.string s1, Value.int IntKind.i64 d1, Value.bool n1, Value.string t1, Value.int IntKind.i64 e1] 41)).cell hkb).trans b2
      replace b3 := (((Below.refl wr.heap.size wr).alloc (Nat.le_refl _) (Obj.cells #[Value.bool m1, Value.string s1, Value.int IntKind.i64 d1, Value.bool n1, Value.string t1, Value.int IntKind.i64 e1] 41)).cell hkb).trans b3
      replace b4 := (((Below.refl wr.heap.size wr).alloc (Nat.le_refl _) (Obj.cells #[Value.bool m1, Value.string s1, Value.int IntKind.i64 d1, Value.bool n1, Value.string t1, Value.int IntKind.i64 e1] 41)).cell hkb).trans b4
      replace b5 := (((Below.refl wr.heap.size wr).alloc (Nat.le_refl _) (Obj.cells #[Value.bool m1, Value.string s1, Value.int IntKind.i64 d1, Value.bool n1, Value.string t1, Value.int IntKind.i64 e1] 41)).cell hkb).trans b5
      replace hb := hb.alloc hb.size (Obj.cells #[Value.bool m1, Value.string s1, Value.int IntKind.i64 d1, Value.bool n1, Value.string t1, Value.int IntKind.i64 e1] 41)
      have hV := Sk.new (wr.alloc (Obj.cells #[Value.bool m1, Value.string s1, Value.int IntKind.i64 d1, Value.bool n1, Value.string t1, Value.int IntKind.i64 e1] 41)) 41 m2 s2 d2 n2 t2 e2
      rw [World.size_alloc] at hV
      replace hS := hS.alloc (Obj.cells #[Value.bool m2, Value.string s2, Value.int IntKind.i64 d2, Value.bool n2, Value.string t2, Value.int IntKind.i64 e2] 41)
      replace hb := hb.alloc hb.size (Obj.cells #[Value.bool m2, Value.string s2, Value.int IntKind.i64 d2, Value.bool n2, Value.string t2, Value.int IntKind.i64 e2] 41)
      obtain ⟨S0, S1, S2, S3, S4, S5⟩ := hS.cells
      obtain ⟨V0, V1, V2, V3, V4, V5⟩ := hV.cells
      go_wp2_with fail
      clear c0 c1 c2 c3 c4 c5 b0 b1 b2 b3 b4 b5 S0 S1 S2 S3 S4 S5 V0 V1 V2 V3 V4 V5 hS hV
      refine (HX.out.1 _).mono ?_
      rintro e' V ⟨rfl, hq⟩
      replace hb := below_next hb hq
      clear hq
      cases v with
      | true =>
        have HS := Lib.hid (HX.out.2.1 rfl)
        clear HX
        go_wp2
        exact ⟨⟨k + 1, hlt, rfl, HS.out, hb⟩, by simp [intY]; omega⟩
      | false =>
        obtain rfl := HX.out.2.2 rfl
        clear HX
        go_wp2
        go_ret
        exact ⟨rfl, hb⟩
    · obtain rfl : k = n := by omega
      have hrt : r = true := HC.out.2.2 ⟨by trivial, fun i h1 h2 => hall i h1 h2 (by omega)⟩
      subst hrt
      clear hall
      go_wp2
      go_ret
      exact ⟨rfl, hb⟩

set_option maxRecDepth 100000 in
set_option maxHeartbeats 3200000 in
theorem bhas_any (w : World) (ad bd : Option Addr) (l : List SV) (p : List NV) (n c n' c' : Nat) (hn : l.length = n) (hn' : p.length = n') (hmax : n ≤ 1000) (hmax' : n' ≤ 1000) (hl : SAt w ad l) (hp : NAt w bd p) (hs : ∀ x ∈ l, O3 x) (hs' : ∀ x ∈ p, Ok3 x.2.1 x.2.2) :
    Calls Tryz.prog 11 #[.slice ad n c, .slice bd n' c'] w (Ret (.bool (hasB l p)) w) := by
  have hc := eqfN_any w 36 goes_shas ad bd l p n c n' c' hn hn' hmax hmax' hl hp inS (fun x hx y hy W => c_has W x y (hs x hx) (hs' y hy)) (hasB l p) rfl
  clear hl hp hs hs'
  generalize hasB l p = r at *
  go_enter Tryz.func11, Tryz.ntmps11
  go_wp2_with fail
  refine hc.mono ?_
  rintro e W ⟨rfl, hq⟩
  go_wp2
  go_ret
  exact ⟨rfl, hq⟩

set_option maxRecDepth 100000 in
set_option maxHeartbeats 3200000 in
theorem bwithin_any (w : World) (ad bd : Option Addr) (l p : List SV) (n c n' c' : Nat) (hn : l.length = n) (hn' : p.length = n') (hmax : n ≤ 1000) (hmax' : n' ≤ 1000) (hl : SAt w ad l) (hp : SAt w bd p) (hs : ∀ x ∈ l, O3 x) (hs' : ∀ x ∈ p, O3 x) :
    Calls Tryz.prog 13 #[.slice ad n c, .slice bd n' c'] w (Ret (.bool (withB l p)) w) := by
  have hc := eqfS_any w 39 goes_swithin ad bd l p n c n' c' hn hn' hmax hmax' hl hp wiS (fun x hx y hy W => c_within W x y (hs x hx) (hs' y hy)) (withB l p) rfl
  clear hl hp hs hs'
  generalize withB l p = r at *
  go_enter Tryz.func13, Tryz.ntmps13
  go_wp2_with fail
  refine hc.mono ?_
  rintro e W ⟨rfl, hq⟩
  go_wp2
  go_ret
  exact ⟨rfl, hq⟩

set_option maxRecDepth 100000 in
set_option maxHeartbeats 3200000 in
theorem bcheck1_any (w : World) (x : SV) (h : O3 x) (r : Bool) (hr : decide (0 ≤ dsg (nvl x.1 - nvl x.2)) = r) : Calls Tryz.prog 30 (#[sagg x] ++ #[]) w (Ret (.bool r) w) := by
  have hc := fun W => ycmp_any W x.1.1 x.2.1 x.1.2.1 x.2.2.1 x.1.2.2 x.2.2.2 (by have := h.1.1; omega) (by have := h.2.1; omega) (by have := h.1.2; omega) (by have := h.2.2; omega) (dsg (nvl x.1 - nvl x.2)) rfl
  clear h
  obtain ⟨z, hz⟩ : ∃ z, dsg (nvl x.1 - nvl x.2) = z := ⟨_, rfl⟩
  rw [hz] at hc hr
  clear hz
  obtain ⟨⟨m, s, d⟩, n, t, e⟩ := x
  replace hc : ∀ W, Calls Tryz.prog 31 #[.agg #[.bool m, .string s, .int .i64 d], .agg #[.bool n, .string t, .int .i64 e]] W (Ret (.int .i64 z) W) := hc
  show Calls Tryz.prog 30 #[.agg #[.bool m, .string s, .int .i64 d, .bool n, .string t, .int .i64 e]] w (Ret (.bool r) w)
  go_enter Tryz.func30, Tryz.ntmps30
  have hA := Sk.new w 41 m s d n t e
  have hb := (Below.refl w.heap.size w).alloc (Nat.le_refl _) (Obj.cells #[Value.bool m, Value.string s, Value.int IntKind.i64 d, Value.bool n, Value.string t, Value.int IntKind.i64 e] 41)
  obtain ⟨A0, A1, A2, A3, A4, A5⟩ := hA.cells
  go_wp2_with fail
  clear A0 A1 A2 A3 A4 A5 hA
  refine (hc _).mono ?_
  rintro e' V ⟨rfl, hq⟩
  replace hb := below_next hb hq
  clear hq hc
  by_cases h0 : 0 ≤ z
  · obtain rfl : true = r := by rw [← hr, decide_eq_true h0]
    go_wp2
    go_ret
    exact ⟨rfl, hb⟩
  · obtain rfl : false = r := by rw [← hr, decide_eq_false h0]
    go_wp2
    go_ret
    exact ⟨rfl, hb⟩
/-- The first place where a test holds, looked for. -/
theorem any_take {α : Type} {p : α → Bool} {l : List α} {i : Nat} (h : i < l.length) (h1 : (l.take i).any p = false) (h2 : p l[i] = false) : (l.take (i + 1)).any p = false := by
  rw [List.take_succ_eq_append_getElem h, List.any_append, h1]
  simp [h2]

set_option maxRecDepth 100000 in
set_option maxHeartbeats 3200000 in
theorem indexS_any (p : SV → Bool) (f : Nat) (caps : Array Value) (hgo : ∀ (aa : Array Value) (W : World), Sem.run Tryz.prog (callFunc f aa) W = .ok (.enter f aa) W) (w : World) (ad : Option Addr) (n c : Nat) (l : List SV) (hl : l.length = n) (hmax : n ≤ 1000000) (hp : SAt w ad l)
    (hcall : ∀ W, Below w.heap.size w W → ∀ x ∈ l, Calls Tryz.prog f (#[sagg x] ++ caps) W (Ret (.bool (p x)) W)) :
    Calls Tryz.prog 69 #[.slice ad n c, .func (.func f) #[] caps] w (fun e w' => ∃ r : Int, e = .returned (.int .i64 r) ∧ decide (0 ≤ r) = l.any p ∧ Below w.heap.size w w') := by
  go_enter Tryz.func69, Tryz.ntmps69
  go_wp2
  go_loopw [8] (fun iv wr => ∃ i : Nat, iv = .int .i64 i ∧ i ≤ n ∧ (l.take i).any p = false ∧ Below w.heap.size w wr) (fun iv _ => n - (RowKit.intOf iv).toNat)
  case atStart => exact ⟨0, rfl, Nat.zero_le _, rfl, Below.refl _ _⟩
  case round =>
    obtain ⟨i, rfl, hi, hno, hb⟩ := hrel
    by_cases hik : i < n
    · have hil : i < l.length := by omega
      obtain ⟨lb, lo, rfl, hlb, ⟨c0, c1, c2⟩, c3, c4, c5⟩ := hp.below hb i hil
      have hc := hcall wr hb l[i] (List.getElem_mem hil)
      have hst := any_take hil hno
      have hany : p l[i] = true → l.any p = true := fun h => List.any_eq_true.2 ⟨l[i], List.getElem_mem hil, h⟩
      generalize l[i] = x at *
      obtain ⟨q, hq⟩ : ∃ q, p x = q := ⟨_, rfl⟩
      rw [hq] at hc hany hst
      obtain ⟨⟨m1, s1, d1⟩, n1, t1, e1⟩ := x
      simp only at c0 c1 c2 c3 c4 c5
      replace hc : Calls Tryz.prog f (#[.agg #[.bool m1, .string s1, .int .i64 d1, .bool n1, .string t1, .int .i64 e1]] ++ caps) wr (Ret (.bool q) wr) := hc
      clear hcall hp
      go_wp2_with fail
      refine hc.mono ?_
      rintro e W1 ⟨rfl, hq1⟩
      have hb1 := below_next hb hq1
      clear hc hq1 c0 c1 c2 c3 c4 c5
      cases q with
      | true =>
        have HA := Lib.hid (hany rfl)
        clear hany hst
        go_wp2
        go_ret
        exact ⟨(i : Int), rfl, by rw [HA.out]; simp, hb1⟩
      | false =>
        have HS := Lib.hid (hst rfl)
        clear hany hst
        go_wp2
        exact ⟨⟨i + 1, rfl, hik, HS.out, hb1⟩, by simp [RowKit.intOf]; omega⟩
    · obtain rfl : i = n := by omega
      rw [List.take_of_length_le (by omega)] at hno
      have HN := Lib.hid hno
      clear hno hcall hp
      go_wp2
      go_ret
      exact ⟨-1, rfl, by rw [HN.out]; decide, hb⟩

set_option maxRecDepth 100000 in
set_option maxHeartbeats 3200000 in
theorem containsS_any (p : SV → Bool) (f : Nat) (caps : Array Value) (hgo : ∀ (aa : Array Value) (W : World), Sem.run Tryz.prog (callFunc f aa) W = .ok (.enter f aa) W) (w : World) (ad : Option Addr) (n c : Nat) (l : List SV) (hl : l.length = n) (hmax : n ≤ 1000000) (hp : SAt w ad l)
    (hcall : ∀ W, Below w.heap.size w W → ∀ x ∈ l, Calls Tryz.prog f (#[sagg x] ++ caps) W (Ret (.bool (p x)) W)) :
    Calls Tryz.prog 32 #[.slice ad n c, .func (.func f) #[] caps] w (Ret (.bool (l.any p)) w) := by
  have hc := indexS_any p f caps hgo w ad n c l hl hmax hp hcall
  clear hcall hgo
  go_enter Tryz.func32, Tryz.ntmps32
  go_wp2_with fail
  refine hc.mono ?_
  rintro e W1 ⟨r, rfl, hr, hq⟩
  go_wp2
  go_ret
  exact ⟨rfl, hq⟩
/-- Is a span flat, or turned round, as it is handed in? -/
def flatS (x : SV) : Bool := decide (0 ≤ dsg (nvl x.1 - nvl x.2))
/-- What Check says. -/
def checkB (l : List SV) : Int := if l = [] then 1 else if l.any flatS then 5 else 0

set_option maxRecDepth 100000 in
set_option maxHeartbeats 3200000 in
theorem bcheck_any (w : World) (ad : Option Addr) (l : List SV) (n c : Nat) (hn : l.length = n) (hmax : n ≤ 1000) (hl : SAt w ad l) (hs : ∀ x ∈ l, O3 x) :
    Calls Tryz.prog 7 #[.slice ad n c] w (Ret (.int .i64 (checkB l)) w) := by
  by_cases h0 : l = []
  · subst h0
    obtain rfl : n = 0 := hn.symm
    clear hl hs
    show Calls _ _ _ _ (Ret (.int .i64 1) w)
    go_enter Tryz.func7, Tryz.ntmps7
    go_wp2
    go_ret
    exact ⟨rfl, Below.refl _ _⟩
  have hpos : 0 < n := by
    cases l with
    | nil => exact absurd rfl h0
    | cons x l => rw [← hn]; exact Nat.succ_pos _
  have hn0 : ¬(n : Int) = 0 := by omega
  have hc := containsS_any flatS 30 #[] goes_bcheck1 w ad n c l hn (by omega) hl (fun W _ x hx => bcheck1_any W x (hs x hx) _ rfl)
  have hv : checkB l = if l.any flatS then 5 else 0 := by unfold checkB; rw [if_neg h0]
  rw [hv]
  clear hv hl hs h0
  generalize l.any flatS = q at *
  obtain ⟨v, hv⟩ : ∃ v : Int, (if q = true then 5 else 0) = v := ⟨_, rfl⟩
  rw [hv]
  replace hv := Lib.hid hv
  go_enter Tryz.func7, Tryz.ntmps7
  go_wp2_with fail
  refine hc.mono ?_
  rintro e W1 ⟨rfl, hq⟩
  cases q with
  | true =>
    obtain rfl : 5 = v := hv.out
    go_wp2
    go_ret
    exact ⟨rfl, hq⟩
  | false =>
    obtain rfl : 0 = v := hv.out
    go_wp2
    go_ret
    exact ⟨rfl, hq⟩
end Go.Proofs.YtbijggomdpaknaaGreatDoor
