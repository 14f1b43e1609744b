/- The document's answer whether a whole number is small, walked. -/
import Derived.Test.YtmenngmejehofaaGreatDoorWRef3
import Derived.Test.YtmenngmejehofaaGreatDoorWSmall
import Derived.Test.YtmenngmejehofaaGreatDoorWDag2
import Derived.Deep.DeepFit
namespace Go.Proofs.YtmenngmejehofaaGreatDoor
open Go.RowKit Go.Shelf
def intSq : Value → Nat | .int _ n => n.toNat | _ => 0

set_option maxRecDepth 100000 in
set_option maxHeartbeats 1600000 in
theorem rsmall_A (w : World) (m : Bool) (s : ByteArray) (hs : s.size ≤ 1000) (x : Int) (ok : Bool) (hx : smallI (wv m s) = x) (ho : isSmall (wv m s) = ok) (hr : wv m s < -9223372036854775808) :
    Calls Tryz.prog 18 #[wi m s] w (Ret (.tuple #[.int .i64 x, .bool ok]) w) := by
  obtain ⟨za, oa, ea, va, sa⟩ := nmw (z := -9223372036854775808) (k := 9) (by decide)
  obtain ⟨zb, ob, eb, vb, sb⟩ := nmw (z := 9223372036854775807) (k := 9) (by decide)
  obtain ⟨c, hc⟩ : ∃ c, sg (wv m s - wv za oa) = c := ⟨_, rfl⟩
  obtain ⟨d, hd⟩ : ∃ d, sg (wv m s - wv zb ob) = d := ⟨_, rfl⟩
  have hc0 : decide (c < 0) = true := by apply decide_eq_true; rw [← hc, va]; rcases sg_cases (wv m s - -9223372036854775808) with ⟨h1, h2⟩ | ⟨h1, h2⟩ | ⟨h1, h2⟩ <;> omega
  obtain ⟨e1, e2⟩ := small_not (z := wv m s) (by omega)
  have hxe := hx.symm.trans e1
  have hoe := ho.symm.trans e2
  have HE := Lib.hid (And.intro ea (And.intro eb (And.intro hc hd)))
  have HX := Lib.hid (And.intro hxe hoe)
  have HR := Lib.hid hr
  clear ea eb hc hd e1 e2 hx ho hxe hoe va vb hr
  unfold wi
  go_enter Tryz.func18, Tryz.ntmps18
  go_wp2_with fail
  obtain ⟨hA, hb⟩ := blocks1 w #[Value.bool m, Value.string s]
  generalize (w.alloc (Obj.cells #[Value.bool m, Value.string s] 23)) = W0 at *
  have hin : (fun w' => Below w.heap.size w w' ∧ (w'.cell? ⟨w.heap.size, 0, none⟩ = some (.bool m) ∧ w'.cell? ⟨w.heap.size, 1, none⟩ = some (.string s))) W0.drew := ⟨hb.drew, hA.drew.cells⟩
  clear hb hA
  refine region_dag (fun w' => Below w.heap.size w w' ∧ (w'.cell? ⟨w.heap.size, 0, none⟩ = some (.bool m) ∧ w'.cell? ⟨w.heap.size, 1, none⟩ = some (.string s))) (fun fu li ac Wn => (fun w' => Below w.heap.size w w' ∧ (w'.cell? ⟨w.heap.size, 0, none⟩ = some (.bool m) ∧ w'.cell? ⟨w.heap.size, 1, none⟩ = some (.string s))) Wn ∧ ((fu = 10 ∧ li = #[false, false, false, false, false, false, false, false, false, false] ∧ ac = { tmps := #[.agg #[.bool m, .string s], .pointer (some ⟨w.heap.size, 0, none⟩), .int .i64 0, .bool false, undef, undef, undef, undef, undef, undef, undef, undef, undef, undef, undef, undef, undef, undef, undef, undef, undef, undef, undef, undef, undef, undef, undef, undef, undef, undef, undef, undef, undef, undef, undef, undef, undef, undef, undef, undef, undef, undef], defers := [] }) ∨ (fu = 8 ∧ li = #[true, true, false, false, false, false, false, false, false, false] ∧ ac = { tmps := #[.agg #[.bool m, .string s], .pointer (some ⟨w.heap.size, 0, none⟩), .int .i64 0, .bool false, undef, undef, .agg #[.bool m, .string s], .agg #[.bool za, .string oa], undef, undef, undef, undef, undef, undef, undef, undef, undef, undef, undef, undef, undef, undef, undef, undef, undef, undef, undef, undef, undef, undef, undef, undef, undef, undef, undef, undef, undef, undef, undef, undef, undef, undef], defers := [] }) ∨ (fu = 7 ∧ li = #[true, true, true, false, false, false, false, false, false, false] ∧ ∃ (x6 : Value) (x7 : Value), ac = { tmps := #[.agg #[.bool m, .string s], .pointer (some ⟨w.heap.size, 0, none⟩), .int .i64 0, .bool false, undef, undef, x6, x7, .int .i64 c, undef, undef, undef, undef, undef, undef, undef, undef, undef, undef, undef, undef, undef, undef, undef, undef, undef, undef, undef, undef, undef, undef, undef, undef, undef, undef, undef, undef, undef, undef, undef, undef, undef], defers := [] }))) (by kernel_rfl) ?_ ?_
  · exact ⟨hin, Or.inl (⟨rfl, rfl, rfl⟩)⟩
  · clear hin
    rintro fu li ac Wn ⟨hS, hI⟩ IH
    rcases hI with ⟨rfl, rfl, rfl⟩ | hI
    · refine dag_take (i := 0) (d := some 6) (v := ?v0n1) rfl rfl (by kernel_rfl) (by kernel_rfl) (by kernel_rfl) (fun _ _ _ h => h) (Or.inl ⟨by rfl, ?y0n1⟩) hS ?_
      case y0n1 => intro w hSw; (try dsimp only at hSw); go_simp; first | done | with_reducible rfl
      try simp only [Act.put, List.setIfInBounds_toArray, List.set_cons_zero, List.set_cons_succ]
      refine wpAnyH_ready (rs := [1]) (by kernel_rfl) (by simp) ?_
      refine AllReadyH.cons rfl (fun Kc hK => ?_) AllReadyH.nil
      go_simp
      go_fit (rof_any _ (-9223372036854775808) (by omega) (by omega) za oa HE.out.1)
      rintro e V ⟨rfl, hq⟩
      refine hK.out _ _ (hb1 hq hS) (fun hS' => ?_)
      exact IH.out _ _ _ _ (by omega) ⟨hS', Or.inr (Or.inl (⟨rfl, by kernel_rfl, rfl⟩))⟩
    rcases hI with ⟨rfl, rfl, rfl⟩ | hI
    · refine wpAnyH_ready (rs := [2]) (by kernel_rfl) (by simp) ?_
      refine AllReadyH.cons rfl (fun Kc hK => ?_) AllReadyH.nil
      go_simp
      go_fit (rcmp_any _ m za s oa (by omega) (by omega) c HE.out.2.2.1)
      rintro e V ⟨rfl, hq⟩
      refine hK.out _ _ (hb1 hq hS) (fun hS' => ?_)
      exact IH.out _ _ _ _ (by omega) ⟨hS', Or.inr (Or.inr (⟨rfl, by kernel_rfl, _, _, rfl⟩))⟩
    obtain ⟨rfl, rfl, x6, x7, rfl⟩ := hI
    refine dag_take (i := 3) (d := some 9) (v := ?v3n2) rfl rfl (by kernel_rfl) (by kernel_rfl) (by kernel_rfl) (fun _ _ _ h => h) (Or.inl ⟨by rfl, ?y3n2⟩) hS ?_
    case y3n2 => intro w hSw; (try dsimp only at hSw); go_simp; first | done | with_reducible rfl
    try simp only [Act.put, List.setIfInBounds_toArray, List.set_cons_zero, List.set_cons_succ]
    refine dag_take (i := 4) (d := some 10) (v := ?v4n3) rfl rfl (by kernel_rfl) (by kernel_rfl) (by kernel_rfl) (fun _ _ _ h => h) (Or.inl ⟨by rfl, ?y4n3⟩) hS ?_
    case y4n3 => intro w hSw; (try dsimp only at hSw); go_simp; first | done | with_reducible rfl
    try simp only [Act.put, List.setIfInBounds_toArray, List.set_cons_zero, List.set_cons_succ]
    refine dag_take (i := 5) (d := some 11) (v := undef) rfl rfl (by kernel_rfl) (by kernel_rfl) (by kernel_rfl) (fun _ _ _ h => h) (Or.inr ⟨by rfl, rfl⟩) hS ?_
    try simp only [Act.put, List.setIfInBounds_toArray, List.set_cons_zero, List.set_cons_succ]
    refine dag_take (i := 6) (d := some 12) (v := undef) rfl rfl (by kernel_rfl) (by kernel_rfl) (by kernel_rfl) (fun _ _ _ h => h) (Or.inr ⟨by rfl, rfl⟩) hS ?_
    try simp only [Act.put, List.setIfInBounds_toArray, List.set_cons_zero, List.set_cons_succ]
    refine dag_take (i := 7) (d := some 13) (v := undef) rfl rfl (by kernel_rfl) (by kernel_rfl) (by kernel_rfl) (fun _ _ _ h => h) (Or.inr ⟨by rfl, rfl⟩) hS ?_
    try simp only [Act.put, List.setIfInBounds_toArray, List.set_cons_zero, List.set_cons_succ]
    refine dag_take (i := 8) (d := some 14) (v := undef) rfl rfl (by kernel_rfl) (by kernel_rfl) (by kernel_rfl) (fun _ _ _ h => h) (Or.inr ⟨by rfl, rfl⟩) hS ?_
    try simp only [Act.put, List.setIfInBounds_toArray, List.set_cons_zero, List.set_cons_succ]
    refine dag_take (i := 9) (d := some 15) (v := ?v9n4) rfl rfl (by kernel_rfl) (by kernel_rfl) (by kernel_rfl) (fun _ _ _ h => h) (Or.inl ⟨by rfl, ?y9n4⟩) hS ?_
    case y9n4 => intro w hSw; (try dsimp only at hSw); go_simp; first | done | with_reducible rfl
    try simp only [Act.put, List.setIfInBounds_toArray, List.set_cons_zero, List.set_cons_succ]
    refine wpAnyH_done (by kernel_rfl) ?_ _
    clear IH HE
    obtain ⟨hb, hA0, hA1⟩ := hS
    go_wp2
    go_ret2
    exact ⟨by rw [HX.out.1, HX.out.2]; rfl, hb⟩

set_option maxRecDepth 100000 in
set_option maxHeartbeats 1600000 in
theorem rsmall_B (w : World) (m : Bool) (s : ByteArray) (hs : s.size ≤ 1000) (x : Int) (ok : Bool) (hx : smallI (wv m s) = x) (ho : isSmall (wv m s) = ok) (hr : 9223372036854775807 < wv m s) :
    Calls Tryz.prog 18 #[wi m s] w (Ret (.tuple #[.int .i64 x, .bool ok]) w) := by
  obtain ⟨za, oa, ea, va, sa⟩ := nmw (z := -9223372036854775808) (k := 9) (by decide)
  obtain ⟨zb, ob, eb, vb, sb⟩ := nmw (z := 9223372036854775807) (k := 9) (by decide)
  obtain ⟨c, hc⟩ : ∃ c, sg (wv m s - wv za oa) = c := ⟨_, rfl⟩
  obtain ⟨d, hd⟩ : ∃ d, sg (wv m s - wv zb ob) = d := ⟨_, rfl⟩
  have hc0 : decide (c < 0) = false := by apply decide_eq_false; rw [← hc, va]; rcases sg_cases (wv m s - -9223372036854775808) with ⟨h1, h2⟩ | ⟨h1, h2⟩ | ⟨h1, h2⟩ <;> omega
  have hd0 : decide (0 < d) = true := by apply decide_eq_true; rw [← hd, vb]; rcases sg_cases (wv m s - 9223372036854775807) with ⟨h1, h2⟩ | ⟨h1, h2⟩ | ⟨h1, h2⟩ <;> omega
  obtain ⟨e1, e2⟩ := small_not (z := wv m s) (by omega)
  have hxe := hx.symm.trans e1
  have hoe := ho.symm.trans e2
  have HE := Lib.hid (And.intro ea (And.intro eb (And.intro hc hd)))
  have HX := Lib.hid (And.intro hxe hoe)
  have HR := Lib.hid hr
  clear ea eb hc hd e1 e2 hx ho hxe hoe va vb hr
  unfold wi
  go_enter Tryz.func18, Tryz.ntmps18
  go_wp2_with fail
  obtain ⟨hA, hb⟩ := blocks1 w #[Value.bool m, Value.string s]
  generalize (w.alloc (Obj.cells #[Value.bool m, Value.string s] 23)) = W0 at *
  have hin : (fun w' => Below w.heap.size w w' ∧ (w'.cell? ⟨w.heap.size, 0, none⟩ = some (.bool m) ∧ w'.cell? ⟨w.heap.size, 1, none⟩ = some (.string s))) W0.drew := ⟨hb.drew, hA.drew.cells⟩
  clear hb hA
  refine region_dag (fun w' => Below w.heap.size w w' ∧ (w'.cell? ⟨w.heap.size, 0, none⟩ = some (.bool m) ∧ w'.cell? ⟨w.heap.size, 1, none⟩ = some (.string s))) (fun fu li ac Wn => (fun w' => Below w.heap.size w w' ∧ (w'.cell? ⟨w.heap.size, 0, none⟩ = some (.bool m) ∧ w'.cell? ⟨w.heap.size, 1, none⟩ = some (.string s))) Wn ∧ ((fu = 10 ∧ li = #[false, false, false, false, false, false, false, false, false, false] ∧ ac = { tmps := #[.agg #[.bool m, .string s], .pointer (some ⟨w.heap.size, 0, none⟩), .int .i64 0, .bool false, undef, undef, undef, undef, undef, undef, undef, undef, undef, undef, undef, undef, undef, undef, undef, undef, undef, undef, undef, undef, undef, undef, undef, undef, undef, undef, undef, undef, undef, undef, undef, undef, undef, undef, undef, undef, undef, undef], defers := [] }) ∨ (fu = 8 ∧ li = #[true, true, false, false, false, false, false, false, false, false] ∧ ac = { tmps := #[.agg #[.bool m, .string s], .pointer (some ⟨w.heap.size, 0, none⟩), .int .i64 0, .bool false, undef, undef, .agg #[.bool m, .string s], .agg #[.bool za, .string oa], undef, undef, undef, undef, undef, undef, undef, undef, undef, undef, undef, undef, undef, undef, undef, undef, undef, undef, undef, undef, undef, undef, undef, undef, undef, undef, undef, undef, undef, undef, undef, undef, undef, undef], defers := [] }) ∨ (fu = 7 ∧ li = #[true, true, true, false, false, false, false, false, false, false] ∧ ∃ (x6 : Value) (x7 : Value), ac = { tmps := #[.agg #[.bool m, .string s], .pointer (some ⟨w.heap.size, 0, none⟩), .int .i64 0, .bool false, undef, undef, x6, x7, .int .i64 c, undef, undef, undef, undef, undef, undef, undef, undef, undef, undef, undef, undef, undef, undef, undef, undef, undef, undef, undef, undef, undef, undef, undef, undef, undef, undef, undef, undef, undef, undef, undef, undef, undef], defers := [] }) ∨ (fu = 3 ∧ li = #[true, true, true, true, true, true, true, false, false, false] ∧ ∃ (x6 : Value) (x7 : Value) (x8 : Value) (x9 : Value), ac = { tmps := #[.agg #[.bool m, .string s], .pointer (some ⟨w.heap.size, 0, none⟩), .int .i64 0, .bool false, undef, undef, x6, x7, x8, x9, .bool false, .agg #[.bool m, .string s], .agg #[.bool zb, .string ob], undef, undef, undef, undef, undef, undef, undef, undef, undef, undef, undef, undef, undef, undef, undef, undef, undef, undef, undef, undef, undef, undef, undef, undef, undef, undef, undef, undef, undef], defers := [] }) ∨ (fu = 2 ∧ li = #[true, true, true, true, true, true, true, true, false, false] ∧ ∃ (x6 : Value) (x7 : Value) (x8 : Value) (x9 : Value) (x11 : Value) (x12 : Value), ac = { tmps := #[.agg #[.bool m, .string s], .pointer (some ⟨w.heap.size, 0, none⟩), .int .i64 0, .bool false, undef, undef, x6, x7, x8, x9, .bool false, x11, x12, .int .i64 d, undef, undef, undef, undef, undef, undef, undef, undef, undef, undef, undef, undef, undef, undef, undef, undef, undef, undef, undef, undef, undef, undef, undef, undef, undef, undef, undef, undef], defers := [] }))) (by kernel_rfl) ?_ ?_
  · exact ⟨hin, Or.inl (⟨rfl, rfl, rfl⟩)⟩
  · clear hin
    rintro fu li ac Wn ⟨hS, hI⟩ IH
    rcases hI with ⟨rfl, rfl, rfl⟩ | hI
    · refine dag_take (i := 0) (d := some 6) (v := ?v0n5) rfl rfl (by kernel_rfl) (by kernel_rfl) (by kernel_rfl) (fun _ _ _ h => h) (Or.inl ⟨by rfl, ?y0n5⟩) hS ?_
      case y0n5 => intro w hSw; (try dsimp only at hSw); go_simp; first | done | with_reducible rfl
      try simp only [Act.put, List.setIfInBounds_toArray, List.set_cons_zero, List.set_cons_succ]
      refine wpAnyH_ready (rs := [1]) (by kernel_rfl) (by simp) ?_
      refine AllReadyH.cons rfl (fun Kc hK => ?_) AllReadyH.nil
      go_simp
      go_fit (rof_any _ (-9223372036854775808) (by omega) (by omega) za oa HE.out.1)
      rintro e V ⟨rfl, hq⟩
      refine hK.out _ _ (hb1 hq hS) (fun hS' => ?_)
      exact IH.out _ _ _ _ (by omega) ⟨hS', Or.inr (Or.inl (⟨rfl, by kernel_rfl, rfl⟩))⟩
    rcases hI with ⟨rfl, rfl, rfl⟩ | hI
    · refine wpAnyH_ready (rs := [2]) (by kernel_rfl) (by simp) ?_
      refine AllReadyH.cons rfl (fun Kc hK => ?_) AllReadyH.nil
      go_simp
      go_fit (rcmp_any _ m za s oa (by omega) (by omega) c HE.out.2.2.1)
      rintro e V ⟨rfl, hq⟩
      refine hK.out _ _ (hb1 hq hS) (fun hS' => ?_)
      exact IH.out _ _ _ _ (by omega) ⟨hS', Or.inr (Or.inr (Or.inl (⟨rfl, by kernel_rfl, _, _, rfl⟩)))⟩
    rcases hI with ⟨rfl, rfl, x6, x7, rfl⟩ | hI
    · refine dag_take (i := 3) (d := some 9) (v := ?v3n6) rfl rfl (by kernel_rfl) (by kernel_rfl) (by kernel_rfl) (fun _ _ _ h => h) (Or.inl ⟨by rfl, ?y3n6⟩) hS ?_
      case y3n6 => intro w hSw; (try dsimp only at hSw); go_simp; first | done | with_reducible rfl
      try simp only [Act.put, List.setIfInBounds_toArray, List.set_cons_zero, List.set_cons_succ]
      refine dag_take (i := 4) (d := some 10) (v := ?v4n7) rfl rfl (by kernel_rfl) (by kernel_rfl) (by kernel_rfl) (fun _ _ _ h => h) (Or.inl ⟨by rfl, ?y4n7⟩) hS ?_
      case y4n7 => intro w hSw; (try dsimp only at hSw); go_simp; first | done | with_reducible rfl
      try simp only [Act.put, List.setIfInBounds_toArray, List.set_cons_zero, List.set_cons_succ]
      refine dag_take (i := 5) (d := some 11) (v := ?v5n8) rfl rfl (by kernel_rfl) (by kernel_rfl) (by kernel_rfl) (fun _ _ _ h => h) (Or.inl ⟨by rfl, ?y5n8⟩) hS ?_
      case y5n8 => intro w hSw; (try dsimp only at hSw); go_simp; first | done | with_reducible rfl
      try simp only [Act.put, List.setIfInBounds_toArray, List.set_cons_zero, List.set_cons_succ]
      refine wpAnyH_ready (rs := [6]) (by kernel_rfl) (by simp) ?_
      refine AllReadyH.cons rfl (fun Kc hK => ?_) AllReadyH.nil
      go_simp
      go_fit (rof_any _ 9223372036854775807 (by omega) (by omega) zb ob HE.out.2.1)
      rintro e V ⟨rfl, hq⟩
      refine hK.out _ _ (hb1 hq hS) (fun hS' => ?_)
      exact IH.out _ _ _ _ (by omega) ⟨hS', Or.inr (Or.inr (Or.inr (Or.inl (⟨rfl, by kernel_rfl, _, _, _, _, rfl⟩))))⟩
    rcases hI with ⟨rfl, rfl, x6, x7, x8, x9, rfl⟩ | hI
    · refine wpAnyH_ready (rs := [7]) (by kernel_rfl) (by simp) ?_
      refine AllReadyH.cons rfl (fun Kc hK => ?_) AllReadyH.nil
      go_simp
      go_fit (rcmp_any _ m zb s ob (by omega) (by omega) d HE.out.2.2.2)
      rintro e V ⟨rfl, hq⟩
      refine hK.out _ _ (hb1 hq hS) (fun hS' => ?_)
      exact IH.out _ _ _ _ (by omega) ⟨hS', Or.inr (Or.inr (Or.inr (Or.inr (⟨rfl, by kernel_rfl, _, _, _, _, _, _, rfl⟩))))⟩
    obtain ⟨rfl, rfl, x6, x7, x8, x9, x11, x12, rfl⟩ := hI
    refine dag_take (i := 8) (d := some 14) (v := ?v8n9) rfl rfl (by kernel_rfl) (by kernel_rfl) (by kernel_rfl) (fun _ _ _ h => h) (Or.inl ⟨by rfl, ?y8n9⟩) hS ?_
    case y8n9 => intro w hSw; (try dsimp only at hSw); go_simp; first | done | with_reducible rfl
    try simp only [Act.put, List.setIfInBounds_toArray, List.set_cons_zero, List.set_cons_succ]
    refine dag_take (i := 9) (d := some 15) (v := ?v9n10) rfl rfl (by kernel_rfl) (by kernel_rfl) (by kernel_rfl) (fun _ _ _ h => h) (Or.inl ⟨by rfl, ?y9n10⟩) hS ?_
    case y9n10 => intro w hSw; (try dsimp only at hSw); go_simp; first | done | with_reducible rfl
    try simp only [Act.put, List.setIfInBounds_toArray, List.set_cons_zero, List.set_cons_succ]
    refine wpAnyH_done (by kernel_rfl) ?_ _
    clear IH HE
    obtain ⟨hb, hA0, hA1⟩ := hS
    go_wp2
    go_ret2
    exact ⟨by rw [HX.out.1, HX.out.2]; rfl, hb⟩

set_option maxRecDepth 100000 in
set_option maxHeartbeats 1600000 in
theorem rsmall_C (w : World) (m : Bool) (s : ByteArray) (hs : s.size ≤ 1000) (x : Int) (ok : Bool) (hx : smallI (wv m s) = x) (ho : isSmall (wv m s) = ok) (hr : -9223372036854775808 ≤ wv m s ∧ wv m s ≤ 9223372036854775807) :
    Calls Tryz.prog 18 #[wi m s] w (Ret (.tuple #[.int .i64 x, .bool ok]) w) := by
  obtain ⟨za, oa, ea, va, sa⟩ := nmw (z := -9223372036854775808) (k := 9) (by decide)
  obtain ⟨zb, ob, eb, vb, sb⟩ := nmw (z := 9223372036854775807) (k := 9) (by decide)
  obtain ⟨c, hc⟩ : ∃ c, sg (wv m s - wv za oa) = c := ⟨_, rfl⟩
  obtain ⟨d, hd⟩ : ∃ d, sg (wv m s - wv zb ob) = d := ⟨_, rfl⟩
  have hc0 : decide (c < 0) = false := by apply decide_eq_false; rw [← hc, va]; rcases sg_cases (wv m s - -9223372036854775808) with ⟨h1, h2⟩ | ⟨h1, h2⟩ | ⟨h1, h2⟩ <;> omega
  have hd0 : decide (0 < d) = false := by apply decide_eq_false; rw [← hd, vb]; rcases sg_cases (wv m s - 9223372036854775807) with ⟨h1, h2⟩ | ⟨h1, h2⟩ | ⟨h1, h2⟩ <;> omega
  obtain ⟨e1, e2⟩ := small_is (z := wv m s) (by omega)
  have hxe := hx.symm.trans e1
  have hoe := ho.symm.trans e2
  have HE := Lib.hid (And.intro ea (And.intro eb (And.intro hc hd)))
  have HX := Lib.hid (And.intro hxe hoe)
  have HR := Lib.hid hr
  clear ea eb hc hd e1 e2 hx ho hxe hoe va vb hr
  unfold wi
  go_enter Tryz.func18, Tryz.ntmps18
  go_wp2_with fail
  obtain ⟨hA, hb⟩ := blocks1 w #[Value.bool m, Value.string s]
  generalize (w.alloc (Obj.cells #[Value.bool m, Value.string s] 23)) = W0 at *
  have hin : (fun w' => Below w.heap.size w w' ∧ (w'.cell? ⟨w.heap.size, 0, none⟩ = some (.bool m) ∧ w'.cell? ⟨w.heap.size, 1, none⟩ = some (.string s))) W0.drew := ⟨hb.drew, hA.drew.cells⟩
  clear hb hA
  refine region_dag (fun w' => Below w.heap.size w w' ∧ (w'.cell? ⟨w.heap.size, 0, none⟩ = some (.bool m) ∧ w'.cell? ⟨w.heap.size, 1, none⟩ = some (.string s))) (fun fu li ac Wn => (fun w' => Below w.heap.size w w' ∧ (w'.cell? ⟨w.heap.size, 0, none⟩ = some (.bool m) ∧ w'.cell? ⟨w.heap.size, 1, none⟩ = some (.string s))) Wn ∧ ((fu = 10 ∧ li = #[false, false, false, false, false, false, false, false, false, false] ∧ ac = { tmps := #[.agg #[.bool m, .string s], .pointer (some ⟨w.heap.size, 0, none⟩), .int .i64 0, .bool false, undef, undef, undef, undef, undef, undef, undef, undef, undef, undef, undef, undef, undef, undef, undef, undef, undef, undef, undef, undef, undef, undef, undef, undef, undef, undef, undef, undef, undef, undef, undef, undef, undef, undef, undef, undef, undef, undef], defers := [] }) ∨ (fu = 8 ∧ li = #[true, true, false, false, false, false, false, false, false, false] ∧ ac = { tmps := #[.agg #[.bool m, .string s], .pointer (some ⟨w.heap.size, 0, none⟩), .int .i64 0, .bool false, undef, undef, .agg #[.bool m, .string s], .agg #[.bool za, .string oa], undef, undef, undef, undef, undef, undef, undef, undef, undef, undef, undef, undef, undef, undef, undef, undef, undef, undef, undef, undef, undef, undef, undef, undef, undef, undef, undef, undef, undef, undef, undef, undef, undef, undef], defers := [] }) ∨ (fu = 7 ∧ li = #[true, true, true, false, false, false, false, false, false, false] ∧ ∃ (x6 : Value) (x7 : Value), ac = { tmps := #[.agg #[.bool m, .string s], .pointer (some ⟨w.heap.size, 0, none⟩), .int .i64 0, .bool false, undef, undef, x6, x7, .int .i64 c, undef, undef, undef, undef, undef, undef, undef, undef, undef, undef, undef, undef, undef, undef, undef, undef, undef, undef, undef, undef, undef, undef, undef, undef, undef, undef, undef, undef, undef, undef, undef, undef, undef], defers := [] }) ∨ (fu = 3 ∧ li = #[true, true, true, true, true, true, true, false, false, false] ∧ ∃ (x6 : Value) (x7 : Value) (x8 : Value) (x9 : Value), ac = { tmps := #[.agg #[.bool m, .string s], .pointer (some ⟨w.heap.size, 0, none⟩), .int .i64 0, .bool false, undef, undef, x6, x7, x8, x9, .bool false, .agg #[.bool m, .string s], .agg #[.bool zb, .string ob], undef, undef, undef, undef, undef, undef, undef, undef, undef, undef, undef, undef, undef, undef, undef, undef, undef, undef, undef, undef, undef, undef, undef, undef, undef, undef, undef, undef, undef], defers := [] }) ∨ (fu = 2 ∧ li = #[true, true, true, true, true, true, true, true, false, false] ∧ ∃ (x6 : Value) (x7 : Value) (x8 : Value) (x9 : Value) (x11 : Value) (x12 : Value), ac = { tmps := #[.agg #[.bool m, .string s], .pointer (some ⟨w.heap.size, 0, none⟩), .int .i64 0, .bool false, undef, undef, x6, x7, x8, x9, .bool false, x11, x12, .int .i64 d, undef, undef, undef, undef, undef, undef, undef, undef, undef, undef, undef, undef, undef, undef, undef, undef, undef, undef, undef, undef, undef, undef, undef, undef, undef, undef, undef, undef], defers := [] }))) (by kernel_rfl) ?_ ?_
  · exact ⟨hin, Or.inl (⟨rfl, rfl, rfl⟩)⟩
  · clear hin
    rintro fu li ac Wn ⟨hS, hI⟩ IH
    rcases hI with ⟨rfl, rfl, rfl⟩ | hI
    · refine dag_take (i := 0) (d := some 6) (v := ?v0n11) rfl rfl (by kernel_rfl) (by kernel_rfl) (by kernel_rfl) (fun _ _ _ h => h) (Or.inl ⟨by rfl, ?y0n11⟩) hS ?_
      case y0n11 => intro w hSw; (try dsimp only at hSw); go_simp; first | done | with_reducible rfl
      try simp only [Act.put, List.setIfInBounds_toArray, List.set_cons_zero, List.set_cons_succ]
      refine wpAnyH_ready (rs := [1]) (by kernel_rfl) (by simp) ?_
      refine AllReadyH.cons rfl (fun Kc hK => ?_) AllReadyH.nil
      go_simp
      go_fit (rof_any _ (-9223372036854775808) (by omega) (by omega) za oa HE.out.1)
      rintro e V ⟨rfl, hq⟩
      refine hK.out _ _ (hb1 hq hS) (fun hS' => ?_)
      exact IH.out _ _ _ _ (by omega) ⟨hS', Or.inr (Or.inl (⟨rfl, by kernel_rfl, rfl⟩))⟩
    rcases hI with ⟨rfl, rfl, rfl⟩ | hI
    · refine wpAnyH_ready (rs := [2]) (by kernel_rfl) (by simp) ?_
      refine AllReadyH.cons rfl (fun Kc hK => ?_) AllReadyH.nil
      go_simp
      go_fit (rcmp_any _ m za s oa (by omega) (by omega) c HE.out.2.2.1)
      rintro e V ⟨rfl, hq⟩
      refine hK.out _ _ (hb1 hq hS) (fun hS' => ?_)
      exact IH.out _ _ _ _ (by omega) ⟨hS', Or.inr (Or.inr (Or.inl (⟨rfl, by kernel_rfl, _, _, rfl⟩)))⟩
    rcases hI with ⟨rfl, rfl, x6, x7, rfl⟩ | hI
    · refine dag_take (i := 3) (d := some 9) (v := ?v3n12) rfl rfl (by kernel_rfl) (by kernel_rfl) (by kernel_rfl) (fun _ _ _ h => h) (Or.inl ⟨by rfl, ?y3n12⟩) hS ?_
      case y3n12 => intro w hSw; (try dsimp only at hSw); go_simp; first | done | with_reducible rfl
      try simp only [Act.put, List.setIfInBounds_toArray, List.set_cons_zero, List.set_cons_succ]
      refine dag_take (i := 4) (d := some 10) (v := ?v4n13) rfl rfl (by kernel_rfl) (by kernel_rfl) (by kernel_rfl) (fun _ _ _ h => h) (Or.inl ⟨by rfl, ?y4n13⟩) hS ?_
      case y4n13 => intro w hSw; (try dsimp only at hSw); go_simp; first | done | with_reducible rfl
      try simp only [Act.put, List.setIfInBounds_toArray, List.set_cons_zero, List.set_cons_succ]
      refine dag_take (i := 5) (d := some 11) (v := ?v5n14) rfl rfl (by kernel_rfl) (by kernel_rfl) (by kernel_rfl) (fun _ _ _ h => h) (Or.inl ⟨by rfl, ?y5n14⟩) hS ?_
      case y5n14 => intro w hSw; (try dsimp only at hSw); go_simp; first | done | with_reducible rfl
      try simp only [Act.put, List.setIfInBounds_toArray, List.set_cons_zero, List.set_cons_succ]
      refine wpAnyH_ready (rs := [6]) (by kernel_rfl) (by simp) ?_
      refine AllReadyH.cons rfl (fun Kc hK => ?_) AllReadyH.nil
      go_simp
      go_fit (rof_any _ 9223372036854775807 (by omega) (by omega) zb ob HE.out.2.1)
      rintro e V ⟨rfl, hq⟩
      refine hK.out _ _ (hb1 hq hS) (fun hS' => ?_)
      exact IH.out _ _ _ _ (by omega) ⟨hS', Or.inr (Or.inr (Or.inr (Or.inl (⟨rfl, by kernel_rfl, _, _, _, _, rfl⟩))))⟩
    rcases hI with ⟨rfl, rfl, x6, x7, x8, x9, rfl⟩ | hI
    · refine wpAnyH_ready (rs := [7]) (by kernel_rfl) (by simp) ?_
      refine AllReadyH.cons rfl (fun Kc hK => ?_) AllReadyH.nil
      go_simp
      go_fit (rcmp_any _ m zb s ob (by omega) (by omega) d HE.out.2.2.2)
      rintro e V ⟨rfl, hq⟩
      refine hK.out _ _ (hb1 hq hS) (fun hS' => ?_)
      exact IH.out _ _ _ _ (by omega) ⟨hS', Or.inr (Or.inr (Or.inr (Or.inr (⟨rfl, by kernel_rfl, _, _, _, _, _, _, rfl⟩))))⟩
    obtain ⟨rfl, rfl, x6, x7, x8, x9, x11, x12, rfl⟩ := hI
    refine dag_take (i := 8) (d := some 14) (v := ?v8n15) rfl rfl (by kernel_rfl) (by kernel_rfl) (by kernel_rfl) (fun _ _ _ h => h) (Or.inl ⟨by rfl, ?y8n15⟩) hS ?_
    case y8n15 => intro w hSw; (try dsimp only at hSw); go_simp; first | done | with_reducible rfl
    try simp only [Act.put, List.setIfInBounds_toArray, List.set_cons_zero, List.set_cons_succ]
    refine dag_take (i := 9) (d := some 15) (v := ?v9n16) rfl rfl (by kernel_rfl) (by kernel_rfl) (by kernel_rfl) (fun _ _ _ h => h) (Or.inl ⟨by rfl, ?y9n16⟩) hS ?_
    case y9n16 => intro w hSw; (try dsimp only at hSw); go_simp; first | done | with_reducible rfl
    try simp only [Act.put, List.setIfInBounds_toArray, List.set_cons_zero, List.set_cons_succ]
    refine wpAnyH_done (by kernel_rfl) ?_ _
    clear IH HE hc0 hd0
    obtain ⟨hb, hA⟩ := hS
    go_wp2
    cases m
    · have hR := HR.out
      rw [wv_false] at hR
      clear HR
      go_loopw [4, 5] (fun nv i wr => ∃ k top : Nat, k ≤ s.size ∧ i = .int .i64 k ∧ nv = .int .i64 (top : Int) ∧ top = numL (s.data.toList.take k) ∧ Below w.heap.size w wr ∧ wr.cell? ⟨w.heap.size, 0, none⟩ = some (.bool false) ∧ wr.cell? ⟨w.heap.size, 1, none⟩ = some (.string s)) (fun _ i _ => s.size - intSq i)
      case atStart => exact ⟨0, 0, Nat.zero_le _, rfl, rfl, rfl, hb, hA⟩
      case round =>
        clear hb hA
        obtain ⟨k, top, hk, rfl, rfl, ht, hb, hA0, hA1⟩ := hrel
        by_cases hks : k < s.size
        · have hs1 := numL_take_succ s.data.toList k hks
          have hs2 := numL_take_le s.data.toList (k + 1)
          have hs3 : numL s.data.toList = num s := rfl
          rw [← ht] at hs1
          have hT : top * 256 + (s[k]'hks).toNat = numL (s.data.toList.take (k + 1)) := hs1.symm
          obtain ⟨by', hby⟩ : ∃ y : Nat, (s[k]'hks).toNat = y := ⟨_, rfl⟩
          have hby2 : by' < 256 := by rw [← hby]; exact UInt8.toNat_lt _
          have HT := Lib.hid hT
          have hle : top * 256 + (s[k]'hks).toNat ≤ num s := by omega
          clear hs1 hs2 hs3 hT ht
          go_wp2
          go_roundw
          case rel =>
            refine ⟨k + 1, top * 256 + by', by omega, by simp, ?_, by rw [← hby]; exact HT.out, hb, hA0, hA1⟩
            first | done | (congr 1; (try omega)) | (congr 1)
          case measure => simp [intSq]; omega
        · have htop : top = num s := by
            rw [ht, List.take_of_length_le (by show s.data.size ≤ k; exact Nat.le_of_not_lt hks)]; rfl
          subst htop
          clear ht
          have hxx := HX.out.1
          rw [wv_false] at hxx
          have HY := Lib.hid hxx
          clear hxx
          go_wp2
          go_ret2
          exact ⟨by rw [HY.out, HX.out.2]; rfl, hb⟩
    · have hR := HR.out
      rw [wv_true] at hR
      clear HR
      go_loopw [4, 5] (fun nv i wr => ∃ k top : Nat, k ≤ s.size ∧ i = .int .i64 k ∧ nv = .int .i64 (-(top : Int)) ∧ top = numL (s.data.toList.take k) ∧ Below w.heap.size w wr ∧ wr.cell? ⟨w.heap.size, 0, none⟩ = some (.bool true) ∧ wr.cell? ⟨w.heap.size, 1, none⟩ = some (.string s)) (fun _ i _ => s.size - intSq i)
      case atStart => exact ⟨0, 0, Nat.zero_le _, rfl, rfl, rfl, hb, hA⟩
      case round =>
        clear hb hA
        obtain ⟨k, top, hk, rfl, rfl, ht, hb, hA0, hA1⟩ := hrel
        by_cases hks : k < s.size
        · have hs1 := numL_take_succ s.data.toList k hks
          have hs2 := numL_take_le s.data.toList (k + 1)
          have hs3 : numL s.data.toList = num s := rfl
          rw [← ht] at hs1
          have hT : top * 256 + (s[k]'hks).toNat = numL (s.data.toList.take (k + 1)) := hs1.symm
          obtain ⟨by', hby⟩ : ∃ y : Nat, (s[k]'hks).toNat = y := ⟨_, rfl⟩
          have hby2 : by' < 256 := by rw [← hby]; exact UInt8.toNat_lt _
          have HT := Lib.hid hT
          have hle : top * 256 + (s[k]'hks).toNat ≤ num s := by omega
          clear hs1 hs2 hs3 hT ht
          go_wp2
          go_roundw
          case rel =>
            refine ⟨k + 1, top * 256 + by', by omega, by simp, ?_, by rw [← hby]; exact HT.out, hb, hA0, hA1⟩
            first | done | (congr 1; (first | omega | (unfold wrap64; omega))) | (congr 1)
          case measure => simp [intSq]; omega
        · have htop : top = num s := by
            rw [ht, List.take_of_length_le (by show s.data.size ≤ k; exact Nat.le_of_not_lt hks)]; rfl
          subst htop
          clear ht
          have hxx := HX.out.1
          rw [wv_true] at hxx
          have HY := Lib.hid hxx
          clear hxx
          go_wp2
          go_ret2
          exact ⟨by rw [HY.out, HX.out.2]; rfl, hb⟩

theorem rsmall_any (w : World) (m : Bool) (s : ByteArray) (hs : s.size ≤ 1000) (x : Int) (ok : Bool) (hx : smallI (wv m s) = x) (ho : isSmall (wv m s) = ok) :
    Calls Tryz.prog 18 #[wi m s] w (Ret (.tuple #[.int .i64 x, .bool ok]) w) := by
  by_cases h1 : wv m s < -9223372036854775808
  · exact rsmall_A w m s hs x ok hx ho h1
  · by_cases h2 : 9223372036854775807 < wv m s
    · exact rsmall_B w m s hs x ok hx ho h2
    · exact rsmall_C w m s hs x ok hx ho ⟨by omega, by omega⟩
end Go.Proofs.YtmenngmejehofaaGreatDoor
