/- The law of forms, signs and small numbers: it answers true for all. -/
import Derived.Test.YtmenngmejehofaaGreatDoorWHeld
import Derived.Test.YtmenngmejehofaaGreatDoorWLaw0
import Derived.Test.YtmenngmejehofaaGreatDoorWSg
import Derived.Test.YtmenngmejehofaaGreatDoorWSmall2
import Derived.Test.YtmenngmejehofaaGreatDoorWMuls
import Derived.Deep.DeepCutAuto
import Derived.Deep.DeepFit
import Derived.Test.YtmenngmejehofaaGreatDoorWDag2
namespace Go.Proofs.YtmenngmejehofaaGreatDoor
open Go.RowKit Go.Shelf

set_option maxRecDepth 100000 in
set_option maxHeartbeats 4000000 in
theorem wforms_any (w : World) (m : Bool) (s : ByteArray) (k : Int) (h1 : -9223372036854775808 ≤ k) (h2 : k ≤ 9223372036854775807) :
    Calls Tryz.prog 3 #[wi m s, .int .i64 k] w (Ret (.bool true) w) := by
  have hsz : (w.alloc (Obj.cells #[Value.bool m, Value.string s] 23)).heap.size = w.heap.size + 1 := by rw [World.size_alloc]
  obtain ⟨r, hr⟩ : ∃ r, (decide (200 < s.size)) = r := ⟨_, rfl⟩
  have HR := Lib.hid hr; clear hr
  unfold wi
  go_enter Tryz.func3, Tryz.ntmps3
  go_wp2_with fail
  obtain ⟨hA, hb⟩ := blocks1 w #[Value.bool m, Value.string s]
  generalize (w.alloc (Obj.cells #[Value.bool m, Value.string s] 23)) = W0 at *
  have hu := clong1 W0 200 m s r HR.out
  rw [hsz] at hu
  refine hu.mono ?_
  rintro e W1 ⟨rfl, hq⟩
  replace hb := below_next (hb.alloc hb.size (Obj.cells #[Value.bool m, Value.string s] 23)) hq
  replace hA := (hA.alloc (Obj.cells #[Value.bool m, Value.string s] 23)).below hq
  clear hu hq hsz
  cases r
  case true =>
    clear HR
    go_wp2_with fail
    refine (wawake_any _).mono ?_
    rintro e W2 ⟨rfl, hq⟩
    replace hb := below_next hb hq
    go_wp2
    go_ret
    exact ⟨rfl, hb⟩
  have hss := HR.out
  clear HR
  have hs0 : s.size ≤ 200 := by simpa using hss
  clear hss
  obtain ⟨hA0, hA1⟩ := hA.cells
  obtain ⟨x, hx⟩ : ∃ x, smallI (wv m s) = x := ⟨_, rfl⟩
  obtain ⟨ok, hok⟩ : ∃ ok, isSmall (wv m s) = ok := ⟨_, rfl⟩
  obtain ⟨zk, ok', ek⟩ := nmw_some k
  obtain ⟨zf, of', ef, vf, sf⟩ := form_nmw m s (k := 200) (by omega)
  obtain ⟨zn, on', en, vn, sn⟩ := neg_nmw m s (k := 200) (by omega)
  obtain ⟨g, hg⟩ : ∃ g, sg (wv m s) = g := ⟨_, rfl⟩
  have HE := Lib.hid (And.intro hx (And.intro hok (And.intro ek (And.intro ef (And.intro en hg)))))
  clear hx hok ek ef en hg vf vn
  go_wp2_with fail
  refine (wsmall_any _ m s (by omega) x ok HE.out.1 HE.out.2.1).mono ?_
  rintro e W ⟨rfl, hq⟩
  replace hb := below_next hb hq
  replace hA := hA.below hq
  clear hq hA0 hA1
  obtain ⟨hA0, hA1⟩ := hA.cells
  go_wp2_with fail
  refine (rsmall_any _ m s (by omega) x ok HE.out.1 HE.out.2.1).mono ?_
  rintro e W ⟨rfl, hq⟩
  replace hb := below_next hb hq
  replace hA := hA.below hq
  clear hq hA0 hA1
  go_wp2_with fail
  have hin : (fun w' => Below w.heap.size w w' ∧ (w'.cell? ⟨w.heap.size, 0, none⟩ = some (.bool m) ∧ w'.cell? ⟨w.heap.size, 1, none⟩ = some (.string s))) W.drew := ⟨hb.drew, hA.drew.cells⟩
  clear hb hA
  refine region_dag (fun w' => Below w.heap.size w w' ∧ (w'.cell? ⟨w.heap.size, 0, none⟩ = some (.bool m) ∧ w'.cell? ⟨w.heap.size, 1, none⟩ = some (.string s))) (fun fu li ac Wn => (fun w' => Below w.heap.size w w' ∧ (w'.cell? ⟨w.heap.size, 0, none⟩ = some (.bool m) ∧ w'.cell? ⟨w.heap.size, 1, none⟩ = some (.string s))) Wn ∧ ((fu = 40 ∧ li = #[false, false, false, false, false, false, false, false, false, false, false, false, false, false, false, false, false, false, false, false, false, false, false, false, false, false, false, false, false, false, false, false, false, false, false, false, false, false, false, false] ∧ ac = { tmps := #[.agg #[.bool m, .string s], .int .i64 k, .pointer (some ⟨w.heap.size, 0, none⟩), undef, .bool false, .int .i64 x, .bool ok, .int .i64 x, .bool ok, .agg #[.bool m, .string s], .slice (some ⟨w.heap.size + 1, 0, none⟩) 1 1, .bool false, undef, .tuple #[.int .i64 x, .bool ok], .agg #[.bool m, .string s], .tuple #[.int .i64 x, .bool ok], .int .i64 x, .bool ok, .tuple #[.int .i64 x, .bool ok], .agg #[.bool m, .string s], .tuple #[.int .i64 x, .bool ok], .int .i64 x, .bool ok, undef, undef, undef, undef, undef, undef, undef, undef, undef, undef, undef, undef, undef, undef, undef, undef, undef, undef, undef, undef, undef, undef, undef, undef, undef, undef, undef, undef, undef, undef, undef, undef, undef, undef, undef, undef, undef, undef, undef], defers := [] }) ∨ (fu = 37 ∧ li = #[true, true, true, false, false, false, false, false, false, false, false, false, false, false, false, false, false, false, false, false, false, false, false, false, false, false, false, false, false, false, false, false, false, false, false, false, false, false, false, false] ∧ ∃ (x23 : Value), ac = { tmps := #[.agg #[.bool m, .string s], .int .i64 k, .pointer (some ⟨w.heap.size, 0, none⟩), undef, .bool false, .int .i64 x, .bool ok, .int .i64 x, .bool ok, .agg #[.bool m, .string s], .slice (some ⟨w.heap.size + 1, 0, none⟩) 1 1, .bool false, undef, .tuple #[.int .i64 x, .bool ok], .agg #[.bool m, .string s], .tuple #[.int .i64 x, .bool ok], .int .i64 x, .bool ok, .tuple #[.int .i64 x, .bool ok], .agg #[.bool m, .string s], .tuple #[.int .i64 x, .bool ok], .int .i64 x, .bool ok, x23, .agg #[.bool zk, .string ok'], .int .i64 k, undef, undef, undef, undef, undef, undef, undef, undef, undef, undef, undef, undef, undef, undef, undef, undef, undef, undef, undef, undef, undef, undef, undef, undef, undef, undef, undef, undef, undef, undef, undef, undef, undef, undef, undef, undef], defers := [] }) ∨ (fu = 36 ∧ li = #[true, true, true, true, false, false, false, false, false, false, false, false, false, false, false, false, false, false, false, false, false, false, false, false, false, false, false, false, false, false, false, false, false, false, false, false, false, false, false, false] ∧ ∃ (x23 : Value) (x25 : Value), ac = { tmps := #[.agg #[.bool m, .string s], .int .i64 k, .pointer (some ⟨w.heap.size, 0, none⟩), undef, .bool false, .int .i64 x, .bool ok, .int .i64 x, .bool ok, .agg #[.bool m, .string s], .slice (some ⟨w.heap.size + 1, 0, none⟩) 1 1, .bool false, undef, .tuple #[.int .i64 x, .bool ok], .agg #[.bool m, .string s], .tuple #[.int .i64 x, .bool ok], .int .i64 x, .bool ok, .tuple #[.int .i64 x, .bool ok], .agg #[.bool m, .string s], .tuple #[.int .i64 x, .bool ok], .int .i64 x, .bool ok, x23, .agg #[.bool zk, .string ok'], x25, .agg #[.bool zk, .string ok'], undef, undef, undef, undef, undef, undef, undef, undef, undef, undef, undef, undef, undef, undef, undef, undef, undef, undef, undef, undef, undef, undef, undef, undef, undef, undef, undef, undef, undef, undef, undef, undef, undef, undef, undef], defers := [] }) ∨ (fu = 31 ∧ li = #[true, true, true, true, true, true, true, true, true, false, false, false, false, false, false, false, false, false, false, false, false, false, false, false, false, false, false, false, false, false, false, false, false, false, false, false, false, false, false, false] ∧ ∃ (x23 : Value) (x24 : Value) (x25 : Value) (x26 : Value) (x27 : Value) (x29 : Value), ac = { tmps := #[.agg #[.bool m, .string s], .int .i64 k, .pointer (some ⟨w.heap.size, 0, none⟩), undef, .bool false, .int .i64 x, .bool ok, .int .i64 x, .bool ok, .agg #[.bool m, .string s], .slice (some ⟨w.heap.size + 1, 0, none⟩) 1 1, .bool false, undef, .tuple #[.int .i64 x, .bool ok], .agg #[.bool m, .string s], .tuple #[.int .i64 x, .bool ok], .int .i64 x, .bool ok, .tuple #[.int .i64 x, .bool ok], .agg #[.bool m, .string s], .tuple #[.int .i64 x, .bool ok], .int .i64 x, .bool ok, x23, x24, x25, x26, x27, .bool true, x29, .agg #[.bool zf, .string of'], .agg #[.bool m, .string s], undef, undef, undef, undef, undef, undef, undef, undef, undef, undef, undef, undef, undef, undef, undef, undef, undef, undef, undef, undef, undef, undef, undef, undef, undef, undef, undef, undef, undef, undef], defers := [] }) ∨ (fu = 30 ∧ li = #[true, true, true, true, true, true, true, true, true, true, false, false, false, false, false, false, false, false, false, false, false, false, false, false, false, false, false, false, false, false, false, false, false, false, false, false, false, false, false, false] ∧ ∃ (x23 : Value) (x24 : Value) (x25 : Value) (x26 : Value) (x27 : Value) (x29 : Value) (x31 : Value), ac = { tmps := #[.agg #[.bool m, .string s], .int .i64 k, .pointer (some ⟨w.heap.size, 0, none⟩), undef, .bool false, .int .i64 x, .bool ok, .int .i64 x, .bool ok, .agg #[.bool m, .string s], .slice (some ⟨w.heap.size + 1, 0, none⟩) 1 1, .bool false, undef, .tuple #[.int .i64 x, .bool ok], .agg #[.bool m, .string s], .tuple #[.int .i64 x, .bool ok], .int .i64 x, .bool ok, .tuple #[.int .i64 x, .bool ok], .agg #[.bool m, .string s], .tuple #[.int .i64 x, .bool ok], .int .i64 x, .bool ok, x23, x24, x25, x26, x27, .bool true, x29, .agg #[.bool zf, .string of'], x31, .agg #[.bool zf, .string of'], undef, undef, undef, undef, undef, undef, undef, undef, undef, undef, undef, undef, undef, undef, undef, undef, undef, undef, undef, undef, undef, undef, undef, undef, undef, undef, undef, undef, undef], defers := [] }) ∨ (fu = 24 ∧ li = #[true, true, true, true, true, true, true, true, true, true, true, true, true, true, true, true, false, false, false, false, false, false, false, false, false, false, false, false, false, false, false, false, false, false, false, false, false, false, false, false] ∧ ∃ (x23 : Value) (x24 : Value) (x25 : Value) (x26 : Value) (x27 : Value) (x28 : Value) (x29 : Value) (x30 : Value) (x31 : Value) (x32 : Value) (x33 : Value) (x34 : Value) (x36 : Value), ac = { tmps := #[.agg #[.bool m, .string s], .int .i64 k, .pointer (some ⟨w.heap.size, 0, none⟩), undef, .bool false, .int .i64 x, .bool ok, .int .i64 x, .bool ok, .agg #[.bool m, .string s], .slice (some ⟨w.heap.size + 1, 0, none⟩) 1 1, .bool false, undef, .tuple #[.int .i64 x, .bool ok], .agg #[.bool m, .string s], .tuple #[.int .i64 x, .bool ok], .int .i64 x, .bool ok, .tuple #[.int .i64 x, .bool ok], .agg #[.bool m, .string s], .tuple #[.int .i64 x, .bool ok], .int .i64 x, .bool ok, x23, x24, x25, x26, x27, x28, x29, x30, x31, x32, x33, x34, .bool true, x36, .int .i64 g, .agg #[.bool m, .string s], undef, undef, undef, undef, undef, undef, undef, undef, undef, undef, undef, undef, undef, undef, undef, undef, undef, undef, undef, undef, undef, undef, undef], defers := [] }) ∨ (fu = 23 ∧ li = #[true, true, true, true, true, true, true, true, true, true, true, true, true, true, true, true, true, false, false, false, false, false, false, false, false, false, false, false, false, false, false, false, false, false, false, false, false, false, false, false] ∧ ∃ (x23 : Value) (x24 : Value) (x25 : Value) (x26 : Value) (x27 : Value) (x28 : Value) (x29 : Value) (x30 : Value) (x31 : Value) (x32 : Value) (x33 : Value) (x34 : Value) (x36 : Value) (x38 : Value), ac = { tmps := #[.agg #[.bool m, .string s], .int .i64 k, .pointer (some ⟨w.heap.size, 0, none⟩), undef, .bool false, .int .i64 x, .bool ok, .int .i64 x, .bool ok, .agg #[.bool m, .string s], .slice (some ⟨w.heap.size + 1, 0, none⟩) 1 1, .bool false, undef, .tuple #[.int .i64 x, .bool ok], .agg #[.bool m, .string s], .tuple #[.int .i64 x, .bool ok], .int .i64 x, .bool ok, .tuple #[.int .i64 x, .bool ok], .agg #[.bool m, .string s], .tuple #[.int .i64 x, .bool ok], .int .i64 x, .bool ok, x23, x24, x25, x26, x27, x28, x29, x30, x31, x32, x33, x34, .bool true, x36, .int .i64 g, x38, .int .i64 g, undef, undef, undef, undef, undef, undef, undef, undef, undef, undef, undef, undef, undef, undef, undef, undef, undef, undef, undef, undef, undef, undef], defers := [] }) ∨ (fu = 17 ∧ li = #[true, true, true, true, true, true, true, true, true, true, true, true, true, true, true, true, true, true, true, true, true, true, true, false, false, false, false, false, false, false, false, false, false, false, false, false, false, false, false, false] ∧ ∃ (x23 : Value) (x24 : Value) (x25 : Value) (x26 : Value) (x27 : Value) (x28 : Value) (x29 : Value) (x30 : Value) (x31 : Value) (x32 : Value) (x33 : Value) (x34 : Value) (x35 : Value) (x36 : Value) (x37 : Value) (x38 : Value) (x39 : Value) (x40 : Value) (x41 : Value) (x43 : Value), ac = { tmps := #[.agg #[.bool m, .string s], .int .i64 k, .pointer (some ⟨w.heap.size, 0, none⟩), undef, .bool false, .int .i64 x, .bool ok, .int .i64 x, .bool ok, .agg #[.bool m, .string s], .slice (some ⟨w.heap.size + 1, 0, none⟩) 1 1, .bool false, undef, .tuple #[.int .i64 x, .bool ok], .agg #[.bool m, .string s], .tuple #[.int .i64 x, .bool ok], .int .i64 x, .bool ok, .tuple #[.int .i64 x, .bool ok], .agg #[.bool m, .string s], .tuple #[.int .i64 x, .bool ok], .int .i64 x, .bool ok, x23, x24, x25, x26, x27, x28, x29, x30, x31, x32, x33, x34, x35, x36, x37, x38, x39, x40, x41, .bool true, x43, .agg #[.bool zn, .string on'], .agg #[.bool m, .string s], undef, undef, undef, undef, undef, undef, undef, undef, undef, undef, undef, undef, undef, undef, undef, undef], defers := [] }) ∨ (fu = 16 ∧ li = #[true, true, true, true, true, true, true, true, true, true, true, true, true, true, true, true, true, true, true, true, true, true, true, true, false, false, false, false, false, false, false, false, false, false, false, false, false, false, false, false] ∧ ∃ (x23 : Value) (x24 : Value) (x25 : Value) (x26 : Value) (x27 : Value) (x28 : Value) (x29 : Value) (x30 : Value) (x31 : Value) (x32 : Value) (x33 : Value) (x34 : Value) (x35 : Value) (x36 : Value) (x37 : Value) (x38 : Value) (x39 : Value) (x40 : Value) (x41 : Value) (x43 : Value) (x45 : Value), ac = { tmps := #[.agg #[.bool m, .string s], .int .i64 k, .pointer (some ⟨w.heap.size, 0, none⟩), undef, .bool false, .int .i64 x, .bool ok, .int .i64 x, .bool ok, .agg #[.bool m, .string s], .slice (some ⟨w.heap.size + 1, 0, none⟩) 1 1, .bool false, undef, .tuple #[.int .i64 x, .bool ok], .agg #[.bool m, .string s], .tuple #[.int .i64 x, .bool ok], .int .i64 x, .bool ok, .tuple #[.int .i64 x, .bool ok], .agg #[.bool m, .string s], .tuple #[.int .i64 x, .bool ok], .int .i64 x, .bool ok, x23, x24, x25, x26, x27, x28, x29, x30, x31, x32, x33, x34, x35, x36, x37, x38, x39, x40, x41, .bool true, x43, .agg #[.bool zn, .string on'], x45, .agg #[.bool zn, .string on'], undef, undef, undef, undef, undef, undef, undef, undef, undef, undef, undef, undef, undef, undef, undef], defers := [] }) ∨ (fu = 2 ∧ li = #[true, true, true, true, true, true, true, true, true, true, true, true, true, true, true, true, true, true, true, true, true, true, true, true, true, true, true, true, true, true, true, true, true, true, true, true, true, true, false, false] ∧ ∃ (x23 : Value) (x24 : Value) (x25 : Value) (x26 : Value) (x27 : Value) (x28 : Value) (x29 : Value) (x30 : Value) (x31 : Value) (x32 : Value) (x33 : Value) (x34 : Value) (x35 : Value) (x36 : Value) (x37 : Value) (x38 : Value) (x39 : Value) (x40 : Value) (x41 : Value) (x42 : Value) (x43 : Value) (x44 : Value) (x45 : Value) (x46 : Value) (x47 : Value) (x48 : Value) (x49 : Value) (x50 : Value) (x51 : Value) (x52 : Value) (x53 : Value) (x54 : Value) (x55 : Value) (x56 : Value) (x57 : Value) (x58 : Value), ac = { tmps := #[.agg #[.bool m, .string s], .int .i64 k, .pointer (some ⟨w.heap.size, 0, none⟩), undef, .bool false, .int .i64 x, .bool ok, .int .i64 x, .bool ok, .agg #[.bool m, .string s], .slice (some ⟨w.heap.size + 1, 0, none⟩) 1 1, .bool false, undef, .tuple #[.int .i64 x, .bool ok], .agg #[.bool m, .string s], .tuple #[.int .i64 x, .bool ok], .int .i64 x, .bool ok, .tuple #[.int .i64 x, .bool ok], .agg #[.bool m, .string s], .tuple #[.int .i64 x, .bool ok], .int .i64 x, .bool ok, x23, x24, x25, x26, x27, x28, x29, x30, x31, x32, x33, x34, x35, x36, x37, x38, x39, x40, x41, x42, x43, x44, x45, x46, x47, x48, x49, x50, x51, x52, x53, x54, x55, x56, x57, x58, .bool true, .bool true, undef], defers := [] }))) (by kernel_rfl) ?_ ?_
  · exact ⟨hin, Or.inl (⟨rfl, rfl, rfl⟩)⟩
  · clear hin
    rintro fu li ac Wn ⟨hS, hI⟩ IH
    rcases hI with ⟨rfl, rfl, rfl⟩ | hI
    · refine dag_take (i := 0) (d := some 23) (v := ?v0n1) rfl rfl (by kernel_rfl) (by kernel_rfl) (by kernel_rfl) (fun _ _ _ h => h) (Or.inl ⟨by rfl, ?y0n1⟩) hS ?_
      case y0n1 => intro w hSw; (try dsimp only at hSw); go_simp; first | done | with_reducible rfl
      try simp only [Act.put, List.setIfInBounds_toArray, List.set_cons_zero, List.set_cons_succ]
      refine dag_take (i := 2) (d := some 25) (v := ?v2n2) rfl rfl (by kernel_rfl) (by kernel_rfl) (by kernel_rfl) (fun _ _ _ h => h) (Or.inl ⟨by rfl, ?y2n2⟩) hS ?_
      case y2n2 => intro w hSw; (try dsimp only at hSw); go_simp; first | done | with_reducible rfl
      try simp only [Act.put, List.setIfInBounds_toArray, List.set_cons_zero, List.set_cons_succ]
      refine wpAnyH_ready (rs := [1]) (by kernel_rfl) (by simp) ?_
      refine AllReadyH.cons rfl (fun Kc hK => ?_) AllReadyH.nil
      go_simp
      go_fit (wof_any _ k h1 h2 zk ok' HE.out.2.2.1)
      rintro e V ⟨rfl, hq⟩
      refine hK.out _ _ (hb1 hq hS) (fun hS' => ?_)
      exact IH.out _ _ _ _ (by omega) ⟨hS', Or.inr (Or.inl (⟨rfl, by kernel_rfl, _, rfl⟩))⟩
    rcases hI with ⟨rfl, rfl, x23, rfl⟩ | hI
    · refine wpAnyH_ready (rs := [3]) (by kernel_rfl) (by simp) ?_
      refine AllReadyH.cons rfl (fun Kc hK => ?_) AllReadyH.nil
      go_simp
      go_fit (lof_any _ k h1 h2 zk ok' HE.out.2.2.1)
      rintro e V ⟨rfl, hq⟩
      refine hK.out _ _ (hb1 hq hS) (fun hS' => ?_)
      exact IH.out _ _ _ _ (by omega) ⟨hS', Or.inr (Or.inr (Or.inl (⟨rfl, by kernel_rfl, _, _, rfl⟩)))⟩
    rcases hI with ⟨rfl, rfl, x23, x25, rfl⟩ | hI
    · refine dag_take (i := 4) (d := some 27) (v := ?v4n3) rfl rfl (by kernel_rfl) (by kernel_rfl) (by kernel_rfl) (fun _ _ _ h => h) (Or.inl ⟨by rfl, ?y4n3⟩) hS ?_
      case y4n3 => intro w hSw; (try dsimp only at hSw); go_simp; first | done | with_reducible rfl
      try simp only [Act.put, List.setIfInBounds_toArray, List.set_cons_zero, List.set_cons_succ]
      refine dag_take (i := 5) (d := some 28) (v := ?v5n4) rfl rfl (by kernel_rfl) (by kernel_rfl) (by kernel_rfl) (fun _ _ _ h => h) (Or.inl ⟨by rfl, ?y5n4⟩) hS ?_
      case y5n4 => intro w hSw; (try dsimp only at hSw); go_simp; first | done | with_reducible rfl
      try simp only [Act.put, List.setIfInBounds_toArray, List.set_cons_zero, List.set_cons_succ]
      refine dag_take (i := 6) (d := some 29) (v := ?v6n5) rfl rfl (by kernel_rfl) (by kernel_rfl) (by kernel_rfl) (fun _ _ _ h => h) (Or.inl ⟨by rfl, ?y6n5⟩) hS ?_
      case y6n5 => intro w hSw; (try dsimp only at hSw); go_simp; first | done | with_reducible rfl
      try simp only [Act.put, List.setIfInBounds_toArray, List.set_cons_zero, List.set_cons_succ]
      refine dag_take (i := 8) (d := some 31) (v := ?v8n6) rfl rfl (by kernel_rfl) (by kernel_rfl) (by kernel_rfl) (fun _ _ _ h => h) (Or.inl ⟨by rfl, ?y8n6⟩) hS ?_
      case y8n6 => intro w hSw; (try dsimp only at hSw); go_simp; first | done | with_reducible rfl
      try simp only [Act.put, List.setIfInBounds_toArray, List.set_cons_zero, List.set_cons_succ]
      refine wpAnyH_ready (rs := [7]) (by kernel_rfl) (by simp) ?_
      refine AllReadyH.cons rfl (fun Kc hK => ?_) AllReadyH.nil
      go_simp
      go_fit (wform_any _ m s (by omega) zf of' HE.out.2.2.2.1)
      rintro e V ⟨rfl, hq⟩
      refine hK.out _ _ (hb1 hq hS) (fun hS' => ?_)
      exact IH.out _ _ _ _ (by omega) ⟨hS', Or.inr (Or.inr (Or.inr (Or.inl (⟨rfl, by kernel_rfl, _, _, _, _, _, _, rfl⟩))))⟩
    rcases hI with ⟨rfl, rfl, x23, x24, x25, x26, x27, x29, rfl⟩ | hI
    · refine wpAnyH_ready (rs := [9]) (by kernel_rfl) (by simp) ?_
      refine AllReadyH.cons rfl (fun Kc hK => ?_) AllReadyH.nil
      go_simp
      go_fit (rform_any _ m s (by omega) zf of' HE.out.2.2.2.1)
      rintro e V ⟨rfl, hq⟩
      refine hK.out _ _ (hb1 hq hS) (fun hS' => ?_)
      exact IH.out _ _ _ _ (by omega) ⟨hS', Or.inr (Or.inr (Or.inr (Or.inr (Or.inl (⟨rfl, by kernel_rfl, _, _, _, _, _, _, _, rfl⟩)))))⟩
    rcases hI with ⟨rfl, rfl, x23, x24, x25, x26, x27, x29, x31, rfl⟩ | hI
    · refine dag_take (i := 10) (d := some 33) (v := ?v10n7) rfl rfl (by kernel_rfl) (by kernel_rfl) (by kernel_rfl) (fun _ _ _ h => h) (Or.inl ⟨by rfl, ?y10n7⟩) hS ?_
      case y10n7 => intro w hSw; (try dsimp only at hSw); go_simp; first | done | with_reducible rfl
      try simp only [Act.put, List.setIfInBounds_toArray, List.set_cons_zero, List.set_cons_succ]
      refine dag_take (i := 11) (d := some 34) (v := ?v11n8) rfl rfl (by kernel_rfl) (by kernel_rfl) (by kernel_rfl) (fun _ _ _ h => h) (Or.inl ⟨by rfl, ?y11n8⟩) hS ?_
      case y11n8 => intro w hSw; (try dsimp only at hSw); go_simp; first | done | with_reducible rfl
      try simp only [Act.put, List.setIfInBounds_toArray, List.set_cons_zero, List.set_cons_succ]
      refine dag_take (i := 12) (d := some 35) (v := ?v12n9) rfl rfl (by kernel_rfl) (by kernel_rfl) (by kernel_rfl) (fun _ _ _ h => h) (Or.inl ⟨by rfl, ?y12n9⟩) hS ?_
      case y12n9 => intro w hSw; (try dsimp only at hSw); go_simp; first | done | with_reducible rfl
      try simp only [Act.put, List.setIfInBounds_toArray, List.set_cons_zero, List.set_cons_succ]
      refine dag_take (i := 13) (d := some 36) (v := ?v13n10) rfl rfl (by kernel_rfl) (by kernel_rfl) (by kernel_rfl) (fun _ _ _ h => h) (Or.inl ⟨by rfl, ?y13n10⟩) hS ?_
      case y13n10 => intro w hSw; (try dsimp only at hSw); go_simp; first | done | with_reducible rfl
      try simp only [Act.put, List.setIfInBounds_toArray, List.set_cons_zero, List.set_cons_succ]
      refine dag_take (i := 15) (d := some 38) (v := ?v15n11) rfl rfl (by kernel_rfl) (by kernel_rfl) (by kernel_rfl) (fun _ _ _ h => h) (Or.inl ⟨by rfl, ?y15n11⟩) hS ?_
      case y15n11 => intro w hSw; (try dsimp only at hSw); go_simp; first | done | with_reducible rfl
      try simp only [Act.put, List.setIfInBounds_toArray, List.set_cons_zero, List.set_cons_succ]
      refine wpAnyH_ready (rs := [14]) (by kernel_rfl) (by simp) ?_
      refine AllReadyH.cons rfl (fun Kc hK => ?_) AllReadyH.nil
      go_simp
      go_fit (wsign_any _ m s (by omega) g HE.out.2.2.2.2.2)
      rintro e V ⟨rfl, hq⟩
      refine hK.out _ _ (hb1 hq hS) (fun hS' => ?_)
      exact IH.out _ _ _ _ (by omega) ⟨hS', Or.inr (Or.inr (Or.inr (Or.inr (Or.inr (Or.inl (⟨rfl, by kernel_rfl, _, _, _, _, _, _, _, _, _, _, _, _, _, rfl⟩))))))⟩
    rcases hI with ⟨rfl, rfl, x23, x24, x25, x26, x27, x28, x29, x30, x31, x32, x33, x34, x36, rfl⟩ | hI
    · refine wpAnyH_ready (rs := [16]) (by kernel_rfl) (by simp) ?_
      refine AllReadyH.cons rfl (fun Kc hK => ?_) AllReadyH.nil
      go_simp
      go_fit (rsign_any _ m s (by omega) g HE.out.2.2.2.2.2)
      rintro e V ⟨rfl, hq⟩
      refine hK.out _ _ (hb1 hq hS) (fun hS' => ?_)
      exact IH.out _ _ _ _ (by omega) ⟨hS', Or.inr (Or.inr (Or.inr (Or.inr (Or.inr (Or.inr (Or.inl (⟨rfl, by kernel_rfl, _, _, _, _, _, _, _, _, _, _, _, _, _, _, rfl⟩)))))))⟩
    rcases hI with ⟨rfl, rfl, x23, x24, x25, x26, x27, x28, x29, x30, x31, x32, x33, x34, x36, x38, rfl⟩ | hI
    · refine dag_take (i := 17) (d := some 40) (v := ?v17n12) rfl rfl (by kernel_rfl) (by kernel_rfl) (by kernel_rfl) (fun _ _ _ h => h) (Or.inl ⟨by rfl, ?y17n12⟩) hS ?_
      case y17n12 => intro w hSw; (try dsimp only at hSw); go_simp; first | done | with_reducible rfl
      try simp only [Act.put, List.setIfInBounds_toArray, List.set_cons_zero, List.set_cons_succ]
      refine dag_take (i := 18) (d := some 41) (v := ?v18n13) rfl rfl (by kernel_rfl) (by kernel_rfl) (by kernel_rfl) (fun _ _ _ h => h) (Or.inl ⟨by rfl, ?y18n13⟩) hS ?_
      case y18n13 => intro w hSw; (try dsimp only at hSw); go_simp; first | done | with_reducible rfl
      try simp only [Act.put, List.setIfInBounds_toArray, List.set_cons_zero, List.set_cons_succ]
      refine dag_take (i := 19) (d := some 42) (v := ?v19n14) rfl rfl (by kernel_rfl) (by kernel_rfl) (by kernel_rfl) (fun _ _ _ h => h) (Or.inl ⟨by rfl, ?y19n14⟩) hS ?_
      case y19n14 => intro w hSw; (try dsimp only at hSw); go_simp; first | done | with_reducible rfl
      try simp only [Act.put, List.setIfInBounds_toArray, List.set_cons_zero, List.set_cons_succ]
      refine dag_take (i := 20) (d := some 43) (v := ?v20n15) rfl rfl (by kernel_rfl) (by kernel_rfl) (by kernel_rfl) (fun _ _ _ h => h) (Or.inl ⟨by rfl, ?y20n15⟩) hS ?_
      case y20n15 => intro w hSw; (try dsimp only at hSw); go_simp; first | done | with_reducible rfl
      try simp only [Act.put, List.setIfInBounds_toArray, List.set_cons_zero, List.set_cons_succ]
      refine dag_take (i := 22) (d := some 45) (v := ?v22n16) rfl rfl (by kernel_rfl) (by kernel_rfl) (by kernel_rfl) (fun _ _ _ h => h) (Or.inl ⟨by rfl, ?y22n16⟩) hS ?_
      case y22n16 => intro w hSw; (try dsimp only at hSw); go_simp; first | done | with_reducible rfl
      try simp only [Act.put, List.setIfInBounds_toArray, List.set_cons_zero, List.set_cons_succ]
      refine wpAnyH_ready (rs := [21]) (by kernel_rfl) (by simp) ?_
      refine AllReadyH.cons rfl (fun Kc hK => ?_) AllReadyH.nil
      go_simp
      go_fit (wneg_any _ m s (by omega) zn on' HE.out.2.2.2.2.1)
      rintro e V ⟨rfl, hq⟩
      refine hK.out _ _ (hb1 hq hS) (fun hS' => ?_)
      exact IH.out _ _ _ _ (by omega) ⟨hS', Or.inr (Or.inr (Or.inr (Or.inr (Or.inr (Or.inr (Or.inr (Or.inl (⟨rfl, by kernel_rfl, _, _, _, _, _, _, _, _, _, _, _, _, _, _, _, _, _, _, _, _, rfl⟩))))))))⟩
    rcases hI with ⟨rfl, rfl, x23, x24, x25, x26, x27, x28, x29, x30, x31, x32, x33, x34, x35, x36, x37, x38, x39, x40, x41, x43, rfl⟩ | hI
    · refine wpAnyH_ready (rs := [23]) (by kernel_rfl) (by simp) ?_
      refine AllReadyH.cons rfl (fun Kc hK => ?_) AllReadyH.nil
      go_simp
      go_fit (rneg_any _ m s (by omega) zn on' HE.out.2.2.2.2.1)
      rintro e V ⟨rfl, hq⟩
      refine hK.out _ _ (hb1 hq hS) (fun hS' => ?_)
      exact IH.out _ _ _ _ (by omega) ⟨hS', Or.inr (Or.inr (Or.inr (Or.inr (Or.inr (Or.inr (Or.inr (Or.inr (Or.inl (⟨rfl, by kernel_rfl, _, _, _, _, _, _, _, _, _, _, _, _, _, _, _, _, _, _, _, _, _, rfl⟩)))))))))⟩
    rcases hI with ⟨rfl, rfl, x23, x24, x25, x26, x27, x28, x29, x30, x31, x32, x33, x34, x35, x36, x37, x38, x39, x40, x41, x43, x45, rfl⟩ | hI
    · refine dag_take (i := 24) (d := some 47) (v := ?v24n17) rfl rfl (by kernel_rfl) (by kernel_rfl) (by kernel_rfl) (fun _ _ _ h => h) (Or.inl ⟨by rfl, ?y24n17⟩) hS ?_
      case y24n17 => intro w hSw; (try dsimp only at hSw); go_simp; first | done | with_reducible rfl
      try simp only [Act.put, List.setIfInBounds_toArray, List.set_cons_zero, List.set_cons_succ]
      refine dag_take (i := 25) (d := some 48) (v := ?v25n18) rfl rfl (by kernel_rfl) (by kernel_rfl) (by kernel_rfl) (fun _ _ _ h => h) (Or.inl ⟨by rfl, ?y25n18⟩) hS ?_
      case y25n18 => intro w hSw; (try dsimp only at hSw); go_simp; first | done | with_reducible rfl
      try simp only [Act.put, List.setIfInBounds_toArray, List.set_cons_zero, List.set_cons_succ]
      refine dag_take (i := 26) (d := some 49) (v := ?v26n19) rfl rfl (by kernel_rfl) (by kernel_rfl) (by kernel_rfl) (fun _ _ _ h => h) (Or.inl ⟨by rfl, ?y26n19⟩) hS ?_
      case y26n19 => intro w hSw; (try dsimp only at hSw); go_simp; first | done | with_reducible rfl
      try simp only [Act.put, List.setIfInBounds_toArray, List.set_cons_zero, List.set_cons_succ]
      refine dag_take (i := 27) (d := some 50) (v := ?v27n20) rfl rfl (by kernel_rfl) (by kernel_rfl) (by kernel_rfl) (fun _ _ _ h => h) (Or.inl ⟨by rfl, ?y27n20⟩) hS ?_
      case y27n20 => intro w hSw; (try dsimp only at hSw); go_simp; first | done | with_reducible rfl
      try simp only [Act.put, List.setIfInBounds_toArray, List.set_cons_zero, List.set_cons_succ]
      refine dag_take (i := 28) (d := some 51) (v := ?v28n21) rfl rfl (by kernel_rfl) (by kernel_rfl) (by kernel_rfl) (fun _ _ _ h => h) (Or.inl ⟨by rfl, ?y28n21⟩) hS ?_
      case y28n21 => intro w hSw; (try dsimp only at hSw); go_simp; first | done | with_reducible rfl
      try simp only [Act.put, List.setIfInBounds_toArray, List.set_cons_zero, List.set_cons_succ]
      refine dag_take (i := 29) (d := some 52) (v := ?v29n22) rfl rfl (by kernel_rfl) (by kernel_rfl) (by kernel_rfl) (fun _ _ _ h => h) (Or.inl ⟨by rfl, ?y29n22⟩) hS ?_
      case y29n22 => intro w hSw; (try dsimp only at hSw); go_simp; first | done | with_reducible rfl
      try simp only [Act.put, List.setIfInBounds_toArray, List.set_cons_zero, List.set_cons_succ]
      refine dag_take (i := 30) (d := some 53) (v := ?v30n23) rfl rfl (by kernel_rfl) (by kernel_rfl) (by kernel_rfl) (fun _ _ _ h => h) (Or.inl ⟨by rfl, ?y30n23⟩) hS ?_
      case y30n23 => intro w hSw; (try dsimp only at hSw); go_simp; first | done | with_reducible rfl
      try simp only [Act.put, List.setIfInBounds_toArray, List.set_cons_zero, List.set_cons_succ]
      refine dag_take (i := 31) (d := some 54) (v := ?v31n24) rfl rfl (by kernel_rfl) (by kernel_rfl) (by kernel_rfl) (fun _ _ _ h => h) (Or.inl ⟨by rfl, ?y31n24⟩) hS ?_
      case y31n24 => intro w hSw; (try dsimp only at hSw); go_simp; first | done | with_reducible rfl
      try simp only [Act.put, List.setIfInBounds_toArray, List.set_cons_zero, List.set_cons_succ]
      refine dag_take (i := 32) (d := some 55) (v := ?v32n25) rfl rfl (by kernel_rfl) (by kernel_rfl) (by kernel_rfl) (fun _ _ _ h => h) (Or.inl ⟨by rfl, ?y32n25⟩) hS ?_
      case y32n25 => intro w hSw; (try dsimp only at hSw); go_simp; first | done | with_reducible rfl
      try simp only [Act.put, List.setIfInBounds_toArray, List.set_cons_zero, List.set_cons_succ]
      refine dag_take (i := 33) (d := some 56) (v := ?v33n26) rfl rfl (by kernel_rfl) (by kernel_rfl) (by kernel_rfl) (fun _ _ _ h => h) (Or.inl ⟨by rfl, ?y33n26⟩) hS ?_
      case y33n26 => intro w hSw; (try dsimp only at hSw); go_simp; first | done | with_reducible rfl
      try simp only [Act.put, List.setIfInBounds_toArray, List.set_cons_zero, List.set_cons_succ]
      refine dag_take (i := 34) (d := some 57) (v := ?v34n27) rfl rfl (by kernel_rfl) (by kernel_rfl) (by kernel_rfl) (fun _ _ _ h => h) (Or.inl ⟨by rfl, ?y34n27⟩) hS ?_
      case y34n27 => intro w hSw; (try dsimp only at hSw); go_simp; first | done | with_reducible rfl
      try simp only [Act.put, List.setIfInBounds_toArray, List.set_cons_zero, List.set_cons_succ]
      refine dag_take (i := 35) (d := some 58) (v := ?v35n28) rfl rfl (by kernel_rfl) (by kernel_rfl) (by kernel_rfl) (fun _ _ _ h => h) (Or.inl ⟨by rfl, ?y35n28⟩) hS ?_
      case y35n28 => intro w hSw; (try dsimp only at hSw); go_simp; first | done | with_reducible rfl
      try simp only [Act.put, List.setIfInBounds_toArray, List.set_cons_zero, List.set_cons_succ]
      refine dag_take (i := 36) (d := some 59) (v := ?v36n29) rfl rfl (by kernel_rfl) (by kernel_rfl) (by kernel_rfl) (fun _ _ _ h => h) (Or.inl ⟨by rfl, ?y36n29⟩) hS ?_
      case y36n29 => intro w hSw; (try dsimp only at hSw); go_simp; first | done | with_reducible rfl
      try simp only [Act.put, List.setIfInBounds_toArray, List.set_cons_zero, List.set_cons_succ]
      refine wpAnyH_ready (rs := [37]) (by kernel_rfl) (by simp) ?_
      refine AllReadyH.cons rfl (fun Kc hK => ?_) AllReadyH.nil
      go_simp
      go_fit (wawake_any _)
      rintro e V ⟨rfl, hq⟩
      refine hK.out _ _ (hb1 hq hS) (fun hS' => ?_)
      exact IH.out _ _ _ _ (by omega) ⟨hS', Or.inr (Or.inr (Or.inr (Or.inr (Or.inr (Or.inr (Or.inr (Or.inr (Or.inr (⟨rfl, by kernel_rfl, _, _, _, _, _, _, _, _, _, _, _, _, _, _, _, _, _, _, _, _, _, _, _, _, _, _, _, _, _, _, _, _, _, _, _, _, rfl⟩)))))))))⟩
    obtain ⟨rfl, rfl, x23, x24, x25, x26, x27, x28, x29, x30, x31, x32, x33, x34, x35, x36, x37, x38, x39, x40, x41, x42, x43, x44, x45, x46, x47, x48, x49, x50, x51, x52, x53, x54, x55, x56, x57, x58, rfl⟩ := hI
    refine dag_take (i := 38) (d := some 61) (v := ?v38n30) rfl rfl (by kernel_rfl) (by kernel_rfl) (by kernel_rfl) (fun _ _ _ h => h) (Or.inl ⟨by rfl, ?y38n30⟩) hS ?_
    case y38n30 => intro w hSw; (try dsimp only at hSw); go_simp; first | done | with_reducible rfl
    try simp only [Act.put, List.setIfInBounds_toArray, List.set_cons_zero, List.set_cons_succ]
    refine dag_take (i := 39) (d := some 4) (v := ?v39n31) rfl rfl (by kernel_rfl) (by kernel_rfl) (by kernel_rfl) (fun _ _ _ h => h) (Or.inl ⟨by rfl, ?y39n31⟩) hS ?_
    case y39n31 => intro w hSw; (try dsimp only at hSw); go_simp; first | done | with_reducible rfl
    try simp only [Act.put, List.setIfInBounds_toArray, List.set_cons_zero, List.set_cons_succ]
    refine wpAnyH_done (by kernel_rfl) ?_ _
    go_wp2
    go_ret
    exact ⟨rfl, hS.1⟩

theorem wforms_law (w : World) (m : Bool) (s : ByteArray) (k : Int) (hk : (Lit.int .i64 k).wf = true) : Calls Tryz.prog 3 #[wi m s, .int .i64 k] w (Ret (.bool true) w) := by
  simp [Lit.wf, IntKind.min, IntKind.max, IntKind.signed, IntKind.bits] at hk
  exact wforms_any w m s k (by omega) (by omega)
end Go.Proofs.YtmenngmejehofaaGreatDoor
