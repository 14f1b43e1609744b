/- Products as strings: Exps, walked. -/
import Derived.Test.YtdpihoblkldghaaM3
namespace Go.Proofs.Ytdpihoblkldghaa
open Go.RowKit Go.Lib

/-- A call returned a row of these numbers. -/
def RetI (ns : List Int) (w : World) : Ending → World → Prop := fun e w' => ∃ ad c, e = .returned (.slice ad ns.length c) ∧ RI w' ad ns ∧ Below w.heap.size w w'
theorem infoN : (Try.prog.info? 3).map (fun i => (i.zero, i.size, i.bytes)) = some (some (.int .i64 0), 1, 8) := by kernel_rfl
theorem make_ints (n : Nat) (hmax : n ≤ 2000000000000) : ∀ w : World,
    (Instr.makeSlice 22 (.int .i64 n) (.int .i64 n)).run Try.prog w = .ok (.slice (some ⟨w.heap.size, 0, none⟩) n n) (w.alloc (.cells (List.replicate n (Value.int .i64 0)).toArray 3)) := by
  intro w
  obtain ⟨i, hi, hz, hs, hb⟩ := info_parts infoN
  have h := run_make (P := Try.prog) w 22 3 i _ Try.underlying22 hi hz .i64 .i64 (n : Int) (n : Int) (by omega) (by omega) (by rw [hb]; omega) (by omega)
  rw [h, hs]
  simp only [Int.toNat_natCast, Nat.mul_one]
  have e : madeCells (Value.cells (.int .i64 0)) n = (List.replicate n (Value.int .i64 0)).toArray := by
    apply Array.toList_inj.1
    rw [show Value.cells (.int .i64 0) = #[.int .i64 0] from rfl, toList_madeCells_one]
  rw [e]
theorem fill_set {A : List Value} {k n : Nat} {v z : Value} (hA : A.length = k) (h : k < n) : (A ++ List.replicate (n - k) z).set k v = (A ++ [v]) ++ List.replicate (n - (k + 1)) z := by
  rw [List.set_append_right _ _ (by omega), hA, Nat.sub_self, show n - k = (n - (k + 1)) + 1 by omega, List.replicate_succ, List.set_cons_zero]
  simp
theorem expsM_take {l : List UInt8} {k : Nat} (hk : k < l.length) : expsM (l.take (k + 1)) = expsM (l.take k) ++ [(l[k].toNat : Int)] := by
  unfold expsM
  rw [List.take_succ_eq_append_getElem hk, List.map_append]
  rfl
theorem expsM_length (l : List UInt8) : (expsM l).length = l.length := by simp [expsM]
/-- Between the rounds of Exps. -/
def EXI (w wr : World) (s : ByteArray) (k : Nat) : Prop :=
  k ≤ s.size ∧ wr.heap[w.heap.size + 1]? = some (.stringIter s k) ∧ Rw wr w.heap.size 3 ((expsM (s.data.toList.take k)).map (Value.int .i64) ++ List.replicate (s.size - k) (.int .i64 0)) ∧ Below w.heap.size w wr
theorem EXI.start (w : World) (s : ByteArray) : EXI w ((w.alloc (.cells (List.replicate s.size (Value.int .i64 0)).toArray 3)).iter s 0) s 0 := by
  refine ⟨Nat.zero_le _, ?_, ?_, ((Below.refl _ _).alloc (Nat.le_refl _) _).alloc (by simp) _⟩
  · have := World.iter_heap (w.alloc (.cells (List.replicate s.size (Value.int .i64 0)).toArray 3)) s 0
    rwa [World.size_alloc] at this
  · have h : Rw ((w.alloc (.cells (List.replicate s.size (Value.int .i64 0)).toArray 3)).iter s 0) w.heap.size 3 (List.replicate s.size (Value.int .i64 0)) := (Rw.new w 3 (List.replicate s.size (Value.int .i64 0))).alloc (.stringIter s 0)
    simpa [expsM] using h

set_option maxRecDepth 100000 in
set_option maxHeartbeats 1600000 in
theorem exps_any (w : World) (s : ByteArray) (hs : s.size ≤ 1000000000) (ns : List Int) (ho : (if okM s.data.toList then expsM s.data.toList else []) = ns) :
    Calls Try.prog 12 #[.string s] w (RetI ns w) := by
  have hb := Below.refl w.heap.size w
  go_enter Try.func12, Try.ntmps12
  go_wp2_with fail
  obtain ⟨m, hm⟩ : ∃ m, okM s.data.toList = m := ⟨_, rfl⟩
  refine (may_any _ s hs s.size m (by rw [hm]; simp)).mono ?_
  rintro e W ⟨rfl, hq⟩
  replace hb := below_next hb hq
  clear hq
  rw [hm] at ho
  cases m with
  | false =>
    have h0 : ns = [] := by rw [← ho]; rfl
    subst h0
    go_wp2
    go_ret
    exact ⟨none, 0, rfl, RI.nil _ _, hb⟩
  | true =>
    have h1 : expsM s.data.toList = ns := by rw [← ho]; rfl
    have HO := Lib.hid (And.intro h1 hm); clear ho h1 hm
    have hmk := make_ints s.size (by omega) W
    have hI := EXI.start W s
    go_wp2
    go_loopw [] (fun wr => ∃ k : Nat, EXI W wr s k) (fun wr => s.size - wr.iterPos (W.heap.size + 1))
    case atStart => exact ⟨0, hI⟩
    case round =>
      clear hI hmk
      obtain ⟨k, hk, hit, hR, hbw⟩ := hrel
      by_cases hks : k < s.size
      · have ha : (s[k]'hks).toNat < 128 := by
          have := okM_get HO.out.2 (k := k) hks
          rwa [get_list] at this
        have hnx : ∀ ty, (Instr.next (.pointer (some ⟨W.heap.size + 1, 0, none⟩)) true ty).run Try.prog wr = _ := fun ty => Lib.run_next_ascii_at wr (W.heap.size + 1) s k ty hit hks ha
        have hsz := hR.lt
        have hitn : (wr.iterAt (W.heap.size + 1) s (k + 1)).heap[W.heap.size + 1]? = some (.stringIter s (k + 1)) := Lib.iterAt_heap _ _ _ _ _ hit
        have hRn : Rw (wr.iterAt (W.heap.size + 1) s (k + 1)) W.heap.size 3 _ := hR.below (below_iterAt (Below.refl (W.heap.size + 1) wr) (Nat.le_refl _) _ _) (by omega)
        have hbn := below_iterAt hbw (k := W.heap.size + 1) (by omega) s (k + 1)
        have hcl := hRn.cell k
        have hfz := hRn.frozen k
        have hAl : ((expsM (s.data.toList.take k)).map (Value.int .i64)).length = k := by
          rw [List.length_map, expsM_length, List.length_take, show s.data.toList.length = s.size from rfl]; omega
        rw [List.getElem?_append_right (by omega), hAl, Nat.sub_self, show s.size - k = (s.size - (k + 1)) + 1 by omega, List.replicate_succ, List.getElem?_cons_zero] at hcl
        obtain ⟨y, hy⟩ : ∃ y : Nat, (s[k]'hks).toNat = y := ⟨_, rfl⟩
        have hnew := hRn.set_ k (.int .i64 (y : Int))
        rw [fill_set hAl hks] at hnew
        have hex := expsM_take (l := s.data.toList) (k := k) hks
        rw [get_list s k hks, hy] at hex
        have hIn : EXI W ((wr.iterAt (W.heap.size + 1) s (k + 1)).setCell ⟨W.heap.size, k, none⟩ (.int .i64 (y : Int))) s (k + 1) := by
          refine ⟨hks, (Below.heap_setCell _ _ _ _ (by simp)).trans hitn, ?_, hbn.setCell (p := ⟨W.heap.size, k, none⟩) (Nat.le_refl _) _⟩
          rw [hex, List.map_append]
          exact hnew
        have hpos := iterPos_of hIn.2.1
        have hpos0 := iterPos_of hit
        rw [hy] at hnx ha
        have HR := Lib.hid (And.intro hIn (And.intro hpos hpos0))
        clear hR hRn hbw hbn hitn hpos hpos0 hy hnew hex hIn hAl hit
        go_wp2
        go_roundw
        case rel => exact ⟨k + 1, HR.out.1⟩
        case measure => rw [HR.out.2.1, HR.out.2.2]; omega
      · have hnx : ∀ ty, (Instr.next (.pointer (some ⟨W.heap.size + 1, 0, none⟩)) true ty).run Try.prog wr = _ := fun ty => Lib.run_next_end_at wr (W.heap.size + 1) s k ty hit hks
        obtain rfl : k = s.size := by omega
        have hb2 := below_next hb hbw
        rw [List.take_of_length_le (show s.data.toList.length ≤ s.size from Nat.le_refl _), HO.out.1] at hR
        have hl : ns.length = s.size := by rw [← HO.out.1, expsM_length]; rfl
        have hRI := RI.of_rw (pre := []) (off := 0) hR rfl
        have HE := Lib.hid (And.intro hRI hl)
        clear hR hRI hl
        go_wp2
        go_ret
        exact ⟨_, _, by rw [HE.out.2]; rfl, HE.out.1, hb2⟩
end Go.Proofs.Ytdpihoblkldghaa
