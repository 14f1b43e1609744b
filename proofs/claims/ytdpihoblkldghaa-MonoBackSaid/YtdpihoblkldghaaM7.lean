/- All products: All, walked. -/
import Derived.Test.YtdpihoblkldghaaM6
namespace Go.Proofs.Ytdpihoblkldghaa
open Go.RowKit Go.Lib

/-- A row of strings: its cells from the address on. -/
def RS (w : World) (ad : Option Addr) (L : List ByteArray) : Prop := ∀ i (h : i < L.length), ∃ b off, ad = some ⟨b, off, none⟩ ∧ b < w.heap.size ∧ w.cell? ⟨b, off + i, none⟩ = some (.string L[i])
theorem RS.nil (w : World) (ad : Option Addr) : RS w ad [] := fun i h => by simp at h
theorem RS.next {w w' : World} {ad : Option Addr} {L : List ByteArray} (h : RS w ad L) (hb : Below w.heap.size w w') : RS w' ad L := fun i hi => by
  obtain ⟨b, off, e, hl, hc⟩ := h i hi
  exact ⟨b, off, e, Nat.lt_of_lt_of_le hl hb.size, (hb.cell (p := ⟨b, off + i, none⟩) hl).trans hc⟩
theorem OV.rs {B : Nat} {w : World} {v : Value} {L : List ByteArray} (h : OV B w v (L.map Value.string)) : ∃ ad c, v = .slice ad L.length c ∧ RS w ad L := by
  obtain ⟨ad, c, hv, hc⟩ := h.cells
  refine ⟨ad, c, by rw [hv, List.length_map], fun i hi => ?_⟩
  obtain ⟨b, off, e, hl, hcc⟩ := hc i (by simpa using hi)
  exact ⟨b, off, e, hl, by rw [hcc, List.getElem_map]⟩
/-- A call returned a row of these strings. -/
def RetS (L : List ByteArray) (w : World) : Ending → World → Prop := fun e w' => ∃ ad c, e = .returned (.slice ad L.length c) ∧ RS w' ad L ∧ Below w.heap.size w w'
theorem infoB : (Try.prog.info? 5).map (fun i => (i.zero, i.size, i.bytes)) = some (some (.int .u8 0), 1, 1) := by kernel_rfl
theorem make_strs (n : Nat) (hmax : n ≤ 200000000000) : ∀ w : World,
    (Instr.makeSlice 38 (.int .i64 0) (.int .i64 n)).run Try.prog w = .ok (.slice (some ⟨w.heap.size, 0, none⟩) 0 n) (w.alloc (.cells (Array.replicate n (Value.string ⟨#[]⟩)) 9)) := by
  intro w
  obtain ⟨i, hi, hz, hs, hb⟩ := info_parts infoStr
  have h := run_make (P := Try.prog) w 38 9 i _ Try.underlying38 hi hz .i64 .i64 (0 : Int) (n : Int) (by omega) (by omega) (by rw [hb]; omega) (by omega)
  rw [h, hs]
  simp only [Int.toNat_natCast, Nat.mul_one]
  have e : madeCells (Value.cells (.string ⟨#[]⟩)) n = Array.replicate n (Value.string ⟨#[]⟩) := by
    apply Array.toList_inj.1
    rw [show Value.cells (.string ⟨#[]⟩) = #[.string ⟨#[]⟩] from rfl, toList_madeCells_one, Array.toList_replicate]
  rw [e]
  rfl
theorem make_bytes (n : Nat) (hmax : n ≤ 2000000000000) : ∀ w : World,
    (Instr.makeSlice 43 (.int .i64 n) (.int .i64 n)).run Try.prog w = .ok (.slice (some ⟨w.heap.size, 0, none⟩) n n) (w.alloc (.cells (Array.replicate n (Value.int .u8 0)) 5)) := by
  intro w
  obtain ⟨i, hi, hz, hs, hb⟩ := info_parts infoB
  have h := run_make (P := Try.prog) w 43 5 i _ Try.underlying43 hi hz .i64 .i64 (n : Int) (n : Int) (by omega) (by omega) (by rw [hb]; omega) (by omega)
  rw [h, hs]
  simp only [Int.toNat_natCast, Nat.mul_one]
  have e : madeCells (Value.cells (.int .u8 0)) n = Array.replicate n (Value.int .u8 0) := by
    apply Array.toList_inj.1
    rw [show Value.cells (.int .u8 0) = #[.int .u8 0] from rfl, toList_madeCells_one, Array.toList_replicate]
  rw [e]
/-- Bytes of numbers below 256, as a string. -/
theorem run_nb {w : World} {g n : Nat} {xs : List Nat} (hR : Rw w g 5 (nb xs)) (hl : xs.length = n) (hx : ∀ x ∈ xs, x < 256) : (convert 43 9 (.slice (some ⟨g, 0, none⟩) n n)).run Try.prog w = .ok (.string (strT xs)) w := by
  refine run_bytes_at (l := xs.map UInt8.ofNat) (by simpa using hl) (fun i hi => ?_)
  rw [List.length_map] at hi
  rw [Nat.zero_add, hR.cell]
  unfold nb
  rw [List.getElem?_map, List.getElem?_eq_getElem hi, Option.map_some, List.getElem_map]
  unfold by8
  rw [ofNat_toNat' (hx _ (List.getElem_mem hi))]
/-- Between the rounds of All. -/
def ALI (w wr : World) (ds : List Nat) (v : Value) (k : Nat) : Prop :=
  k ≤ prodT ds ∧ OV w.heap.size wr v (((List.range k).map fun j => strT (nthT ds j)).map Value.string) ∧ Rw wr (w.heap.size + 1) 5 (nb (nthT ds k)) ∧ some (w.heap.size + 1) ≠ v.ownBlock ∧ Below w.heap.size w wr
theorem ALI.start (w : World) (ds : List Nat) (P : Nat) (hP : P ≤ 65536) : ALI w ((w.alloc (.cells (Array.replicate P (Value.string ⟨#[]⟩)) 9)).alloc (.cells (Array.replicate ds.length (Value.int .u8 0)) 5)) ds (.slice (some ⟨w.heap.size, 0, none⟩) 0 P) 0 := by
  rw [← List.toArray_replicate, ← List.toArray_replicate]
  refine ⟨Nat.zero_le _, OV.of_rw ((Rw.new w 9 (List.replicate P (Value.string ⟨#[]⟩))).alloc _) (Nat.le_refl _) (by simp) (by unfold maxLen; omega), ?_, by simp [Value.ownBlock], ((Below.refl _ _).alloc (Nat.le_refl _) _).alloc (by simp) _⟩
  have h := Rw.new (w.alloc (.cells (List.replicate P (Value.string ⟨#[]⟩)).toArray 9)) 5 (List.replicate ds.length (Value.int .u8 0))
  rw [World.size_alloc] at h
  rw [nthT_zero]
  simpa [nb] using h
theorem okE_nat {ns : List Int} (h : okE ns = true) : (ns.map Int.toNat).map Int.ofNat = ns := by
  rw [List.map_map]
  conv => rhs; rw [← List.map_id ns]
  refine List.map_congr_left fun x hx => ?_
  obtain ⟨i, hi, rfl⟩ := List.getElem_of_mem hx
  have := okE_get h hi
  show Int.ofNat (ns[i]).toNat = ns[i]
  exact Int.toNat_of_nonneg this.1
theorem okE_le {ns : List Int} (h : okE ns = true) : ∀ d ∈ ns.map Int.toNat, d ≤ 127 := by
  intro d hd
  obtain ⟨x, hx, rfl⟩ := List.mem_map.1 hd
  obtain ⟨i, hi, rfl⟩ := List.getElem_of_mem hx
  have := okE_get h hi
  omega

set_option maxRecDepth 100000 in
set_option maxHeartbeats 1600000 in
theorem all_any (w : World) (ad : Option Addr) (ns : List Int) (n c : Nat) (hl : ns.length = n) (hn : n ≤ 1000) (hr : RI w ad ns) (L : List ByteArray) (hL : allL ns = L) :
    Calls Try.prog 23 #[.slice ad n c] w (RetS L w) := by
  have hb := Below.refl w.heap.size w
  obtain ⟨i, hi, hz, hs, hby⟩ := info_parts infoStr
  go_enter Try.func23, Try.ntmps23
  go_wp2_with fail
  obtain ⟨⟨o, is⟩, ho⟩ : ∃ q, cntV ns = q := ⟨_, rfl⟩
  refine (counted_any _ ad ns n c hl hn hr o is ho).mono ?_
  rintro e' W ⟨rfl, hq⟩
  replace hb := below_next hb hq
  obtain ⟨cc, hcc⟩ : ∃ q, (okE ns && decide (prodT (ns.map Int.toNat) ≤ 65536)) = q := ⟨_, rfl⟩
  cases is
  · have hLn : L = [] := by
      rw [← hL]; unfold allL
      cases cc with
      | false => rw [hcc]; rfl
      | true => unfold cntV at ho; rw [hcc] at ho; cases ho
    subst hLn
    clear ho hcc hL
    go_wp2
    go_ret
    exact ⟨none, 0, rfl, RS.nil _ _, hb⟩
  · cases cc with
    | false => unfold cntV at ho; rw [hcc] at ho; cases ho
    | true =>
      unfold cntV at ho; rw [hcc] at ho
      obtain rfl := (Prod.mk.inj ho).1
      have hLL : (List.range (prodT (ns.map Int.toNat))).map (fun k => strT (nthT (ns.map Int.toNat) k)) = L := by rw [← hL]; unfold allL; rw [hcc]; rfl
      rw [Bool.and_eq_true, decide_eq_true_eq] at hcc
      have hnat := okE_nat hcc.1
      have hdl := okE_le hcc.1
      have hP := hcc.2
      have hlen : (ns.map Int.toNat).length = n := by simpa using hl
      have hrW := hr.next hq
      rw [← hnat] at hrW
      obtain ⟨ds, hds⟩ : ∃ ds, ns.map Int.toNat = ds := ⟨_, rfl⟩
      rw [hds] at hLL hdl hlen hrW hP
      rw [hds]
      obtain ⟨P, hPP⟩ : ∃ P, prodT ds = P := ⟨_, rfl⟩
      rw [hPP] at hLL hP
      rw [hPP]
      have hm1 := make_strs P (by omega) W
      have hm2 := make_bytes n (by omega) (W.alloc (.cells (Array.replicate P (Value.string ⟨#[]⟩)) 9))
      rw [World.size_alloc] at hm2
      have hI := ALI.start W ds P hP
      rw [hlen] at hI
      have HD := Lib.hid (And.intro hLL (And.intro hdl (And.intro hlen hPP)))
      clear ho hcc hL hnat hds hlen hdl hPP hLL hr hq
      go_wp2
      go_loopw [5, 20] (fun v iv wr => ∃ k : Nat, iv = .int .i64 k ∧ ALI W wr ds v k) (fun _ iv _ => P - (RowKit.intOf iv).toNat)
      case atStart => exact ⟨0, rfl, hI⟩
      case round =>
        clear hI hm1 hm2
        obtain ⟨k, rfl, hk, hV, hR, hne, hbw⟩ := hrel
        by_cases hkP : k < P
        · have hcv := run_nb hR (by rw [nthT_length, HD.out.2.2.1]) (nthT_bytes ds k HD.out.2.1)
          obtain ⟨s, hsS⟩ : ∃ s, strT (nthT ds k) = s := ⟨_, rfl⟩
          rw [hsS] at hcv
          have hVa := hV.alloc (.cells #[.string s] 9)
          have hcl := (Rw.new wr 9 [.string s]).cell 0
          have hls : W.heap.size ≤ (wr.alloc (.cells #[.string s] 9)).heap.size := by have := hbw.size; simp; omega
          have hlt1 := hR.lt
          have hRa := hR.alloc (.cells #[.string s] 9)
          have hba := hbw.alloc hbw.size (.cells #[.string s] 9)
          go_wp2_with (first
            | (at_builtin; refine wpList_append_one W.heap.size Try.underlying38 hi hz hs (by omega) rfl rfl (.tmp 22) (.tmp 25) rfl u5 _ rfl hVa ⟨wr.heap.size, 0, none⟩ (.string s) 1 rfl hcl rfl (by simp; omega) hls ?_))
          intro v' W4 hV4 hg4 hn4
          have hb4 : Below W.heap.size W W4 := hba.grown hg4 hls (fun g hg => (hVa.lt hg).1)
          have hR4 := hRa.grown hg4 hne
          have hne4 : some (W.heap.size + 1) ≠ v'.ownBlock := by
            intro e
            rcases hn4 _ e.symm with h | h
            · exact hne h.symm
            · simp at h; omega
          have hr4 : RI W4 ad (ds.map Int.ofNat) := hrW.next hb4
          have hadlt : ∀ b off, ad = some ⟨b, off, none⟩ → 0 < ds.length → b ≠ W.heap.size + 1 := fun b off e h0 hbe => by
            obtain ⟨b', off', e', hl', _⟩ := hrW 0 (by simpa using h0)
            rw [e] at e'
            injection e' with e'
            injection e' with e1
            omega
          go_wp2_with fail
          refine (step_any W4 (W.heap.size + 1) ad (nthT ds k) ds n c n HD.out.2.2.1 (by rw [nthT_length, HD.out.2.2.1]) hn hr4 hadlt HD.out.2.1 (fun i h1 h2 => nthT_le ds k i h2) hR4).mono ?_
          rintro e' W5 ⟨rfl, hg5, hR5⟩
          rw [step_nth] at hR5
          have hV5 := hV4.grown hg5 (fun g e h => by
            rw [e] at hne4
            exact hne4 h.symm)
          have hb5 : Below W.heap.size W W5 := hb4.grown hg5 (by have := hb4.size; omega) (fun g hg => by injection hg with e; omega)
          have hI : ALI W W5 ds v' (k + 1) := by
            refine ⟨by rw [HD.out.2.2.2]; exact hkP, ?_, hR5, hne4, hb5⟩
            rw [List.range_succ, List.map_append, List.map_append]
            show OV _ _ _ (_ ++ [Value.string (strT (nthT ds k))])
            rw [hsS]
            rw [List.map_map]
            exact hV5
          clear hV5 hb5 hR5 hg5 hr4 hR4 hb4 hg4 hV4 hVa hRa hba hcl hcv hV hR hbw hadlt hn4 hne4
          go_wp2
          go_roundw
          case rel => exact ⟨k + 1, rfl, hI⟩
          case measure => simp [RowKit.intOf]; omega
        · obtain rfl : k = P := by rw [HD.out.2.2.2] at hk; omega
          rw [HD.out.1] at hV
          obtain ⟨ad', c', rfl, hRS⟩ := hV.rs
          have hb2 := below_next hb hbw
          clear hV hR hbw
          go_wp2
          go_ret
          exact ⟨_, _, rfl, hRS, hb2⟩
end Go.Proofs.Ytdpihoblkldghaa
