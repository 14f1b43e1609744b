/- The statement MonoEach, walked. -/
import Derived.Test.YtdpihoblkldghaaMFacts2
import Derived.Test.YtdpihoblkldghaaMArg
import Derived.Test.YtdpihoblkldghaaM12
import Derived.StillTactics
namespace Go.Proofs.Ytdpihoblkldghaa
open Go.RowKit Go.Lib

/-- The degrees that these bytes tell. -/
def degD (bs : List Int) : List Nat := bs.map fun b => (b % 128).toNat
theorem degD_length (bs : List Int) : (degD bs).length = bs.length := by simp [degD]
theorem degD_le (bs : List Int) : ∀ d ∈ degD bs, d ≤ 127 := by
  intro d hd
  obtain ⟨b, _, rfl⟩ := List.mem_map.1 hd
  omega
theorem degD_take {bs : List Int} {k : Nat} (hk : k < bs.length) : (degD bs).take (k + 1) = (degD bs).take k ++ [(bs[k] % 128).toNat] := by
  rw [List.take_succ_eq_append_getElem (by rw [degD_length]; exact hk)]
  simp [degD]
def intV (d : Nat) : Value := .int .i64 (d : Int)
theorem okE_ofNat {D : List Nat} (h : ∀ d ∈ D, d ≤ 127) : okE (D.map Int.ofNat) = true := by
  unfold okE
  rw [List.all_eq_true]
  intro x hx
  obtain ⟨d, hd, rfl⟩ := List.mem_map.1 hx
  have := h d hd
  exact decide_eq_true ⟨Int.natCast_nonneg _, by show (d : Int) ≤ 127; omega⟩
theorem toNat_ofNat (D : List Nat) : (D.map Int.ofNat).map Int.toNat = D := by
  rw [List.map_map]
  conv => rhs; rw [← List.map_id D]
  exact List.map_congr_left fun x _ => rfl
theorem allL_ofNat {D : List Nat} (h : ∀ d ∈ D, d ≤ 127) (hp : prodT D ≤ 65536) : allL (D.map Int.ofNat) = firstL D (prodT D) := by
  unfold allL
  rw [okE_ofNat h, toNat_ofNat, decide_eq_true hp]
  rfl
theorem inT_succ {D : List Nat} {m : ByteArray} {k : Nat} (h : inT D m k) (h1 : k < m.data.toList.length) (h2 : k < D.length) : inT D m (k + 1) ↔ (m.data.toList[k]).toNat ≤ D[k] := by
  constructor
  · exact fun h' => h'.2 k h1 h2 (by omega)
  · refine fun hle => ⟨h.1, fun i g1 g2 g3 => ?_⟩
    rcases Nat.lt_or_eq_of_le (Nat.le_of_lt_succ g3) with g | g
    · exact h.2 i g1 g2 g
    · subst g; exact hle
theorem inT_mono {D : List Nat} {m : ByteArray} {k j : Nat} (h : inT D m j) (hk : k ≤ j) : inT D m k := ⟨h.1, fun i g1 g2 g3 => h.2 i g1 g2 (by omega)⟩

theorem run_geq (W : World) (ty : TypeId) (u t : ByteArray) : Sem.run Try.prog (binOp .geq ty (.string u) (.string t)) W = .ok (.bool (!Op.bytesLess u.toList t.toList)) W := rfl
theorem found_succ {D : List Nat} {m : ByteArray} {k : Nat} {f : Bool} (h : f = true ↔ ∃ j, j < k ∧ strT (nthT D j) = m) : ((f || ((strT (nthT D k)).toList == m.toList)) = true) ↔ ∃ j, j < k + 1 ∧ strT (nthT D j) = m := by
  rw [Bool.or_eq_true, h, beq_iff_eq]
  constructor
  · rintro (⟨j, h1, h2⟩ | h1)
    · exact ⟨j, by omega, h2⟩
    · refine ⟨k, by omega, ba_ext ?_⟩
      rwa [Lib.toList_data, Lib.toList_data] at h1
  · rintro ⟨j, h1, h2⟩
    rcases Nat.lt_or_eq_of_le (Nat.le_of_lt_succ h1) with g | g
    · exact .inl ⟨j, g, h2⟩
    · subst g
      exact .inr (by rw [h2])
set_option maxRecDepth 100000 in
set_option maxHeartbeats 6400000 in
theorem each_law (w : World) (ad : Option Addr) (bs : List Int) (n c : Nat) (hl : bs.length = n) (hr : RB w ad bs) (hbs : ∀ x ∈ bs, 0 ≤ x ∧ x ≤ 255) (m : ByteArray) :
    Calls Try.prog 7 #[.slice ad n c, .string m] w (Ret (.bool true) w) := by
  have hb0 := Below.refl w.heap.size w
  obtain ⟨i, hi, hz, hs, hby⟩ := info_parts infoI
  have hV0 := OV.nil w.heap.size w
  go_enter Try.func7, Try.ntmps7
  go_wp2
  go_loopw [5, 6, 7] (fun nv lv iv wr => ∃ k p : Nat, nv = .int .i64 p ∧ iv = .int .i64 k ∧ k ≤ n ∧ k ≤ 13 ∧ prodT ((degD bs).take k) = p ∧ p ≤ 5000 ∧ OV w.heap.size wr lv (((degD bs).take k).map intV) ∧ Below w.heap.size w wr) (fun _ _ iv _ => n - (RowKit.intOf iv).toNat)
  case atStart => exact ⟨0, 1, rfl, rfl, Nat.zero_le _, by omega, rfl, by omega, hV0, hb0⟩
  case round =>
    clear hV0 hb0
    obtain ⟨k, p, rfl, rfl, hk, hk13, hp, hp5, hV, hb⟩ := hrel
    by_cases hkn : k < n
    · obtain ⟨b, off, rfl, hlt, hc0⟩ := hr k (by omega)
      have hbz := hbs _ (List.getElem_mem (show k < bs.length by omega))
      have htk := degD_take (bs := bs) (k := k) (by omega)
      obtain ⟨z, hz'⟩ : ∃ z, bs[k]'(by omega) = z := ⟨_, rfl⟩
      rw [hz'] at hc0 hbz htk
      obtain ⟨B, hB⟩ : ∃ B : Nat, z = (B : Int) := ⟨z.toNat, by omega⟩
      subst hB
      obtain ⟨d, hd⟩ : ∃ d : Nat, ((B : Int) % 128).toNat = d := ⟨_, rfl⟩
      rw [hd] at htk
      have hd1 : (B : Int) % 128 = (d : Int) := by omega
      have hd2 : Int.tmod (B : Int) 128 = (d : Int) := by rw [Int.tmod_eq_emod_of_nonneg (by omega)]; exact hd1
      have hd127 : d ≤ 127 := by omega
      have hc : wr.cell? ⟨b, off + k, none⟩ = some (.int .u8 (B : Int)) := (hb.cell (p := ⟨b, off + k, none⟩) hlt).trans hc0
      have hVa := hV.alloc (.cells #[.int .i64 (d : Int)] 3)
      have hcl := (Rw.new wr 3 [.int .i64 (d : Int)]).cell 0
      have hls : w.heap.size ≤ (wr.alloc (.cells #[.int .i64 (d : Int)] 3)).heap.size := by have := hb.size; simp; omega
      have hll : (((degD bs).take k).map intV).length ≤ 100000 := by rw [List.length_map, List.length_take]; omega
      have hpq : p * (d + 1) ≤ 5000 * 128 := Nat.mul_le_mul hp5 (by omega)
      have hcast : (p : Int) * ((d : Int) + 1) = ((p * (d + 1) : Nat) : Int) := by push_cast; rfl
      have hst : prodT ((degD bs).take (k + 1)) = p * (d + 1) := by rw [htk, prodT_snoc, hp]
      obtain ⟨P, hP⟩ : ∃ P, p * (d + 1) = P := ⟨_, rfl⟩
      rw [hP] at hcast hpq hst
      have hw : IntKind.i64.wrap ((p : Int) * ((d : Int) + 1)) = (P : Int) := by rw [hcast, IntKind.wrap_i64]; omega
      have HT := Lib.hid (And.intro htk hst)
      have hB255 : B ≤ 255 := by omega
      clear hbz htk hst hcast hP hd hz' hc0 hp
      go_wp2_with (first
        | (at_builtin; refine wpList_append_one w.heap.size Try.underlying22 hi hz hs (by omega) rfl rfl (.tmp 26) (.tmp 28) rfl u6 _ rfl hVa ⟨wr.heap.size, 0, none⟩ (.int .i64 (d : Int)) 1 rfl hcl rfl (by omega) hls ?_))
      intro v' W4 hV4 hg4 _
      have hb4 : Below w.heap.size w W4 := (hb.alloc hb.size _).grown hg4 hls (fun g hg => (hVa.lt hg).1)
      have hV5 : OV w.heap.size W4 v' (((degD bs).take (k + 1)).map intV) := by
        rw [HT.out.1, List.map_append, List.map_take]
        exact hV4
      clear hV4 hg4 hVa hV hcl hls hll hb hc
      by_cases hA : 5000 < P ∨ 12 < k
      · have e1 : (decide ((5000 : Int) < (P : Int)) || decide ((12 : Int) < (k : Int))) = true := by
          rw [Bool.or_eq_true, decide_eq_true_eq, decide_eq_true_eq]; omega
        go_wp2_with fail
        all_goals
          refine (awake_any _).mono ?_
          rintro e W14 ⟨rfl, hq⟩
          have hb5 := below_next hb4 hq
          clear hq
          go_wp2
          go_ret
          exact ⟨rfl, hb5⟩
      · have e1 : decide ((5000 : Int) < (P : Int)) = false := decide_eq_false (by omega)
        have e2 : decide ((12 : Int) < (k : Int)) = false := decide_eq_false (by omega)
        go_wp2
        go_roundw
        case rel => exact ⟨k + 1, P, rfl, rfl, by omega, by omega, HT.out.2, by omega, hV5, hb4⟩
        case measure => simp [RowKit.intOf]; omega
    · obtain rfl : n = k := by omega
      have hDl : (degD bs).length = n := by rw [degD_length, hl]
      have e0 : (degD bs).take n = degD bs := List.take_of_length_le (by omega)
      rw [e0] at hV hp
      have hDle := degD_le bs
      obtain ⟨D, hD⟩ : ∃ D, degD bs = D := ⟨_, rfl⟩
      rw [hD] at hV hp hDl hDle
      have hVi : OV w.heap.size wr u6 ((D.map Int.ofNat).map (Value.int .i64)) := by rw [List.map_map]; exact hV
      obtain ⟨al, cl, rfl, hri⟩ := hVi.ri
      have hLl : (D.map Int.ofNat).length = n := by rw [List.length_map, hDl]
      rw [hLl]
      have hall := allL_ofNat hDle (by omega)
      rw [hp] at hall
      clear hV hVi hr hD e0
      go_wp2_with fail
      refine (all_any _ al _ n _ hLl (by omega) hri _ hall).mono ?_
      rintro e W1 ⟨aL, cL, rfl, hrs, hq⟩
      replace hb := below_next hb hq
      replace hri := hri.next hq
      rw [firstL_length]
      have HD := Lib.hid (And.intro hDl (And.intro hDle hp))
      clear hall hq hp hDle
      obtain ⟨W0, hW0⟩ : ∃ W0, W0 = W1 := ⟨_, rfl⟩
      subst hW0
      have hin0 : ((m.size : Int) == (n : Int)) = true ↔ inT D m 0 := by
        rw [beq_iff_eq]
        exact ⟨fun h => ⟨by rw [HD.out.1]; omega, fun i _ _ h => by omega⟩, fun h => by have := h.1; rw [HD.out.1] at this; omega⟩
      have hbW := Below.refl W0.heap.size W0
      go_wp2
      go_loopw [10, 11] (fun qv iv wr => ∃ (k : Nat) (q : Bool), iv = .int .i64 k ∧ qv = .bool q ∧ k ≤ n ∧ (q = true ↔ inT D m k) ∧ Below W0.heap.size W0 wr) (fun _ iv _ => n - (RowKit.intOf iv).toNat)
      case atStart => exact ⟨0, _, rfl, rfl, Nat.zero_le _, hin0, hbW⟩
      case round =>
        clear hin0 hbW
        obtain ⟨k, q, rfl, rfl, hk, hq, hbw⟩ := hrel
        by_cases hgo : k < n ∧ q = true
        · obtain ⟨hkn', rfl⟩ := hgo
          have hT := hq.1 rfl
          have hms : k < m.size := by have := hT.1; rw [HD.out.1] at this; omega
          have hkD : k < D.length := by rw [HD.out.1]; exact hkn'
          obtain ⟨b, off, rfl, hlt, hc0⟩ := hri k (by rw [hLl]; exact hkn')
          have hc : wr.cell? ⟨b, off + k, none⟩ = some (.int .i64 (D[k] : Int)) := by
            rw [(hbw.cell (p := ⟨b, off + k, none⟩) hlt).trans hc0]; simp
          have hnx := inT_succ hT (k := k) hms hkD
          rw [get_list m k hms] at hnx
          obtain ⟨x, hx⟩ : ∃ x : Nat, (m[k]'hms).toNat = x := ⟨_, rfl⟩
          have hx8 : x < 256 := by rw [← hx]; exact UInt8.toNat_lt _
          obtain ⟨d, hd⟩ : ∃ d : Nat, D[k] = d := ⟨_, rfl⟩
          rw [hx, hd] at hnx
          rw [hd] at hc
          have hq2 : decide (x ≤ d) = true ↔ inT D m (k + 1) := by
            rw [decide_eq_true_eq, hnx]
          have hbd := hbw.drew
          have HQ := Lib.hid hq2
          clear hq hT hnx hq2 hc0 hd
          go_wp2
          go_region
          all_goals
            go_wp2
            go_roundw
            case rel => exact ⟨k + 1, _, rfl, rfl, by omega, HQ.out, hbd⟩
            case measure => simp [RowKit.intOf]; omega
        · have hfin : q = true ↔ inT D m D.length := by
            rw [HD.out.1]
            cases q with
            | false => exact ⟨fun h => (by cases h), fun h => (by have h2 := hq.2 (inT_mono h hk); cases h2)⟩
            | true =>
              obtain rfl : k = n := by
                have : ¬ k < n := fun h => hgo ⟨h, rfl⟩
                omega
              exact hq
          rw [in_found D m HD.out.2.1, HD.out.2.2] at hfin
          have hb2 := below_next hb hbw
          have hrs2 := hrs.next hbw
          obtain ⟨W2, hW2⟩ : ∃ W2, W2 = wr := ⟨_, rfl⟩
          subst hW2
          have hF0 : (false = true) ↔ ∃ j, j < 0 ∧ strT (nthT D j) = m := ⟨fun h => (by cases h), fun ⟨j, h, _⟩ => (by omega)⟩
          have hbW := Below.refl W2.heap.size W2
          have HF := Lib.hid hfin
          clear hfin hq hbw hrs hri hb
          have hstop : ¬ (k < n ∧ q = true) := hgo
          cases q with
          | false =>
            by_cases hkn2 : k < n
            · have g1 : decide ((k : Int) < (n : Int)) = true := decide_eq_true (by omega)
              go_wp2
              go_loopw [12, 13] (fun fv iv w3 => ∃ (k : Nat) (f : Bool), iv = .int .i64 k ∧ fv = .bool f ∧ k ≤ p ∧ (f = true ↔ ∃ j, j < k ∧ strT (nthT D j) = m) ∧ Below W2.heap.size W2 w3) (fun _ iv _ => p - (RowKit.intOf iv).toNat)
              case atStart => exact ⟨0, false, rfl, rfl, Nat.zero_le _, hF0, hbW⟩
              case round =>
                clear hF0 hbW
                obtain ⟨k, f, rfl, rfl, hk', hf, hbw⟩ := hrel
                by_cases hkp : k < p
                · have hfs := found_succ hf
                  obtain ⟨b1, o1, rfl, hl1, hc1⟩ := hrs2.next hbw k (by rw [firstL_length]; exact hkp)
                  rw [firstL_get] at hc1
                  have hbd := hbw.drew
                  have hcd : wr.drew.cell? ⟨b1, o1 + k, none⟩ = some (.string (strT (nthT D k))) := hc1
                  rcases Nat.eq_zero_or_pos k with h0 | h0
                  · subst h0
                    obtain ⟨t, ht⟩ : ∃ t, strT (nthT D 0) = t := ⟨_, rfl⟩
                    rw [ht] at hfs hc1 hcd
                    rw [Nat.add_zero] at hc1 hcd
                    have HX := Lib.hid hfs
                    have e1 : decide ((0 : Int) < ((0 : Nat) : Int)) = false := rfl
                    clear hf hfs ht
                    go_wp2
                    go_region
                    all_goals
                      cases f with
                      | false =>
                        go_wp2
                        go_roundw
                        case rel => exact ⟨1, _, rfl, rfl, by omega, (by rw [← HX.out, Bool.false_or]), hbd⟩
                        case measure => simp [RowKit.intOf]; omega
                      | true =>
                        go_wp2
                        go_roundw
                        case rel => exact ⟨1, _, rfl, rfl, by omega, (by rw [← HX.out, Bool.true_or]), hbd⟩
                        case measure => simp [RowKit.intOf]; omega
                  · obtain ⟨j, hj⟩ : ∃ j, k = j + 1 := ⟨k - 1, by omega⟩
                    obtain ⟨b2, o2, e2, hl2, hc2⟩ := hrs2.next hbw j (by rw [firstL_length]; omega)
                    injection e2 with e2
                    injection e2 with e3 e4
                    subst e3 e4
                    rw [firstL_get] at hc2
                    have hrise := nthT_rise D j HD.out.2.1 (by rw [HD.out.2.2]; omega)
                    rw [← hj] at hrise
                    have hcd2 : wr.drew.cell? ⟨b1, o1 + j, none⟩ = some (.string (strT (nthT D j))) := hc2
                    obtain ⟨t, ht⟩ : ∃ t, strT (nthT D k) = t := ⟨_, rfl⟩
                    obtain ⟨u, hu⟩ : ∃ u, strT (nthT D j) = u := ⟨_, rfl⟩
                    rw [ht] at hfs hc1 hcd hrise
                    rw [hu] at hc2 hcd2 hrise
                    have HX := Lib.hid hfs
                    have e1 : decide ((0 : Int) < (k : Int)) = true := decide_eq_true (by omega)
                    have e5 : (k : Int) - 1 = (j : Int) := by omega
                    have hwj : IntKind.i64.wrap (j : Int) = (j : Int) := by rw [IntKind.wrap_i64]; omega
                    have hjp : j < p := by omega
                    have hge : ∀ (W : World) (ty : TypeId), Sem.run Try.prog (binOp .geq ty (.string u) (.string t)) W = .ok (.bool false) W := fun W ty => by rw [run_geq, hrise]; rfl
                    clear hf hfs ht hu hj hrise
                    go_wp2
                    go_still (by kernel_rfl)
                    all_goals
                      cases f with
                      | false =>
                        go_wp2
                        go_roundw
                        case rel => exact ⟨k + 1, _, rfl, rfl, by omega, (by rw [← HX.out, Bool.false_or]), hbd⟩
                        case measure => simp [RowKit.intOf]; omega
                      | true =>
                        go_wp2
                        go_roundw
                        case rel => exact ⟨k + 1, _, rfl, rfl, by omega, (by rw [← HX.out, Bool.true_or]), hbd⟩
                        case measure => simp [RowKit.intOf]; omega
                · obtain rfl : k = p := by omega
                  have hff : f = false := by
                    have h1 := hf.trans HF.out.symm
                    cases f with
                    | false => first | rfl | simp at h1
                    | true => first | rfl | simp at h1
                  subst hff
                  have hb3 := below_next hb2 hbw
                  clear hf hrs2
                  go_wp2_with fail
                  refine (awake_any _).mono ?_
                  rintro e W14 ⟨rfl, hq⟩
                  replace hb3 := below_next hb3 hq
                  clear hq
                  go_wp2
                  go_ret
                  exact ⟨rfl, hb3⟩
            · have g1 : decide ((k : Int) < (n : Int)) = false := decide_eq_false (by omega)
              go_wp2
              go_loopw [12, 13] (fun fv iv w3 => ∃ (k : Nat) (f : Bool), iv = .int .i64 k ∧ fv = .bool f ∧ k ≤ p ∧ (f = true ↔ ∃ j, j < k ∧ strT (nthT D j) = m) ∧ Below W2.heap.size W2 w3) (fun _ iv _ => p - (RowKit.intOf iv).toNat)
              case atStart => exact ⟨0, false, rfl, rfl, Nat.zero_le _, hF0, hbW⟩
              case round =>
                clear hF0 hbW
                obtain ⟨k, f, rfl, rfl, hk', hf, hbw⟩ := hrel
                by_cases hkp : k < p
                · have hfs := found_succ hf
                  obtain ⟨b1, o1, rfl, hl1, hc1⟩ := hrs2.next hbw k (by rw [firstL_length]; exact hkp)
                  rw [firstL_get] at hc1
                  have hbd := hbw.drew
                  have hcd : wr.drew.cell? ⟨b1, o1 + k, none⟩ = some (.string (strT (nthT D k))) := hc1
                  rcases Nat.eq_zero_or_pos k with h0 | h0
                  · subst h0
                    obtain ⟨t, ht⟩ : ∃ t, strT (nthT D 0) = t := ⟨_, rfl⟩
                    rw [ht] at hfs hc1 hcd
                    rw [Nat.add_zero] at hc1 hcd
                    have HX := Lib.hid hfs
                    have e1 : decide ((0 : Int) < ((0 : Nat) : Int)) = false := rfl
                    clear hf hfs ht
                    go_wp2
                    go_region
                    all_goals
                      cases f with
                      | false =>
                        go_wp2
                        go_roundw
                        case rel => exact ⟨1, _, rfl, rfl, by omega, (by rw [← HX.out, Bool.false_or]), hbd⟩
                        case measure => simp [RowKit.intOf]; omega
                      | true =>
                        go_wp2
                        go_roundw
                        case rel => exact ⟨1, _, rfl, rfl, by omega, (by rw [← HX.out, Bool.true_or]), hbd⟩
                        case measure => simp [RowKit.intOf]; omega
                  · obtain ⟨j, hj⟩ : ∃ j, k = j + 1 := ⟨k - 1, by omega⟩
                    obtain ⟨b2, o2, e2, hl2, hc2⟩ := hrs2.next hbw j (by rw [firstL_length]; omega)
                    injection e2 with e2
                    injection e2 with e3 e4
                    subst e3 e4
                    rw [firstL_get] at hc2
                    have hrise := nthT_rise D j HD.out.2.1 (by rw [HD.out.2.2]; omega)
                    rw [← hj] at hrise
                    have hcd2 : wr.drew.cell? ⟨b1, o1 + j, none⟩ = some (.string (strT (nthT D j))) := hc2
                    obtain ⟨t, ht⟩ : ∃ t, strT (nthT D k) = t := ⟨_, rfl⟩
                    obtain ⟨u, hu⟩ : ∃ u, strT (nthT D j) = u := ⟨_, rfl⟩
                    rw [ht] at hfs hc1 hcd hrise
                    rw [hu] at hc2 hcd2 hrise
                    have HX := Lib.hid hfs
                    have e1 : decide ((0 : Int) < (k : Int)) = true := decide_eq_true (by omega)
                    have e5 : (k : Int) - 1 = (j : Int) := by omega
                    have hwj : IntKind.i64.wrap (j : Int) = (j : Int) := by rw [IntKind.wrap_i64]; omega
                    have hjp : j < p := by omega
                    have hge : ∀ (W : World) (ty : TypeId), Sem.run Try.prog (binOp .geq ty (.string u) (.string t)) W = .ok (.bool false) W := fun W ty => by rw [run_geq, hrise]; rfl
                    clear hf hfs ht hu hj hrise
                    go_wp2
                    go_still (by kernel_rfl)
                    all_goals
                      cases f with
                      | false =>
                        go_wp2
                        go_roundw
                        case rel => exact ⟨k + 1, _, rfl, rfl, by omega, (by rw [← HX.out, Bool.false_or]), hbd⟩
                        case measure => simp [RowKit.intOf]; omega
                      | true =>
                        go_wp2
                        go_roundw
                        case rel => exact ⟨k + 1, _, rfl, rfl, by omega, (by rw [← HX.out, Bool.true_or]), hbd⟩
                        case measure => simp [RowKit.intOf]; omega
                · obtain rfl : k = p := by omega
                  have hff : f = false := by
                    have h1 := hf.trans HF.out.symm
                    cases f with
                    | false => first | rfl | simp at h1
                    | true => first | rfl | simp at h1
                  subst hff
                  have hb3 := below_next hb2 hbw
                  clear hf hrs2
                  go_wp2_with fail
                  refine (awake_any _).mono ?_
                  rintro e W14 ⟨rfl, hq⟩
                  replace hb3 := below_next hb3 hq
                  clear hq
                  go_wp2
                  go_ret
                  exact ⟨rfl, hb3⟩
          | true =>
            obtain rfl : k = n := by
              have : ¬ k < n := fun h => hgo ⟨h, rfl⟩
              omega
            go_wp2
            go_loopw [12, 13] (fun fv iv w3 => ∃ (k : Nat) (f : Bool), iv = .int .i64 k ∧ fv = .bool f ∧ k ≤ p ∧ (f = true ↔ ∃ j, j < k ∧ strT (nthT D j) = m) ∧ Below W2.heap.size W2 w3) (fun _ iv _ => p - (RowKit.intOf iv).toNat)
            case atStart => exact ⟨0, false, rfl, rfl, Nat.zero_le _, hF0, hbW⟩
            case round =>
              clear hF0 hbW
              obtain ⟨k, f, rfl, rfl, hk', hf, hbw⟩ := hrel
              by_cases hkp : k < p
              · have hfs := found_succ hf
                obtain ⟨b1, o1, rfl, hl1, hc1⟩ := hrs2.next hbw k (by rw [firstL_length]; exact hkp)
                rw [firstL_get] at hc1
                have hbd := hbw.drew
                have hcd : wr.drew.cell? ⟨b1, o1 + k, none⟩ = some (.string (strT (nthT D k))) := hc1
                rcases Nat.eq_zero_or_pos k with h0 | h0
                · subst h0
                  obtain ⟨t, ht⟩ : ∃ t, strT (nthT D 0) = t := ⟨_, rfl⟩
                  rw [ht] at hfs hc1 hcd
                  rw [Nat.add_zero] at hc1 hcd
                  have HX := Lib.hid hfs
                  have e1 : decide ((0 : Int) < ((0 : Nat) : Int)) = false := rfl
                  clear hf hfs ht
                  go_wp2
                  go_region
                  all_goals
                    cases f with
                    | false =>
                      go_wp2
                      go_roundw
                      case rel => exact ⟨1, _, rfl, rfl, by omega, (by rw [← HX.out, Bool.false_or]), hbd⟩
                      case measure => simp [RowKit.intOf]; omega
                    | true =>
                      go_wp2
                      go_roundw
                      case rel => exact ⟨1, _, rfl, rfl, by omega, (by rw [← HX.out, Bool.true_or]), hbd⟩
                      case measure => simp [RowKit.intOf]; omega
                · obtain ⟨j, hj⟩ : ∃ j, k = j + 1 := ⟨k - 1, by omega⟩
                  obtain ⟨b2, o2, e2, hl2, hc2⟩ := hrs2.next hbw j (by rw [firstL_length]; omega)
                  injection e2 with e2
                  injection e2 with e3 e4
                  subst e3 e4
                  rw [firstL_get] at hc2
                  have hrise := nthT_rise D j HD.out.2.1 (by rw [HD.out.2.2]; omega)
                  rw [← hj] at hrise
                  have hcd2 : wr.drew.cell? ⟨b1, o1 + j, none⟩ = some (.string (strT (nthT D j))) := hc2
                  obtain ⟨t, ht⟩ : ∃ t, strT (nthT D k) = t := ⟨_, rfl⟩
                  obtain ⟨u, hu⟩ : ∃ u, strT (nthT D j) = u := ⟨_, rfl⟩
                  rw [ht] at hfs hc1 hcd hrise
                  rw [hu] at hc2 hcd2 hrise
                  have HX := Lib.hid hfs
                  have e1 : decide ((0 : Int) < (k : Int)) = true := decide_eq_true (by omega)
                  have e5 : (k : Int) - 1 = (j : Int) := by omega
                  have hwj : IntKind.i64.wrap (j : Int) = (j : Int) := by rw [IntKind.wrap_i64]; omega
                  have hjp : j < p := by omega
                  have hge : ∀ (W : World) (ty : TypeId), Sem.run Try.prog (binOp .geq ty (.string u) (.string t)) W = .ok (.bool false) W := fun W ty => by rw [run_geq, hrise]; rfl
                  clear hf hfs ht hu hj hrise
                  go_wp2
                  go_still (by kernel_rfl)
                  all_goals
                    cases f with
                    | false =>
                      go_wp2
                      go_roundw
                      case rel => exact ⟨k + 1, _, rfl, rfl, by omega, (by rw [← HX.out, Bool.false_or]), hbd⟩
                      case measure => simp [RowKit.intOf]; omega
                    | true =>
                      go_wp2
                      go_roundw
                      case rel => exact ⟨k + 1, _, rfl, rfl, by omega, (by rw [← HX.out, Bool.true_or]), hbd⟩
                      case measure => simp [RowKit.intOf]; omega
              · obtain rfl : k = p := by omega
                have hff : f = true := by
                  have h1 := hf.trans HF.out.symm
                  cases f with
                  | false => first | rfl | simp at h1
                  | true => first | rfl | simp at h1
                subst hff
                have hb3 := below_next hb2 hbw
                clear hf hrs2
                go_wp2_with fail
                refine (awake_any _).mono ?_
                rintro e W14 ⟨rfl, hq⟩
                replace hb3 := below_next hb3 hq
                clear hq
                go_wp2
                go_ret
                exact ⟨rfl, hb3⟩
end Go.Proofs.Ytdpihoblkldghaa
