/- The document's answer for products: All, walked. -/
import Derived.Test.YtdpihoblkldghaaM10
namespace Go.Proofs.Ytdpihoblkldghaa
open Go.RowKit Go.Lib

theorem OV.mono {B B' : Nat} {w : World} {v : Value} {vs : List Value} (h : OV B' w v vs) (hB : B ≤ B') : OV B w v vs := by
  rcases h with h | ⟨g, cap, T, L, hv, hg, r⟩
  · exact .inl h
  · exact .inr ⟨g, cap, T, L, hv, Nat.le_trans hB hg, r⟩
/-- The first m products within the degrees. -/
def firstL (ds : List Nat) (m : Nat) : List ByteArray := (List.range m).map fun j => strT (nthT ds j)
theorem firstL_succ (ds : List Nat) (m : Nat) : firstL ds (m + 1) = firstL ds m ++ [strT (nthT ds m)] := by simp [firstL, List.range_succ]
theorem firstL_length (ds : List Nat) (m : Nat) : (firstL ds m).length = m := by simp [firstL]
theorem firstL_get (ds : List Nat) (m k : Nat) (h : k < (firstL ds m).length) : (firstL ds m)[k] = strT (nthT ds k) := by simp [firstL]
theorem nth_next (ds : List Nat) (d k e : Nat) (he : e ≤ d) : nthT (ds ++ [d]) (k * (d + 1) + e) = nthT ds k ++ [e] := by
  rw [nthT_snoc]
  have h1 : (k * (d + 1) + e) / (d + 1) = k := by
    rw [Nat.mul_comm, Nat.mul_add_div (by omega), Nat.div_eq_of_lt (by omega)]; omega
  have h2 : (k * (d + 1) + e) % (d + 1) = e := by
    rw [Nat.mul_comm, Nat.mul_add_mod, Nat.mod_eq_of_lt (by omega)]
  rw [h1, h2]
theorem strT_snoc (l : List Nat) (e : Nat) : strT l ++ ⟨#[UInt8.ofNat e]⟩ = strT (l ++ [e]) := by
  refine ba_ext ?_
  rw [snoc_bytes]
  simp [strT]
theorem strT_size (l : List Nat) : (strT l).size = l.length := by
  show (l.map UInt8.ofNat).toArray.size = _
  simp

theorem one_byte_at {W : World} {g d : Nat} (hR : Rw W g 5 [.int .u8 (d : Int)]) (h : d < 256) :
    (convert 43 9 (.slice (some ⟨g, 0, none⟩) 1 1)).run Try.prog W = .ok (.string ⟨#[UInt8.ofNat d]⟩) W := by
  have hd : (UInt8.ofNat d).toNat = d := by rw [UInt8.toNat_ofNat']; exact Nat.mod_eq_of_lt h
  refine run_bytes_at (l := [UInt8.ofNat d]) rfl (fun i hi => ?_)
  obtain rfl : i = 0 := by simpa using hi
  rw [hR.cell]
  show some (Value.int .u8 d) = some (by8 (UInt8.ofNat d))
  unfold by8
  rw [hd]
set_option maxRecDepth 100000 in
set_option maxHeartbeats 3200000 in
theorem rall_any (w : World) (ad : Option Addr) (ns : List Int) (n c : Nat) (hl : ns.length = n) (hn : n ≤ 1000) (hr : RI w ad ns) (L : List ByteArray) (hL : allL ns = L) :
    Calls Try.prog 24 #[.slice ad n c] w (RetS L w) := by
  have hb0 := Below.refl w.heap.size w
  obtain ⟨i, hi, hz, hs, hby⟩ := info_parts infoStr
  have HO := Lib.hid hL; clear hL
  have hI0 : CTI ns 0 1 := ⟨Nat.zero_le _, fun j _ h => by omega, rfl, by omega⟩
  go_enter Try.func24, Try.ntmps24
  go_wp2
  go_loopw [3, 4] (fun cv iv wr => ∃ k p : Nat, cv = .int .i64 p ∧ iv = .int .i64 k ∧ CTI ns k p ∧ wr = w) (fun _ iv _ => n - (RowKit.intOf iv).toNat)
  case atStart => exact ⟨0, 1, rfl, rfl, hI0, rfl⟩
  case round =>
    clear hI0
    obtain ⟨k, p, rfl, rfl, ⟨hk, hj, hp, hp2⟩, rfl⟩ := hrel
    by_cases hkn : k < n
    · obtain ⟨b, off, rfl, hlt, hc⟩ := hr k (by omega)
      have hst := prodT_step (ns := ns) (k := k) (by omega)
      obtain ⟨z, hz'⟩ : ∃ z, ns[k]'(by omega) = z := ⟨_, rfl⟩
      rw [hz'] at hc hst
      by_cases hzz : 0 ≤ z ∧ z ≤ 127
      · obtain ⟨q, hq⟩ : ∃ q : Nat, z = (q : Int) := ⟨z.toNat, by omega⟩
        subst hq
        rw [hp, Int.toNat_natCast] at hst
        have hq127 : q ≤ 127 := by omega
        have hpq : p * (q + 1) ≤ 65536 * 128 := Nat.mul_le_mul hp2 (by omega)
        have hcast : (p : Int) * ((q : Int) + 1) = ((p * (q + 1) : Nat) : Int) := by push_cast; rfl
        obtain ⟨P, hP⟩ : ∃ P, p * (q + 1) = P := ⟨_, rfl⟩
        rw [hP] at hst hpq hcast
        have hj2 : ∀ j (hj : j < ns.length), j < k + 1 → 0 ≤ ns[j] ∧ ns[j] ≤ 127 := fun j h1 h2 => by
          rcases Nat.lt_or_eq_of_le (Nat.le_of_lt_succ h2) with h | h
          · exact hj j h1 h
          · subst h; rw [hz']; exact hzz
        have hw : IntKind.i64.wrap ((p : Int) * ((q : Int) + 1)) = (P : Int) := by rw [hcast, IntKind.wrap_i64]; omega
        by_cases hbig : 65536 < P
        · have hbad : L = [] := by
            rw [← HO.out]
            unfold allL
            have := prodT_take_le (ns.map Int.toNat) (k + 1)
            rw [← List.map_take] at this
            rw [decide_eq_false (by omega), Bool.and_false]
            rfl
          subst hbad
          clear hj hj2 hp hst hcast hP hzz hz' HO
          go_wp2
          go_ret
          exact ⟨none, 0, rfl, RS.nil _ _, hb0⟩
        · have HI := Lib.hid (show CTI ns (k + 1) P from ⟨by omega, hj2, hst, by omega⟩)
          clear hj hj2 hp hst hcast hP hzz hz'
          go_wp2
          go_roundw
          case rel => exact ⟨k + 1, P, rfl, rfl, HI.out, trivial⟩
          case measure => simp [RowKit.intOf]; omega
      · have hbad : L = [] := by
          rw [← HO.out]
          unfold allL
          rw [okE_bad (l := ns) (k := k) (by omega) (by rw [hz']; exact hzz)]
          rfl
        subst hbad
        clear hj hp hst hz' HO
        by_cases h0 : z < 0
        · go_wp2
          go_ret
          exact ⟨none, 0, rfl, RS.nil _ _, hb0⟩
        · have h1 : 127 < z := by omega
          go_wp2
          go_ret
          exact ⟨none, 0, rfl, RS.nil _ _, hb0⟩
    · obtain rfl : n = k := by omega
      have hall := okE_good (fun j hj' => hj j hj' (by omega))
      rw [List.take_of_length_le (by omega)] at hp
      have hnat := okE_nat hall
      have hdl := okE_le hall
      have hfin : firstL (ns.map Int.toNat) (prodT (ns.map Int.toNat)) = L := by
        rw [← HO.out]; unfold allL; rw [hall, hp, decide_eq_true hp2]; rfl
      have hlen : (ns.map Int.toNat).length = n := by simpa using hl
      rw [← hnat] at hr
      obtain ⟨ds, hds⟩ : ∃ ds, ns.map Int.toNat = ds := ⟨_, rfl⟩
      rw [hds] at hfin hlen hdl hr hp
      have HD := Lib.hid (And.intro hfin (And.intro hdl (And.intro hlen (And.intro hp hp2))))
      have hV0 : OV wr.heap.size (wr.alloc (.cells #[.string ⟨#[]⟩] 9)) (.slice (some ⟨wr.heap.size, 0, none⟩) 1 1) ((firstL (ds.take 0) (prodT (ds.take 0))).map Value.string) :=
        .inr ⟨wr.heap.size, 1, 9, [.string ⟨#[]⟩], rfl, Nat.le_refl _, Rw.new wr _ _, Nat.le_refl _, rfl, by unfold maxLen; omega, rfl⟩
      have hb1 := hb0.alloc (Nat.le_refl _) (.cells #[.string ⟨#[]⟩] 9)
      clear hj hall hnat hdl hfin hlen hds hp hb0
      obtain ⟨w0, hw0⟩ : ∃ w0, w0 = wr := ⟨_, rfl⟩
      subst hw0
      go_wp2
      go_loopw [5, 6] (fun ov iv w1 => ∃ j : Nat, iv = .int .i64 j ∧ j ≤ n ∧ OV w0.heap.size w1 ov ((firstL (ds.take j) (prodT (ds.take j))).map Value.string) ∧ Below w0.heap.size w0 w1) (fun _ iv _ => n - (RowKit.intOf iv).toNat)
      case atStart => exact ⟨0, rfl, Nat.zero_le _, hV0, hb1⟩
      case round =>
        clear hV0 hb1
        obtain ⟨j, rfl, hjn, hV, hbw⟩ := hrel
        obtain ⟨ao, co, rfl, hRS⟩ := hV.rs
        by_cases hjl : j < n
        · have hjd : j < ds.length := by rw [HD.out.2.2.1]; exact hjl
          have hd127 := HD.out.2.1 _ (List.getElem_mem hjd)
          have htk : ds.take (j + 1) = ds.take j ++ [ds[j]] := List.take_succ_eq_append_getElem hjd
          have hpre := prodT_take_le ds j
          rw [HD.out.2.2.2.1] at hpre
          have hple := HD.out.2.2.2.2
          obtain ⟨b, off, rfl, hlt, hc0⟩ := hr j (by simpa using hjd)
          have hc0' : w0.cell? ⟨b, off + j, none⟩ = some (.int .i64 (ds[j] : Int)) := by rw [hc0]; simp
          obtain ⟨d, hd⟩ : ∃ d, ds[j] = d := ⟨_, rfl⟩
          rw [hd] at hc0' hd127 htk
          rw [firstL_length] at *
          obtain ⟨w1, hw1⟩ : ∃ w1, w1 = wr := ⟨_, rfl⟩
          subst hw1
          clear hc0 hd
          obtain ⟨P, hP⟩ : ∃ P, prodT (ds.take j) = P := ⟨_, rfl⟩
          have hnP : prodT (ds.take (j + 1)) = P * (d + 1) := by rw [htk, prodT_snoc, hP]
          rw [hP] at hpre hRS hV ⊢
          have HT := Lib.hid (And.intro htk (And.intro hP hnP))
          clear htk hP hnP
          have hN0 : OV w1.heap.size w1 (.slice none 0 0) ((firstL (ds.take (j + 1)) (0 * (d + 1))).map Value.string) := by rw [Nat.zero_mul]; exact OV.nil _ _
          have hbN := Below.refl w1.heap.size w1
          go_wp2
          go_loopw [7, 8] (fun nv kv w2 => ∃ k : Nat, kv = .int .i64 k ∧ k ≤ P ∧ OV w1.heap.size w2 nv ((firstL (ds.take (j + 1)) (k * (d + 1))).map Value.string) ∧ Below w1.heap.size w1 w2) (fun _ kv _ => P - (RowKit.intOf kv).toNat)
          case atStart => exact ⟨0, rfl, Nat.zero_le _, hN0, hbN⟩
          case round =>
            clear hN0 hbN
            obtain ⟨k, rfl, hkP, hN, hbN⟩ := hrel
            by_cases hk2 : k < P
            · obtain ⟨w2, hw2⟩ : ∃ w2, w2 = wr := ⟨_, rfl⟩
              subst hw2
              have hE0 : OV w1.heap.size w2 u7 ((firstL (ds.take (j + 1)) (k * (d + 1) + 0)).map Value.string) := hN
              go_wp2
              go_loopw [7, 9] (fun nv ev w3 => ∃ e : Nat, ev = .int .i64 e ∧ e ≤ d + 1 ∧ OV w1.heap.size w3 nv ((firstL (ds.take (j + 1)) (k * (d + 1) + e)).map Value.string) ∧ Below w1.heap.size w1 w3) (fun _ ev _ => d + 1 - (RowKit.intOf ev).toNat)
              case atStart => exact ⟨0, rfl, Nat.zero_le _, hE0, hbN⟩
              case round =>
                clear hE0 hN hbN
                obtain ⟨e, rfl, he, hN, hbN⟩ := hrel
                have hcd : wr.cell? ⟨b, off + j, none⟩ = some (.int .i64 (d : Int)) := ((hbw.trans (hbN.mono hbw.size)).cell (p := ⟨b, off + j, none⟩) hlt).trans hc0'
                by_cases hed : e ≤ d
                · obtain ⟨bo, oo, rfl, hlo, hco⟩ := hRS k (by rw [firstL_length]; exact hk2)
                  rw [firstL_get] at hco
                  have hcw := (hbN.cell (p := ⟨bo, oo + k, none⟩) hlo).trans hco
                  have hnx := nth_next (ds.take j) d k e hed
                  rw [← HT.out.1] at hnx
                  have hsz : (strT (nthT (ds.take j) k)).size = j := by rw [strT_size, nthT_length, List.length_take]; omega
                  obtain ⟨s, hs'⟩ : ∃ s, strT (nthT (ds.take j) k) = s := ⟨_, rfl⟩
                  obtain ⟨x, hx⟩ : ∃ x, UInt8.ofNat e = x := ⟨_, rfl⟩
                  have hnew : s ++ ⟨#[x]⟩ = strT (nthT (ds.take (j + 1)) (k * (d + 1) + e)) := by rw [← hs', ← hx, strT_snoc, hnx]
                  rw [hs'] at hcw hsz
                  have hcv := one_byte_at (Rw.new wr.drew 5 [.int .u8 (e : Int)]) (by omega)
                  have hcv2 := one_byte_at (Rw.new wr 5 [.int .u8 (e : Int)]) (by omega)
                  have hcv3 := one_byte_at (Rw.new wr 5 [.int .u8 (e : Int)]).drew (by omega)
                  rw [hx] at hcv hcv2 hcv3
                  obtain ⟨S, hS⟩ : ∃ S : ByteArray, s ++ ⟨#[x]⟩ = S := ⟨_, rfl⟩
                  have hw8 : IntKind.u8.wrap (e : Int) = (e : Int) := by rw [IntKind.wrap_u8]; omega
                  have hul : ¬ (9223372036854775807 < s.size + 1) := by omega
                  have hlt2 : bo < wr.heap.size := Nat.lt_of_lt_of_le hlo hbN.size
                  have hcd2 : wr.drew.cell? ⟨bo, oo + k, none⟩ = some (.string s) := hcw
                  have hca : (wr.drew.alloc (.cells #[.int .u8 (e : Int)] 5)).cell? ⟨bo, oo + k, none⟩ = some (.string s) := cell_past hcd2 _
                  have hca2 : (wr.alloc (.cells #[.int .u8 (e : Int)] 5)).cell? ⟨bo, oo + k, none⟩ = some (.string s) := cell_past hcw _
                  have hca3 : (wr.alloc (.cells #[.int .u8 (e : Int)] 5)).drew.cell? ⟨bo, oo + k, none⟩ = some (.string s) := cell_past hcw _
                  have hsN := hbN.size
                  have hbd := (hbN.drew.alloc (by simp; omega) (.cells #[.int .u8 (e : Int)] 5)).alloc (by simp; omega) (.cells #[.string S] 9)
                  have hbd2 := ((hbN.alloc hsN (.cells #[.int .u8 (e : Int)] 5)).drew).alloc (by simp; omega) (.cells #[.string S] 9)
                  have hVd : OV w1.heap.size wr.drew u7 _ := hN.next (Below.refl _ _).drew
                  have hVb := (hVd.alloc (.cells #[.int .u8 (e : Int)] 5)).alloc (.cells #[.string S] 9)
                  have hVb2 : OV w1.heap.size ((wr.alloc (.cells #[.int .u8 (e : Int)] 5)).drew.alloc (.cells #[.string S] 9)) u7 _ := ((hN.alloc (.cells #[.int .u8 (e : Int)] 5)).next (Below.refl _ _).drew).alloc (.cells #[.string S] 9)
                  have hcl := (Rw.new (wr.drew.alloc (.cells #[.int .u8 (e : Int)] 5)) 9 [.string S]).cell 0
                  have hcl2 : ((wr.alloc (.cells #[.int .u8 (e : Int)] 5)).drew.alloc (.cells #[.string S] 9)).cell? ⟨wr.heap.size + 1, 0, none⟩ = some (.string S) := by
                    have := (Rw.new ((wr.alloc (.cells #[.int .u8 (e : Int)] 5)).drew) 9 [.string S]).cell 0
                    simpa using this
                  rw [World.size_alloc] at hcl
                  have hke : k * (d + 1) + e ≤ 65536 * 128 + 128 := by
                    have : k * (d + 1) ≤ 65536 * 128 := Nat.mul_le_mul (by omega) (by omega)
                    omega
                  have hll : ((firstL (ds.take (j + 1)) (k * (d + 1) + e)).map Value.string).length ≤ 100000000 := by rw [List.length_map, firstL_length]; omega
                  have HN := Lib.hid (And.intro hnew hS)
                  have hSf : (s ++ ⟨#[x]⟩ : ByteArray) = S := hS
                  clear hnew hnx hs' hx hco hS hsz
                  go_wp2
                  go_region_law (first
                    | (refine step_append_one w1.heap.size Try.underlying38 hi hz hs (by omega) rfl rfl (.tmp 58) (.tmp 68) rfl u7 _ rfl hVb ⟨wr.heap.size + 1, 0, none⟩ (.string S) 1 rfl hcl rfl (by omega) hbd.size ?_; intro v' W4 hV4 hg4 _; replace hg4 := hbd.grown hg4 hbd.size (fun g hg => (hVb.lt hg).1))
                    | (refine step_append_one w1.heap.size Try.underlying38 hi hz hs (by omega) rfl rfl (.tmp 58) (.tmp 68) rfl u7 _ rfl hVb2 ⟨wr.heap.size + 1, 0, none⟩ (.string S) 1 rfl hcl2 rfl (by omega) hbd2.size ?_; intro v' W4 hV4 hg4 _; replace hg4 := hbd2.grown hg4 hbd2.size (fun g hg => (hVb2.lt hg).1)))
                  all_goals
                    have hV5 : OV w1.heap.size W4 v' ((firstL (ds.take (j + 1)) (k * (d + 1) + (e + 1))).map Value.string) := by
                      rw [← Nat.add_assoc, firstL_succ, List.map_append, ← HN.out.1, HN.out.2]
                      exact hV4
                    clear hV4 hVb hVb2 hVd hcl hcl2 hll hbd hbd2 hcv hcv2 hcv3 hca hca2 hca3 hcd2 hcw
                    go_wp2
                    go_roundw
                    case rel => first | exact ⟨e + 1, rfl, by omega, hV5, hg4⟩ | ((repeat apply Exists.intro); exact ⟨⟨e + 1, rfl, by omega, hV5, hg4⟩, rfl⟩)
                    case measure => simp [RowKit.intOf]; omega
                · obtain rfl : e = d + 1 := by omega
                  have hN2 : OV w1.heap.size wr u7 ((firstL (ds.take (j + 1)) ((k + 1) * (d + 1))).map Value.string) := by rw [Nat.add_mul, Nat.one_mul]; exact hN
                  clear hN
                  have hge : ¬ (((d + 1 : Nat) : Int) ≤ (d : Int)) := by omega
                  go_wp2
                  go_roundw
                  case rel => exact ⟨k + 1, rfl, hk2, hN2, hbN⟩
                  case measure => simp [RowKit.intOf]; omega
            · obtain rfl : k = P := by omega
              have hb3 := hbw.trans (hbN.mono hbw.size)
              have hV6 : OV w0.heap.size wr u7 ((firstL (ds.take (j + 1)) (prodT (ds.take (j + 1)))).map Value.string) := by rw [HT.out.2.2]; exact hN.mono hbw.size
              clear hN hbN
              go_wp2
              go_roundw
              case rel => exact ⟨j + 1, rfl, hjl, hV6, hb3⟩
              case measure => simp [RowKit.intOf]; omega
        · obtain rfl : j = n := by omega
          have e1 : ds.take j = ds := List.take_of_length_le (by rw [HD.out.2.2.1]; exact Nat.le_refl _)
          rw [e1, HD.out.1] at hRS
          rw [e1, HD.out.1]
          clear hV
          go_wp2
          go_ret
          exact ⟨_, _, rfl, hRS, hbw⟩
end Go.Proofs.Ytdpihoblkldghaa
