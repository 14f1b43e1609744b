/- The document's answer for products: Exps, Degree, Mul, Div, walked. -/
import Derived.Test.YtdpihoblkldghaaM8
import Derived.Deep.RegionLaw
namespace Go.Proofs.Ytdpihoblkldghaa
open Go.RowKit Go.Lib

set_option maxRecDepth 100000 in
set_option maxHeartbeats 1600000 in
theorem rexps_any (w : World) (s : ByteArray) (hs : s.size ≤ 1000000000) (ns : List Int) (ho : (if okM s.data.toList then expsM s.data.toList else []) = ns) :
    Calls Try.prog 13 #[.string s] w (RetI ns w) := by
  have hb0 := Below.refl w.heap.size w
  obtain ⟨i, hi, hz, hsz, hby⟩ := info_parts infoI
  go_enter Try.func13, Try.ntmps13
  go_wp2_with fail
  obtain ⟨m, hm⟩ : ∃ m, okM s.data.toList = m := ⟨_, rfl⟩
  refine (rmay_any _ s hs s.size m (by rw [hm]; simp)).mono ?_
  rintro e W ⟨rfl, rfl⟩
  rw [hm] at ho
  cases m with
  | false =>
    have h0 : ns = [] := by rw [← ho]; rfl
    subst h0
    go_wp2
    go_ret
    exact ⟨none, 0, rfl, RI.nil _ _, hb0⟩
  | true =>
    have h1 : expsM s.data.toList = ns := by rw [← ho]; rfl
    have HO := Lib.hid (And.intro h1 hm); clear ho h1 hm
    have hV0 := OV.nil w.heap.size w
    go_wp2
    go_loopw [3, 4] (fun v iv wr => ∃ k : Nat, iv = .int .i64 k ∧ k ≤ s.size ∧ OV w.heap.size wr v ((expsM (s.data.toList.take k)).map (Value.int .i64)) ∧ Below w.heap.size w wr) (fun _ iv _ => s.size - (RowKit.intOf iv).toNat)
    case atStart => exact ⟨0, rfl, Nat.zero_le _, hV0, hb0⟩
    case round =>
      clear hV0 hb0
      obtain ⟨k, rfl, hk, hV, hb⟩ := hrel
      by_cases hks : k < s.size
      · obtain ⟨y, hy⟩ : ∃ y : Nat, (s[k]'hks).toNat = y := ⟨_, rfl⟩
        have hy8 : y < 256 := by rw [← hy]; exact UInt8.toNat_lt _
        have hex := expsM_take (l := s.data.toList) (k := k) hks
        rw [get_list s k hks, hy] at hex
        have hVa := hV.alloc (.cells #[.int .i64 (y : Int)] 3)
        have hcl := (Rw.new wr 3 [.int .i64 (y : Int)]).cell 0
        have hls : w.heap.size ≤ (wr.alloc (.cells #[.int .i64 (y : Int)] 3)).heap.size := by have := hb.size; simp; omega
        have hll : ((expsM (s.data.toList.take k)).map (Value.int .i64)).length ≤ 1000000000 := by
          rw [List.length_map, expsM_length, List.length_take]
          omega
        have HX := Lib.hid hex
        clear hex
        go_wp2_with (first
          | (at_builtin; refine wpList_append_one w.heap.size Try.underlying22 hi hz hsz (by omega) rfl rfl (.tmp 16) (.tmp 21) rfl u3 _ rfl hVa ⟨wr.heap.size, 0, none⟩ (.int .i64 (y : Int)) 1 rfl hcl rfl (by omega) hls ?_))
        intro v' W4 hV4 hg4 _
        have hb4 : Below w.heap.size w W4 := (hb.alloc hb.size _).grown hg4 hls (fun g hg => (hVa.lt hg).1)
        have hV5 : OV w.heap.size W4 v' ((expsM (s.data.toList.take (k + 1))).map (Value.int .i64)) := by
          rw [HX.out, List.map_append]
          exact hV4
        clear hV4 hg4 hVa hV hcl hls hll hb
        go_wp2
        go_roundw
        case rel => exact ⟨k + 1, rfl, hks, hV5, hb4⟩
        case measure => simp [RowKit.intOf]; omega
      · obtain rfl : k = s.size := by omega
        rw [List.take_of_length_le (show s.data.toList.length ≤ s.size from Nat.le_refl _), HO.out.1] at hV
        obtain ⟨ad, c, rfl, hri⟩ := hV.ri
        clear hV
        go_wp2
        go_ret
        exact ⟨_, _, rfl, hri, hb⟩

theorem sumI_take {l : List UInt8} {k : Nat} (hk : k < l.length) : (sumM (l.take (k + 1)) : Int) = (sumM (l.take k) : Int) + (l[k].toNat : Int) := by
  rw [sumM_take hk]; omega
set_option maxRecDepth 100000 in
set_option maxHeartbeats 1600000 in
theorem rdegree_any (w : World) (s : ByteArray) (hs : s.size ≤ 1000000000) (o : Int) (ho : (if okM s.data.toList then (sumM s.data.toList : Int) else 0) = o) :
    Calls Try.prog 15 #[.string s] w (Ret (.int .i64 o) w) := by
  obtain ⟨l, hl⟩ : ∃ l, (if okM s.data.toList then s.data.toList else []) = l := ⟨_, rfl⟩
  have h1 : (if okM s.data.toList then expsM s.data.toList else []) = expsM l := by rw [← hl]; split <;> rfl
  have h2 : (sumM l : Int) = o := by rw [← ho, ← hl]; split <;> rfl
  have h3 : l.length ≤ 1000000000 := by rw [← hl]; split; exact hs; simp
  clear ho hl
  have HO := Lib.hid h2; clear h2
  go_enter Try.func15, Try.ntmps15
  go_wp2_with fail
  refine (rexps_any _ s hs _ h1).mono ?_
  rintro e W ⟨ad, c, rfl, hr, hb⟩
  rw [expsM_length]
  obtain ⟨n, hn⟩ : ∃ n, l.length = n := ⟨_, rfl⟩
  rw [hn]
  clear h1
  go_wp2
  go_loopw [3, 5] (fun dv iv wr => ∃ k : Nat, iv = .int .i64 k ∧ k ≤ n ∧ dv = .int .i64 (sumM (l.take k)) ∧ wr = W) (fun _ iv _ => n - (RowKit.intOf iv).toNat)
  case atStart => exact ⟨0, rfl, Nat.zero_le _, by simp [sumM], rfl⟩
  case round =>
    obtain ⟨k, rfl, hk, rfl, rfl⟩ := hrel
    by_cases hkn : k < n
    · obtain ⟨b, off, rfl, hlt, hc⟩ := hr k (by rw [expsM_length]; omega)
      have hkl : k < l.length := by omega
      have hsum := sumI_take hkl
      have hg : (expsM l)[k]'(by rw [expsM_length]; omega) = (l[k].toNat : Int) := by simp [expsM]
      rw [hg] at hc
      have hlt8 : l[k].toNat < 256 := UInt8.toNat_lt _
      obtain ⟨y, hy⟩ : ∃ y : Nat, l[k].toNat = y := ⟨_, rfl⟩
      rw [hy] at hc hsum hlt8
      have hle := sumM_le (l.take k)
      rw [List.length_take] at hle
      have hle2 : sumM (l.take k) ≤ 255000000000 := by omega
      have HS := Lib.hid hsum
      clear hsum hg hy hle
      generalize sumM (l.take k) = d at *
      go_wp2
      go_roundw
      case rel => exact ⟨k + 1, rfl, by omega, by rw [HS.out], trivial⟩
      case measure => simp [RowKit.intOf]; omega
    · obtain rfl : k = l.length := by omega
      have e1 : (sumM (l.take l.length) : Int) = o := by rw [List.take_of_length_le (Nat.le_refl _)]; exact HO.out
      rw [e1]
      clear e1
      go_wp2
      go_ret
      exact ⟨rfl, hb⟩

set_option maxRecDepth 100000 in
set_option maxHeartbeats 1600000 in
theorem rmul_any (w : World) (a b : ByteArray) (ha : a.size ≤ 100000000) (hb' : b.size ≤ 100000000) (o : ByteArray) (e : Int) (ho : togS addF a b = o) (he : togE addF a b = e) :
    Calls Try.prog 19 #[.string a, .string b] w (Ret (.tuple #[.string o, .int .i64 e]) w) := by
  have hb0 := Below.refl w.heap.size w
  obtain ⟨i, hi, hz, hsz, hby⟩ := info_parts infoI
  obtain ⟨ca, hca⟩ : ∃ m, okM a.data.toList = m := ⟨_, rfl⟩
  obtain ⟨cb, hcb⟩ : ∃ m, (okM b.data.toList && decide ((b.size : Int) = a.size)) = m := ⟨_, rfl⟩
  have hbad : (ca && cb) = false → o = ⟨#[]⟩ ∧ e = 1 := fun h => by
    have h2 : (okM a.data.toList && okM b.data.toList && decide (a.size = b.size)) = false := by
      rw [← hca, ← hcb] at h
      rw [← h, Bool.and_assoc]
      congr 2
      rw [decide_eq_decide]; omega
    exact ⟨by rw [← ho]; unfold togS; rw [h2]; rfl, by rw [← he]; unfold togE; rw [h2]; rfl⟩
  go_enter Try.func19, Try.ntmps19
  go_wp2_with fail
  refine (rmay_any _ a (by omega) a.size ca (by rw [hca]; simp)).mono ?_
  rintro e' W1 ⟨rfl, rfl⟩
  cases ca with
  | false =>
    obtain ⟨rfl, rfl⟩ := hbad rfl
    clear hbad hca hcb ho he
    go_wp2
    go_ret2
    exact ⟨rfl, hb0⟩
  | true =>
    go_wp2_with fail
    refine (rmay_any _ b (by omega) a.size cb hcb).mono ?_
    rintro e' W2 ⟨rfl, rfl⟩
    cases cb with
    | false =>
      obtain ⟨rfl, rfl⟩ := hbad rfl
      clear hbad hca hcb ho he
      go_wp2
      go_ret2
      exact ⟨rfl, hb0⟩
    | true =>
      rw [Bool.and_eq_true, decide_eq_true_eq] at hcb
      have hsz2 : a.size = b.size := by omega
      have hall : (okM a.data.toList && okM b.data.toList && decide (a.size = b.size)) = true := by rw [hca, hcb.1]; simp [hsz2]
      have h1 : ofS (zipF addF a.data.toList b.data.toList) = o := by rw [← ho]; unfold togS; rw [hall]; rfl
      have h2 : ofE (zipF addF a.data.toList b.data.toList) = e := by rw [← he]; unfold togE; rw [hall]; rfl
      have HO := Lib.hid (And.intro h1 (And.intro h2 hsz2))
      clear ho he hbad hca hcb hall h1 h2 hsz2
      have hV0 := OV.nil w.heap.size w
      go_wp2
      go_loopw [6, 7] (fun v iv wr => ∃ k : Nat, iv = .int .i64 k ∧ k ≤ a.size ∧ OV w.heap.size wr v ((zipF addF (a.data.toList.take k) (b.data.toList.take k)).map (Value.int .i64)) ∧ Below w.heap.size w wr) (fun _ iv _ => a.size - (RowKit.intOf iv).toNat)
      case atStart => exact ⟨0, rfl, Nat.zero_le _, hV0, hb0⟩
      case round =>
        clear hV0 hb0
        obtain ⟨k, rfl, hk, hV, hb⟩ := hrel
        by_cases hks : k < a.size
        · have hkb : k < b.size := by have := HO.out.2.2; omega
          obtain ⟨x, hx⟩ : ∃ x : Nat, (a[k]'hks).toNat = x := ⟨_, rfl⟩
          obtain ⟨y, hy⟩ : ∃ y : Nat, (b[k]'hkb).toNat = y := ⟨_, rfl⟩
          have hx8 : x < 256 := by rw [← hx]; exact UInt8.toNat_lt _
          have hy8 : y < 256 := by rw [← hy]; exact UInt8.toNat_lt _
          have hzt := zipF_take (f := addF) (a := a.data.toList) (b := b.data.toList) (k := k) hks hkb
          rw [get_list a k hks, get_list b k hkb, hx, hy] at hzt
          have HZ := Lib.hid hzt
          clear hzt
          obtain ⟨d, hd⟩ : ∃ d : Int, addF x y = d := ⟨_, rfl⟩
          have hd2 : (x : Int) + (y : Int) = d := hd
          have hwx : IntKind.i64.wrap (x : Int) = (x : Int) := by rw [IntKind.wrap_i64]; omega
          have hwy : IntKind.i64.wrap (y : Int) = (y : Int) := by rw [IntKind.wrap_i64]; omega
          have hws : IntKind.i64.wrap ((x : Int) + (y : Int)) = d := by rw [IntKind.wrap_i64, ← hd2]; omega
          rw [hd] at HZ
          have hll : ((zipF addF (a.data.toList.take k) (b.data.toList.take k)).map (Value.int .i64)).length ≤ 100000000 := by
            rw [List.length_map]
            simp only [zipF, List.length_zipWith, List.length_take]
            omega
          have hVd : OV w.heap.size wr.drew u6 _ := hV.next (Below.refl _ _).drew
          have hbd := hb.drew
          have hVa := hVd.alloc (.cells #[.int .i64 d] 3)
          have hcl := (Rw.new wr.drew 3 [.int .i64 d]).cell 0
          have hls : w.heap.size ≤ (wr.drew.alloc (.cells #[.int .i64 d] 3)).heap.size := by have := hbd.size; simp at this ⊢; omega
          clear hd2
          go_wp2
          go_region_law (refine step_append_one w.heap.size Try.underlying22 hi hz hsz (by omega) rfl rfl (.tmp 26) (.tmp 36) rfl u6 _ rfl hVa ⟨wr.heap.size, 0, none⟩ (.int .i64 d) 1 rfl hcl rfl (by omega) hls ?_; intro v' W4 hV4 hg4 _)
          all_goals
            have hb4 : Below w.heap.size w W4 := (hbd.alloc hbd.size _).grown hg4 hls (fun g hg => (hVa.lt hg).1)
            have hV5 : OV w.heap.size W4 v' ((zipF addF (a.data.toList.take (k + 1)) (b.data.toList.take (k + 1))).map (Value.int .i64)) := by
              rw [HZ.out, List.map_append]
              exact hV4
            clear hV4 hg4 hVa hVd hV hcl hls hll hb hbd hwx hwy hws
            go_wp2
            go_roundw
            case rel => exact ⟨k + 1, rfl, hks, hV5, hb4⟩
            case measure => simp [RowKit.intOf]; omega
        · obtain rfl : k = a.size := by omega
          rw [List.take_of_length_le (show a.data.toList.length ≤ a.size from Nat.le_refl _), List.take_of_length_le (show b.data.toList.length ≤ a.size by rw [HO.out.2.2]; exact Nat.le_refl _)] at hV
          obtain ⟨ad, c, rfl, hri⟩ := hV.ri
          have hl : (zipF addF a.data.toList b.data.toList).length ≤ 100000000 := by
            rw [zipF_length _ _ _ HO.out.2.2]
            exact ha
          obtain ⟨ns, hns⟩ : ∃ ns, zipF addF a.data.toList b.data.toList = ns := ⟨_, rfl⟩
          rw [hns] at hri HO hl
          rw [hns]
          clear hns hV
          go_wp2_with fail
          refine (rof_any _ ad ns ns.length c rfl (by omega) hri o e HO.out.1 HO.out.2.1).mono ?_
          rintro e' W3 ⟨rfl, hq⟩
          replace hb := below_next hb hq
          clear hri hq
          go_wp2
          go_ret2
          exact ⟨rfl, hb⟩
end Go.Proofs.Ytdpihoblkldghaa
