/- The document's answer for products: Div, walked. -/
import Derived.Test.YtdpihoblkldghaaM9
namespace Go.Proofs.Ytdpihoblkldghaa
open Go.RowKit Go.Lib
set_option maxRecDepth 100000 in
set_option maxHeartbeats 1600000 in
theorem rdiv_any (w : World) (a b : ByteArray) (ha : a.size ≤ 100000000) (hb' : b.size ≤ 100000000) (o : ByteArray) (is : Bool) (ho : togS subF a b = o) (his : decide (togE subF a b = 0) = is) :
    Calls Try.prog 21 #[.string a, .string b] w (Ret (.tuple #[.string o, .bool is]) w) := by
  have hb0 := Below.refl w.heap.size w
  obtain ⟨e, he⟩ : ∃ e, togE subF a b = e := ⟨_, rfl⟩
  rw [he] at his
  obtain ⟨i, hi, hz, hsz, hby⟩ := info_parts infoI
  obtain ⟨ca, hca⟩ : ∃ m, okM a.data.toList = m := ⟨_, rfl⟩
  obtain ⟨cb, hcb⟩ : ∃ m, (okM b.data.toList && decide ((b.size : Int) = a.size)) = m := ⟨_, rfl⟩
  have hbad : (ca && cb) = false → o = ⟨#[]⟩ ∧ e = 1 := fun h => by
    have h2 : (okM a.data.toList && okM b.data.toList && decide (a.size = b.size)) = false := by
      rw [← hca, ← hcb] at h
      rw [← h, Bool.and_assoc]
      congr 2
      rw [decide_eq_decide]; omega
    exact ⟨by rw [← ho]; unfold togS; rw [h2]; rfl, by rw [← he]; unfold togE; rw [h2]; rfl⟩
  go_enter Try.func21, Try.ntmps21
  go_wp2_with fail
  refine (rmay_any _ a (by omega) a.size ca (by rw [hca]; simp)).mono ?_
  rintro e' W1 ⟨rfl, rfl⟩
  cases ca with
  | false =>
    obtain ⟨rfl, rfl⟩ := hbad rfl
    obtain rfl : is = false := his.symm.trans (by decide)
    clear hbad hca hcb ho he
    go_wp2
    go_ret2
    exact ⟨rfl, hb0⟩
  | true =>
    go_wp2_with fail
    refine (rmay_any _ b (by omega) a.size cb hcb).mono ?_
    rintro e' W2 ⟨rfl, rfl⟩
    cases cb with
    | false =>
      obtain ⟨rfl, rfl⟩ := hbad rfl
      obtain rfl : is = false := his.symm.trans (by decide)
      clear hbad hca hcb ho he
      go_wp2
      go_ret2
      exact ⟨rfl, hb0⟩
    | true =>
      rw [Bool.and_eq_true, decide_eq_true_eq] at hcb
      have hsz2 : a.size = b.size := by omega
      have hall : (okM a.data.toList && okM b.data.toList && decide (a.size = b.size)) = true := by rw [hca, hcb.1]; simp [hsz2]
      have h1 : ofS (zipF subF a.data.toList b.data.toList) = o := by rw [← ho]; unfold togS; rw [hall]; rfl
      have h2 : ofE (zipF subF a.data.toList b.data.toList) = e := by rw [← he]; unfold togE; rw [hall]; rfl
      have HO := Lib.hid (And.intro h1 (And.intro h2 hsz2))
      clear ho he hbad hca hcb hall h1 h2 hsz2
      have hV0 := OV.nil w.heap.size w
      go_wp2
      go_loopw [6, 7] (fun v iv wr => ∃ k : Nat, iv = .int .i64 k ∧ k ≤ a.size ∧ OV w.heap.size wr v ((zipF subF (a.data.toList.take k) (b.data.toList.take k)).map (Value.int .i64)) ∧ Below w.heap.size w wr) (fun _ iv _ => a.size - (RowKit.intOf iv).toNat)
      case atStart => exact ⟨0, rfl, Nat.zero_le _, hV0, hb0⟩
      case round =>
        clear hV0 hb0
        obtain ⟨k, rfl, hk, hV, hb⟩ := hrel
        by_cases hks : k < a.size
        · have hkb : k < b.size := by have := HO.out.2.2; omega
          obtain ⟨x, hx⟩ : ∃ x : Nat, (a[k]'hks).toNat = x := ⟨_, rfl⟩
          obtain ⟨y, hy⟩ : ∃ y : Nat, (b[k]'hkb).toNat = y := ⟨_, rfl⟩
          have hx8 : x < 256 := by rw [← hx]; exact UInt8.toNat_lt _
          have hy8 : y < 256 := by rw [← hy]; exact UInt8.toNat_lt _
          have hzt := zipF_take (f := subF) (a := a.data.toList) (b := b.data.toList) (k := k) hks hkb
          rw [get_list a k hks, get_list b k hkb, hx, hy] at hzt
          have HZ := Lib.hid hzt
          clear hzt
          obtain ⟨d, hd⟩ : ∃ d : Int, subF x y = d := ⟨_, rfl⟩
          have hd2 : (x : Int) - (y : Int) = d := hd
          have hwx : IntKind.i64.wrap (x : Int) = (x : Int) := by rw [IntKind.wrap_i64]; omega
          have hwy : IntKind.i64.wrap (y : Int) = (y : Int) := by rw [IntKind.wrap_i64]; omega
          have hws : IntKind.i64.wrap ((x : Int) - (y : Int)) = d := by rw [IntKind.wrap_i64, ← hd2]; omega
          rw [hd] at HZ
          have hll : ((zipF subF (a.data.toList.take k) (b.data.toList.take k)).map (Value.int .i64)).length ≤ 100000000 := by
            rw [List.length_map]
            simp only [zipF, List.length_zipWith, List.length_take]
            omega
          have hVd : OV w.heap.size wr.drew u6 _ := hV.next (Below.refl _ _).drew
          have hbd := hb.drew
          have hVa := hVd.alloc (.cells #[.int .i64 d] 3)
          have hcl := (Rw.new wr.drew 3 [.int .i64 d]).cell 0
          have hls : w.heap.size ≤ (wr.drew.alloc (.cells #[.int .i64 d] 3)).heap.size := by have := hbd.size; simp at this ⊢; omega
          clear hd2
          go_wp2
          go_region_law (refine step_append_one w.heap.size Try.underlying22 hi hz hsz (by omega) rfl rfl (.tmp 28) (.tmp 38) rfl u6 _ rfl hVa ⟨wr.heap.size, 0, none⟩ (.int .i64 d) 1 rfl hcl rfl (by omega) hls ?_; intro v' W4 hV4 hg4 _)
          all_goals
            have hb4 : Below w.heap.size w W4 := (hbd.alloc hbd.size _).grown hg4 hls (fun g hg => (hVa.lt hg).1)
            have hV5 : OV w.heap.size W4 v' ((zipF subF (a.data.toList.take (k + 1)) (b.data.toList.take (k + 1))).map (Value.int .i64)) := by
              rw [HZ.out, List.map_append]
              exact hV4
            clear hV4 hg4 hVa hVd hV hcl hls hll hb hbd hwx hwy hws
            go_wp2
            go_roundw
            case rel => exact ⟨k + 1, rfl, hks, hV5, hb4⟩
            case measure => simp [RowKit.intOf]; omega
        · obtain rfl : k = a.size := by omega
          rw [List.take_of_length_le (show a.data.toList.length ≤ a.size from Nat.le_refl _), List.take_of_length_le (show b.data.toList.length ≤ a.size by rw [HO.out.2.2]; exact Nat.le_refl _)] at hV
          obtain ⟨ad, c, rfl, hri⟩ := hV.ri
          have hl : (zipF subF a.data.toList b.data.toList).length ≤ 100000000 := by
            rw [zipF_length _ _ _ HO.out.2.2]
            exact ha
          obtain ⟨ns, hns⟩ : ∃ ns, zipF subF a.data.toList b.data.toList = ns := ⟨_, rfl⟩
          rw [hns] at hri HO hl
          rw [hns]
          clear hns hV
          go_wp2_with fail
          refine (rof_any _ ad ns ns.length c rfl (by omega) hri o e HO.out.1 HO.out.2.1).mono ?_
          rintro e' W3 ⟨rfl, hq⟩
          replace hb := below_next hb hq
          clear hri hq
          go_wp2
          go_ret2
          exact ⟨by rw [← his]; rfl, hb⟩
end Go.Proofs.Ytdpihoblkldghaa
