/- All products: counted, step, walked. -/
import Derived.Test.YtdpihoblkldghaaM5
import Derived.Test.YtdpihoblkldghaaMFacts
namespace Go.Proofs.Ytdpihoblkldghaa
open Go.RowKit Go.Lib

/-- How many products are within these degrees, and whether all can be listed. -/
def cntV (ns : List Int) : Int × Bool := if okE ns && decide (prodT (ns.map Int.toNat) ≤ 65536) then ((prodT (ns.map Int.toNat) : Int), true) else (0, false)
theorem prodT_step {ns : List Int} {k : Nat} (hk : k < ns.length) : prodT ((ns.take (k + 1)).map Int.toNat) = prodT ((ns.take k).map Int.toNat) * (ns[k].toNat + 1) := by
  rw [List.take_succ_eq_append_getElem hk, List.map_append, List.map_cons, List.map_nil, prodT_snoc]
theorem cntV_bad {ns : List Int} (h : okE ns = false) : cntV ns = (0, false) := by unfold cntV; rw [h]; rfl
theorem cntV_big {ns : List Int} {k : Nat} (h : 65536 < prodT ((ns.take k).map Int.toNat)) : cntV ns = (0, false) := by
  unfold cntV
  have := prodT_take_le (ns.map Int.toNat) k
  rw [← List.map_take] at this
  rw [decide_eq_false (by omega), Bool.and_false]
  rfl
/-- Between the rounds of counted. -/
def CTI (ns : List Int) (k p : Nat) : Prop := k ≤ ns.length ∧ (∀ j (hj : j < ns.length), j < k → 0 ≤ ns[j] ∧ ns[j] ≤ 127) ∧ prodT ((ns.take k).map Int.toNat) = p ∧ p ≤ 65536

set_option maxRecDepth 100000 in
set_option maxHeartbeats 1600000 in
theorem counted_any (w : World) (ad : Option Addr) (ns : List Int) (n c : Nat) (hl : ns.length = n) (hn : n ≤ 1000) (hr : RI w ad ns) (o : Int) (is : Bool) (ho : cntV ns = (o, is)) :
    Calls Try.prog 32 #[.slice ad n c] w (Ret (.tuple #[.int .i64 o, .bool is]) w) := by
  have HO := Lib.hid ho; clear ho
  have hI0 : CTI ns 0 1 := ⟨Nat.zero_le _, fun j _ h => by omega, rfl, by omega⟩
  go_enter Try.func32, Try.ntmps32
  go_wp2
  go_loopw [4, 9] (fun cv iv wr => ∃ k p : Nat, cv = .int .i64 p ∧ iv = .int .i64 k ∧ CTI ns k p ∧ wr = w) (fun _ iv _ => n - (RowKit.intOf iv).toNat)
  case atStart => exact ⟨0, 1, rfl, rfl, hI0, rfl⟩
  case round =>
    clear hI0
    obtain ⟨k, p, rfl, rfl, ⟨hk, hj, hp, hp2⟩, rfl⟩ := hrel
    have hp1 : 1 ≤ p := by rw [← hp]; exact prodT_pos _
    by_cases hkn : k < n
    · obtain ⟨b, off, rfl, hlt, hc⟩ := hr k (by omega)
      have hst := prodT_step (ns := ns) (k := k) (by omega)
      obtain ⟨z, hz⟩ : ∃ z, ns[k]'(by omega) = z := ⟨_, rfl⟩
      rw [hz] at hc hst
      obtain ⟨y, hy⟩ : ∃ y, decide (0 ≤ z ∧ z ≤ 127) = y := ⟨_, rfl⟩
      go_wp2_with fail
      refine (isExp_any _ z y hy).mono ?_
      rintro e' W2 ⟨rfl, rfl⟩
      cases y with
      | false =>
        have hbad := cntV_bad (okE_bad (l := ns) (k := k) (by omega) (by rw [hz]; exact of_decide_eq_false hy))
        rw [HO.out] at hbad
        obtain ⟨rfl, rfl⟩ := Prod.mk.inj hbad
        clear hy hbad hj hp hst
        go_wp2
        go_ret2
        exact ⟨rfl, Below.refl _ _⟩
      | true =>
        have hzz := of_decide_eq_true hy
        obtain ⟨q, hq⟩ : ∃ q : Nat, z = (q : Int) := ⟨z.toNat, by omega⟩
        subst hq
        rw [hp, Int.toNat_natCast] at hst
        have hq127 : q ≤ 127 := by omega
        have hpq : p * (q + 1) ≤ 65536 * 128 := Nat.mul_le_mul hp2 (by omega)
        have hcast : (p : Int) * ((q : Int) + 1) = ((p * (q + 1) : Nat) : Int) := by push_cast; rfl
        obtain ⟨P, hP⟩ : ∃ P, p * (q + 1) = P := ⟨_, rfl⟩
        rw [hP] at hst hpq hcast
        have hj2 : ∀ j (hj : j < ns.length), j < k + 1 → 0 ≤ ns[j] ∧ ns[j] ≤ 127 := fun j h1 h2 => by
          rcases Nat.lt_or_eq_of_le (Nat.le_of_lt_succ h2) with h | h
          · exact hj j h1 h
          · subst h; rw [hz]; exact hzz
        have hw : IntKind.i64.wrap ((p : Int) * ((q : Int) + 1)) = (P : Int) := by rw [hcast, IntKind.wrap_i64]; omega
        by_cases hbig : 65536 < P
        · have hbad := cntV_big (ns := ns) (k := k + 1) (by omega)
          rw [HO.out] at hbad
          obtain ⟨rfl, rfl⟩ := Prod.mk.inj hbad
          clear hy hbad hj hj2 hp hst hcast hP hzz
          go_wp2
          go_ret2
          exact ⟨rfl, Below.refl _ _⟩
        · have HI := Lib.hid (show CTI ns (k + 1) P from ⟨by omega, hj2, hst, by omega⟩)
          clear hy hj hj2 hp hst hcast hP hzz
          go_wp2
          go_roundw
          case rel => exact ⟨k + 1, P, rfl, rfl, HI.out, trivial⟩
          case measure => simp [RowKit.intOf]; omega
    · obtain rfl : k = ns.length := by omega
      have hall := okE_good (fun j hj' => hj j hj' hj')
      rw [List.take_of_length_le (Nat.le_refl _)] at hp
      have hfin : cntV ns = ((p : Int), true) := by unfold cntV; rw [hall, hp, decide_eq_true hp2]; rfl
      rw [HO.out] at hfin
      obtain ⟨rfl, rfl⟩ := Prod.mk.inj hfin
      have hdiv : (32767 : Int) ≤ 2147483647 / (p : Int) := by
        rw [Int.le_ediv_iff_mul_le (by omega)]; omega
      obtain ⟨D, hD⟩ : ∃ D, (2147483647 : Int) / (p : Int) = D := ⟨_, rfl⟩
      have hD2 : D ≤ 2147483647 := by rw [← hD]; exact Int.ediv_le_self _ (by omega)
      rw [hD] at hdiv
      have hle : decide ((n : Int) ≤ D) = true := decide_eq_true (by omega)
      have htd : (2147483647 : Int).tdiv (p : Int) = D := by rw [← hD, Int.tdiv_eq_ediv_of_nonneg (by omega)]
      clear hall hfin hj hp
      go_wp2
      go_region
      all_goals
        go_wp2
        go_ret2
        exact ⟨rfl, (Below.refl _ _).drew⟩

/-- Bytes in a block, as numbers. -/
def nb (l : List Nat) : List Value := l.map fun x : Nat => Value.int .u8 (x : Int)
/-- Between the rounds of step. -/
def SPI (w wr : World) (g : Nat) (ds xs : List Nat) (k : Nat) : Prop :=
  k ≤ xs.length ∧ StepI ds xs k ∧ Rw wr g 5 (nb (xs.take k ++ List.replicate (xs.length - k) 0)) ∧ w.grownBy wr (some g)
set_option maxRecDepth 100000 in
set_option maxHeartbeats 1600000 in
theorem step_any (w : World) (g : Nat) (ad : Option Addr) (xs ds : List Nat) (n c d : Nat) (hl : ds.length = n) (hx : xs.length = n) (hn : n ≤ 1000) (hr : RI w ad (ds.map Int.ofNat)) (hne : ∀ b off, ad = some ⟨b, off, none⟩ → 0 < ds.length → b ≠ g)
    (hd : ∀ x ∈ ds, x ≤ 127) (hxs : ∀ i (h1 : i < xs.length) (h2 : i < ds.length), xs[i] ≤ ds[i]) (hR : Rw w g 5 (nb xs)) :
    Calls Try.prog 33 #[.slice (some ⟨g, 0, none⟩) n d, .slice ad n c] w (fun e w' => e = .returned (.tuple #[]) ∧ w.grownBy w' (some g) ∧ Rw w' g 5 (nb (stepR ds.reverse xs.reverse).reverse)) := by
  have hI0 : SPI w w g ds xs n := ⟨by omega, by rw [← hx]; exact StepI.start (by omega), by rw [← hx, Nat.sub_self, List.take_of_length_le (Nat.le_refl _), List.replicate_zero, List.append_nil]; exact hR, ⟨rfl, rfl, rfl, Nat.le_refl _, fun _ _ _ => rfl⟩⟩
  have HD := Lib.hid (And.intro hd hxs)
  clear hd hR hxs
  go_enter Try.func33, Try.ntmps33
  go_wp2
  go_loopw [4] (fun iv wr => ∃ k : Nat, iv = .int .i64 ((k : Int) - 1) ∧ SPI w wr g ds xs k) (fun iv _ => (RowKit.intOf iv + 1).toNat)
  case atStart => exact ⟨n, rfl, hI0⟩
  case round =>
    clear hI0
    obtain ⟨k, rfl, hk, hS, hRw, hg⟩ := hrel
    cases k with
    | zero =>
      have hT := hS.all
      rw [List.take_zero, List.nil_append, Nat.sub_zero, ← hT] at hRw
      have HT := Lib.hid (And.intro hg hRw)
      have e1 : decide (0 ≤ ((0 : Nat) : Int) - 1) = false := rfl
      clear hS hRw hg hT
      go_wp2
      go_end0
      exact ⟨rfl, HT.out⟩
    | succ k =>
      have e1 : (((k + 1 : Nat) : Int) - 1) = (k : Int) := by omega
      rw [e1]
      have hkx : k < xs.length := by omega
      have hkd : k < ds.length := by omega
      obtain ⟨b, off, rfl, hlt, hc0⟩ := hr k (by simpa using hkd)
      have hbg := hne b off rfl (by omega)
      have hc : wr.cell? ⟨b, off + k, none⟩ = some (.int .i64 (ds[k] : Int)) := by
        have := hg.cell hc0 (by simpa using hbg)
        rw [this]; simp
      have hcx := hRw.cell k
      have hfx := hRw.frozen k
      have hget : (nb (xs.take (k + 1) ++ List.replicate (xs.length - (k + 1)) 0))[k]? = some (.int .u8 (xs[k] : Int)) := by
        unfold nb
        have h1 : k < (xs.take (k + 1)).length := by rw [List.length_take]; omega
        have h2 : k < k + 1 := by omega
        rw [List.getElem?_map, List.getElem?_append_left h1, List.getElem?_take_of_lt h2, List.getElem?_eq_getElem hkx]
        rfl
      rw [hget] at hcx
      have hxd := HD.out.2 k hkx hkd
      have hd127 := HD.out.1 _ (List.getElem_mem hkd)
      obtain ⟨x, hx'⟩ : ∃ x, xs[k] = x := ⟨_, rfl⟩
      obtain ⟨D, hD⟩ : ∃ D, ds[k] = D := ⟨_, rfl⟩
      have hsetv : ∀ v : Nat, (nb (xs.take (k + 1) ++ List.replicate (xs.length - (k + 1)) 0)).set k (.int .u8 (v : Int)) = nb (xs.take k ++ v :: List.replicate (xs.length - (k + 1)) 0) := fun v => by
        unfold nb
        have h1 : ((xs.take k).map fun x : Nat => Value.int .u8 (x : Int)).length = k := by rw [List.length_map, List.length_take]; omega
        rw [List.take_succ_eq_append_getElem hkx, List.append_assoc, List.map_append, List.set_append_right _ _ (by rw [h1]; exact Nat.le_refl _), h1, Nat.sub_self]
        simp
      by_cases hlt' : x < D
      · have hfin := hS.less hkd hkx (by omega)
        have hnew := hRw.set_ k (.int .u8 ((x + 1 : Nat) : Int))
        rw [hsetv, ← hx', ← hfin] at hnew
        rw [hx'] at hcx hxd
        rw [hD] at hc hd127 hxd
        have hgn : w.grownBy (wr.setCell ⟨g, k, none⟩ (.int .u8 ((x + 1 : Nat) : Int))) (some g) :=
          ⟨hg.os, hg.tape, hg.output, by simpa [World.setCell] using hg.size, fun i hi h => (Below.heap_setCell wr _ _ i (by rintro rfl; exact h rfl)).trans (hg.block i hi h)⟩
        have e2 : ((x + 1 : Nat) : Int) = (x : Int) + 1 := by omega
        rw [hx', e2] at hnew
        rw [e2] at hgn
        have HT := Lib.hid (And.intro hgn hnew)
        have hw8 : IntKind.u8.wrap ((x : Int) + 1) = (x : Int) + 1 := by rw [IntKind.wrap_u8]; omega
        clear hS hRw hg hnew hgn hget hsetv hx' hD hfin hc0 e2 e1 hxd
        go_wp2
        go_region
        all_goals
          go_wp2
          (try simp only [Exit.inBlock, Exit.then])
          refine bodyPost_ret (results_none rfl _ _ _) rfl ?_
          exact ⟨rfl, ⟨HT.out.1.os, HT.out.1.tape, HT.out.1.output, HT.out.1.size, HT.out.1.block⟩, HT.out.2⟩
      · have hmore := hS.more hkd hkx (by omega)
        have hnew := hRw.set_ k (.int .u8 ((0 : Nat) : Int))
        rw [hsetv] at hnew
        have e3 : xs.take k ++ 0 :: List.replicate (xs.length - (k + 1)) 0 = xs.take k ++ List.replicate (xs.length - k) 0 := by
          rw [show xs.length - k = (xs.length - (k + 1)) + 1 by omega, List.replicate_succ]
        rw [e3] at hnew
        rw [hx'] at hcx hxd
        rw [hD] at hc hd127 hxd
        have hgn : w.grownBy (wr.setCell ⟨g, k, none⟩ (.int .u8 ((0 : Nat) : Int))) (some g) :=
          ⟨hg.os, hg.tape, hg.output, by simpa [World.setCell] using hg.size, fun i hi h => (Below.heap_setCell wr _ _ i (by rintro rfl; exact h rfl)).trans (hg.block i hi h)⟩
        have hI := Lib.hid (show SPI w (wr.setCell ⟨g, k, none⟩ (.int .u8 0)) g ds xs k from ⟨by omega, hmore, hnew, hgn⟩)
        clear hS hRw hg hnew hgn hget hsetv hx' hD hmore hc0 e1 e3
        go_wp2
        go_region
        all_goals
          go_wp2
          go_roundw
          case rel => exact ⟨k, rfl, hI.out.1, hI.out.2.1, hI.out.2.2.1, ⟨hI.out.2.2.2.os, hI.out.2.2.2.tape, hI.out.2.2.2.output, hI.out.2.2.2.size, hI.out.2.2.2.block⟩⟩
          case measure =>
            show ((k : Int) - 1 + 1).toNat < ((k : Int) + 1).toNat
            omega
end Go.Proofs.Ytdpihoblkldghaa
