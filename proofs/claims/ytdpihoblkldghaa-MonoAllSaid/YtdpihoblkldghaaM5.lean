/- Products as strings: together, Mul, Div, walked. -/
import Derived.Test.YtdpihoblkldghaaM4
import Derived.Test.YtdpihoblkldghaaMApp
namespace Go.Proofs.Ytdpihoblkldghaa
open Go.RowKit Go.Lib

theorem OV.ne_iter {B : Nat} {w : World} {v : Value} {vs : List Value} (h : OV B w v vs) {k : Nat} {s : ByteArray} {pos : Nat} (hk : w.heap[k]? = some (.stringIter s pos)) : some k ≠ v.ownBlock := by
  rcases h with ⟨rfl, _⟩ | ⟨g, cap, T, L, rfl, _, hR, _⟩
  · intro e; cases e
  · intro e
    simp only [Value.ownBlock, Option.some.injEq] at e
    subst e
    unfold Rw at hR
    rw [hk] at hR
    cases hR
theorem grown_iterAt (w : World) (k : Nat) (s : ByteArray) (pos : Nat) : w.grownBy (w.iterAt k s pos) (some k) :=
  ⟨rfl, rfl, rfl, by rw [iterAt_size]; exact Nat.le_refl _, fun i _ hne => iterAt_other w k i s pos (fun e => hne (by rw [e]))⟩
theorem OV.iterAt {B : Nat} {w : World} {v : Value} {vs : List Value} (h : OV B w v vs) {k : Nat} {s : ByteArray} {pos : Nat} (hk : w.heap[k]? = some (.stringIter s pos)) (pos' : Nat) : OV B (w.iterAt k s pos') v vs :=
  h.grown (grown_iterAt w k s pos') (fun g e e2 => by
    have h2 := h.ne_iter hk
    rw [e] at h2
    injection e2 with e3
    exact h2 (by rw [e3]))

/-- What do makes of each variable's exponents. -/
def zipF (f : Nat → Nat → Int) (a b : List UInt8) : List Int := List.zipWith (fun x y => f x.toNat y.toNat) a b
def togS (f : Nat → Nat → Int) (a b : ByteArray) : ByteArray := if okM a.data.toList && okM b.data.toList && decide (a.size = b.size) then ofS (zipF f a.data.toList b.data.toList) else ⟨#[]⟩
def togE (f : Nat → Nat → Int) (a b : ByteArray) : Int := if okM a.data.toList && okM b.data.toList && decide (a.size = b.size) then ofE (zipF f a.data.toList b.data.toList) else 1
theorem zipF_take {f : Nat → Nat → Int} {a b : List UInt8} {k : Nat} (ha : k < a.length) (hb : k < b.length) : zipF f (a.take (k + 1)) (b.take (k + 1)) = zipF f (a.take k) (b.take k) ++ [f a[k].toNat b[k].toNat] := by
  unfold zipF
  rw [List.take_succ_eq_append_getElem ha, List.take_succ_eq_append_getElem hb, List.zipWith_append (by simp; omega)]
  rfl
theorem zipF_length (f : Nat → Nat → Int) (a b : List UInt8) (h : a.length = b.length) : (zipF f a b).length = a.length := by simp [zipF, h]
/-- Between the rounds of together. -/
def TGI (f : Nat → Nat → Int) (w wr : World) (a b : ByteArray) (v : Value) (k : Nat) : Prop :=
  k ≤ a.size ∧ wr.heap[w.heap.size + 1]? = some (.stringIter a k) ∧ OV w.heap.size wr v ((zipF f (a.data.toList.take k) (b.data.toList.take k)).map (Value.int .i64)) ∧ Below w.heap.size w wr
theorem room_start (f : Nat → Nat → Int) (w : World) (a b : ByteArray) (L : List Value) (hL : L.length = 12) (T : TypeId) : TGI f w ((w.alloc (.cells L.toArray T)).iter a 0) a b (.slice (some ⟨w.heap.size, 0, none⟩) 0 12) 0 := by
  refine ⟨Nat.zero_le _, ?_, ?_, ((Below.refl _ _).alloc (Nat.le_refl _) _).alloc (by simp) _⟩
  · have := World.iter_heap (w.alloc (.cells L.toArray T)) a 0
    rwa [World.size_alloc] at this
  · have h : Rw ((w.alloc (.cells L.toArray T)).iter a 0) w.heap.size T L := (Rw.new w T L).alloc (.stringIter a 0)
    exact OV.of_rw h (Nat.le_refl _) hL (by unfold maxLen; omega)

set_option maxRecDepth 100000 in
set_option maxHeartbeats 3200000 in
theorem together_any (w : World) (a b : ByteArray) (ha : a.size ≤ 100000000) (hb' : b.size ≤ 100000000) (g : FuncId) (f : Nat → Nat → Int) (hgo : ∀ (aa : Array Value) (W : World), Sem.run Try.prog (callFunc g aa) W = .ok (.enter g aa) W)
    (hf : ∀ (W : World) (x y : Nat), x < 128 → y < 128 → Calls Try.prog g #[.int .i64 x, .int .i64 y] W (fun e w' => e = .returned (.int .i64 (f x y)) ∧ W = w')) (o : ByteArray) (e : Int) (ho : togS f a b = o) (he : togE f a b = e) :
    Calls Try.prog 29 #[.string a, .string b, .func (.func g) #[] #[]] w (Ret (.tuple #[.string o, .int .i64 e]) w) := by
  have hb := Below.refl w.heap.size w
  obtain ⟨i, hi, hz, hs, hby⟩ := info_parts infoI
  obtain ⟨ca, hca⟩ : ∃ m, okM a.data.toList = m := ⟨_, rfl⟩
  obtain ⟨cb, hcb⟩ : ∃ m, okM b.data.toList = m := ⟨_, rfl⟩
  have hbad : (okM a.data.toList && okM b.data.toList && decide (a.size = b.size)) = false → o = ⟨#[]⟩ ∧ e = 1 := fun h => ⟨by rw [← ho]; unfold togS; rw [h]; rfl, by rw [← he]; unfold togE; rw [h]; rfl⟩
  go_enter Try.func29, Try.ntmps29
  go_wp2_with fail
  obtain ⟨m, hm⟩ : ∃ m, (okM a.data.toList && decide ((a.size : Int) = b.size)) = m := ⟨_, rfl⟩
  refine (may_any _ a (by omega) b.size m hm).mono ?_
  rintro e' W1 ⟨rfl, hq⟩
  replace hb := below_next hb hq
  clear hq
  cases m with
  | false =>
    obtain ⟨rfl, rfl⟩ := hbad (by
      rw [Bool.and_eq_false_iff] at hm
      rcases hm with h | h
      · rw [h]; rfl
      · have : ¬ a.size = b.size := fun e => of_decide_eq_false h (by omega)
        simp [this])
    clear hbad hm ho he
    go_wp2
    go_ret2
    exact ⟨rfl, hb⟩
  | true =>
    rw [Bool.and_eq_true, decide_eq_true_eq] at hm
    have hsz : a.size = b.size := by omega
    have HS := Lib.hid hsz
    have hm1 := hm.1
    clear hsz hm
    go_wp2_with fail
    refine (may_any _ b (by omega) a.size cb (by rw [hcb, HS.out]; simp)).mono ?_
    rintro e' W ⟨rfl, hq⟩
    replace hb := below_next hb hq
    clear hq
    cases cb with
    | false =>
      obtain ⟨rfl, rfl⟩ := hbad (by rw [hcb]; simp)
      clear hbad hm1 ho he
      go_wp2
      go_ret2
      exact ⟨rfl, hb⟩
    | true =>
      have hall : (okM a.data.toList && okM b.data.toList && decide (a.size = b.size)) = true := by rw [hm1, hcb, HS.out]; simp
      have h1 : ofS (zipF f a.data.toList b.data.toList) = o := by rw [← ho]; unfold togS; rw [hall]; rfl
      have h2 : ofE (zipF f a.data.toList b.data.toList) = e := by rw [← he]; unfold togE; rw [hall]; rfl
      have HO := Lib.hid (And.intro h1 (And.intro h2 (And.intro hm1 hcb)))
      have hI := room_start f W a b [.int .i64 0, .int .i64 0, .int .i64 0, .int .i64 0, .int .i64 0, .int .i64 0, .int .i64 0, .int .i64 0, .int .i64 0, .int .i64 0, .int .i64 0, .int .i64 0] rfl 60
      clear ho he hbad hm1 hcb hca hall h1 h2
      go_wp2
      go_loopw [9] (fun v wr => ∃ k : Nat, TGI f W wr a b v k) (fun _ wr => a.size - wr.iterPos (W.heap.size + 1))
      case atStart => exact ⟨0, hI⟩
      case round =>
        clear hI
        obtain ⟨k, hk, hit, hV, hbw⟩ := hrel
        by_cases hks : k < a.size
        · have hkb : k < b.size := by have := HS.out; omega
          have hA : (a[k]'hks).toNat < 128 := by
            have := okM_get HO.out.2.2.1 (k := k) hks
            rwa [get_list] at this
          have hB : (b[k]'hkb).toNat < 128 := by
            have := okM_get HO.out.2.2.2 (k := k) hkb
            rwa [get_list] at this
          have hnx : ∀ ty, (Instr.next (.pointer (some ⟨W.heap.size + 1, 0, none⟩)) true ty).run Try.prog wr = _ := fun ty => Lib.run_next_ascii_at wr (W.heap.size + 1) a k ty hit hks hA
          have hitn : (wr.iterAt (W.heap.size + 1) a (k + 1)).heap[W.heap.size + 1]? = some (.stringIter a (k + 1)) := Lib.iterAt_heap _ _ _ _ _ hit
          have hVn := hV.iterAt hit (k + 1)
          have hbn := below_iterAt hbw (k := W.heap.size + 1) (by omega) a (k + 1)
          have hzt := zipF_take (f := f) (a := a.data.toList) (b := b.data.toList) (k := k) hks hkb
          rw [get_list a k hks, get_list b k hkb] at hzt
          have hpos0 := iterPos_of hit
          obtain ⟨x, hx⟩ : ∃ x : Nat, (a[k]'hks).toNat = x := ⟨_, rfl⟩
          obtain ⟨y, hy⟩ : ∃ y : Nat, (b[k]'hkb).toNat = y := ⟨_, rfl⟩
          rw [hx, hy] at hzt
          rw [hx] at hA hnx
          rw [hy] at hB
          have hll : (zipF f (a.data.toList.take k) (b.data.toList.take k)).length ≤ 100000000 := by
            rw [zipF_length _ _ _ (by rw [List.length_take, List.length_take, show a.data.toList.length = a.size from rfl, show b.data.toList.length = b.size from rfl, HS.out]), List.length_take]
            have : a.data.toList.length = a.size := rfl
            omega
          have HR := Lib.hid (And.intro hzt (And.intro hpos0 hx))
          clear hV hbw hit hzt hpos0 hx
          go_wp2_with fail
          refine (hf _ x y hA hB).mono ?_
          rintro e' W3 ⟨rfl, rfl⟩
          generalize wr.iterAt (W.heap.size + 1) a (k + 1) = W3 at *
          obtain ⟨d, hd⟩ : ∃ d, f x y = d := ⟨_, rfl⟩
          rw [hd] at HR
          rw [hd]
          have hVa := hVn.alloc (.cells #[.int .i64 d] 3)
          have hcl := (Rw.new W3 3 [.int .i64 d]).cell 0
          have hls : W.heap.size ≤ (W3.alloc (.cells #[.int .i64 d] 3)).heap.size := by have := hbn.size; simp; omega
          have hns := hVn.ne_iter hitn
          have hil : W.heap.size + 1 < W3.heap.size := (Array.getElem?_eq_some_iff.1 hitn).1
          go_wp2_with (first
            | (at_builtin; refine wpList_append_one W.heap.size Try.underlying22 hi hz hs (by omega) rfl rfl (.tmp 31) (.tmp 40) rfl u9 _ rfl hVa ⟨W3.heap.size, 0, none⟩ (.int .i64 d) 1 rfl hcl rfl (by rw [List.length_map]; omega) hls ?_))
          intro v' W4 hV4 hg4 _
          have hitA : (W3.alloc (.cells #[.int .i64 d] 3)).heap[W.heap.size + 1]? = some (.stringIter a (k + 1)) := (Below.heap_alloc W3 _ _ hil).trans hitn
          have hit4 : W4.heap[W.heap.size + 1]? = some (.stringIter a (k + 1)) := (hg4.block _ (by simp; omega) hns).trans hitA
          have hb4 : Below W.heap.size W W4 := (hbn.alloc (by have := hbn.size; omega) _).grown hg4 hls (fun g hg => (hVa.lt hg).1)
          have hI : TGI f W W4 a b v' (k + 1) := ⟨hks, hit4, by rw [HR.out.1, List.map_append]; exact hV4, hb4⟩
          have hpos := iterPos_of hit4
          have HI := Lib.hid (And.intro hI hpos)
          clear hI hpos hit4 hitA hitn hV4 hg4 hb4 hVa hVn hcl hls hns hil hbn
          go_wp2
          go_roundw
          case rel => exact ⟨k + 1, HI.out.1⟩
          case measure => rw [HI.out.2, HR.out.2.1]; omega
        · have hnx : ∀ ty, (Instr.next (.pointer (some ⟨W.heap.size + 1, 0, none⟩)) true ty).run Try.prog wr = _ := fun ty => Lib.run_next_end_at wr (W.heap.size + 1) a k ty hit hks
          obtain rfl : k = a.size := by omega
          have hb2 := below_next hb hbw
          rw [List.take_of_length_le (show a.data.toList.length ≤ a.size from Nat.le_refl _), List.take_of_length_le (show b.data.toList.length ≤ a.size by rw [HS.out]; exact Nat.le_refl _)] at hV
          obtain ⟨ad, c, rfl, hri⟩ := hV.ri
          obtain ⟨ns, hns⟩ : ∃ ns, zipF f a.data.toList b.data.toList = ns := ⟨_, rfl⟩
          have hl : ns.length ≤ 100000000 := by
            rw [← hns, zipF_length _ _ _ HS.out]
            exact ha
          rw [hns] at hri HO
          rw [hns]
          clear hns hV
          go_wp2_with fail
          refine (of_any _ ad ns ns.length c rfl (by omega) hri o e HO.out.1 HO.out.2.1).mono ?_
          rintro e' W3 ⟨rfl, hq⟩
          replace hb2 := below_next hb2 hq
          clear hri hq hbw
          go_wp2
          go_ret2
          exact ⟨rfl, hb2⟩

def addF (x y : Nat) : Int := (x : Int) + y
def subF (x y : Nat) : Int := (x : Int) - y
set_option maxRecDepth 100000 in
theorem mul1_any (W : World) (x y : Nat) (hx : x < 128) (hy : y < 128) : Calls Try.prog 30 #[.int .i64 x, .int .i64 y] W (fun e w' => e = .returned (.int .i64 (addF x y)) ∧ W = w') := by
  go_enter Try.func30, Try.ntmps30
  go_wp2
  go_ret
  exact ⟨rfl, rfl⟩
set_option maxRecDepth 100000 in
theorem div1_any (W : World) (x y : Nat) (hx : x < 128) (hy : y < 128) : Calls Try.prog 31 #[.int .i64 x, .int .i64 y] W (fun e w' => e = .returned (.int .i64 (subF x y)) ∧ W = w') := by
  go_enter Try.func31, Try.ntmps31
  go_wp2
  go_ret
  exact ⟨rfl, rfl⟩
set_option maxRecDepth 100000 in
set_option maxHeartbeats 1600000 in
theorem mul_any (w : World) (a b : ByteArray) (ha : a.size ≤ 100000000) (hb' : b.size ≤ 100000000) (o : ByteArray) (e : Int) (ho : togS addF a b = o) (he : togE addF a b = e) :
    Calls Try.prog 18 #[.string a, .string b] w (Ret (.tuple #[.string o, .int .i64 e]) w) := by
  go_enter Try.func18, Try.ntmps18
  go_wp2_with fail
  refine (together_any _ a b ha hb' 30 addF (fun _ _ => by kernel_rfl) mul1_any o e ho he).mono ?_
  rintro e' W ⟨rfl, hb⟩
  go_wp2
  go_ret2
  exact ⟨rfl, hb⟩
set_option maxRecDepth 100000 in
set_option maxHeartbeats 1600000 in
theorem div_any (w : World) (a b : ByteArray) (ha : a.size ≤ 100000000) (hb' : b.size ≤ 100000000) (o : ByteArray) (is : Bool) (ho : togS subF a b = o) (he : decide (togE subF a b = 0) = is) :
    Calls Try.prog 20 #[.string a, .string b] w (Ret (.tuple #[.string o, .bool is]) w) := by
  go_enter Try.func20, Try.ntmps20
  obtain ⟨e, hee⟩ : ∃ e, togE subF a b = e := ⟨_, rfl⟩
  go_wp2_with fail
  refine (together_any _ a b ha hb' 31 subF (fun _ _ => by kernel_rfl) div1_any o e ho hee).mono ?_
  rintro e' W ⟨rfl, hb⟩
  rw [hee] at he
  go_wp2
  go_ret2
  exact ⟨by rw [← he]; rfl, hb⟩
end Go.Proofs.Ytdpihoblkldghaa
