/- Package whole: Pow, walked. -/
import Derived.Test.YtfgolecbchhokaaGreatDoorW2
namespace Go.Proofs.YtfgolecbchhokaaGreatDoor
open Go.RowKit Go.Shelf

/-- A power's size. -/
theorem pow_size (s : ByteArray) (e B : Nat) (he : e ≤ B) : (fb (num s ^ e)).size ≤ s.size * B + 1 := by
  refine fb_size_le ?_
  have h1 : num s ^ e ≤ (256 ^ s.size) ^ e := Nat.pow_le_pow_left (Nat.le_of_lt (num_lt s)) e
  rw [← Nat.pow_mul] at h1
  have h2 : 256 ^ (s.size * e) ≤ 256 ^ (s.size * B) := Nat.pow_le_pow_right (by omega) (Nat.mul_le_mul_left _ he)
  have h3 : 256 ^ (s.size * B) < 256 ^ (s.size * B + 1) := Nat.pow_lt_pow_right (by omega) (by omega)
  omega
theorem fb_num_of {m : Nat} {u : ByteArray} (h : fb m = u) : fb (num u) = u := by rw [← h, num_fb]
/-- The bit at e. -/
theorem and_one (k e : Nat) (h : k ≤ 64) : bits .and .i64 ((k : Int) / 2 ^ e) 1 = ((k / 2 ^ e % 2 : Nat) : Int) := by
  have h1 : (BitVec.ofInt 64 1).toNat = 2 ^ 1 - 1 := by decide
  have he : ((k : Int) / 2 ^ e) = ((k / 2 ^ e : Nat) : Int) := by rw [Int.natCast_ediv, Int.natCast_pow]; rfl
  have hle : k / 2 ^ e ≤ k := Nat.div_le_self _ _
  rw [he]
  generalize k / 2 ^ e = m at *
  have key : (BitVec.ofInt 64 (m : Int) &&& BitVec.ofInt 64 1).toNat = ((m : Int) % ((2 ^ 64 : Nat) : Int)).toNat % 2 ^ 1 := by
    rw [BitVec.toNat_and, BitVec.toNat_ofInt, h1, Nat.and_two_pow_sub_one_eq_mod]
  show IntKind.i64.wrap ((BitVec.ofInt 64 (m : Int) &&& BitVec.ofInt 64 1).toNat : Nat) = _
  rw [key, IntKind.wrap_i64]
  omega
/-- Between the rounds of Pow. -/
def PW (w wr : World) (n : Bool) (s : ByteArray) : Prop :=
  (wr.cell? ⟨w.heap.size, 0, none⟩ = some (.bool n) ∧ wr.cell? ⟨w.heap.size, 1, none⟩ = some (.string s)) ∧ Bk wr (w.heap.size + 1) #[.bool false, .string ⟨#[]⟩] ∧ Below w.heap.size w wr
def intW : Value → Nat | .int _ n => n.toNat | _ => 0

set_option maxRecDepth 100000 in
set_option maxHeartbeats 400000 in
theorem wpow_none (w : World) (n : Bool) (s : ByteArray) (k : Int) (hk : k < 1) (z : Bool) (o : ByteArray) (hz : wf 1 = wi z o) :
    Calls Tryz.prog 101 #[wi n s, .int .i64 k] w (Ret (.agg #[.bool z, .string o]) w) := by
  have HZ := Lib.hid hz; clear hz
  unfold wi
  go_enter Tryz.func101, Tryz.ntmps101
  go_wp2_with fail
  obtain ⟨hA, hC, hb⟩ := blocks2 w #[Value.bool n, Value.string s] #[Value.bool false, Value.string { data := #[] }]
  generalize ((w.alloc (Obj.cells #[Value.bool n, Value.string s] 23)).alloc (Obj.cells #[Value.bool false, Value.string { data := #[] }] 23)) = W0 at *
  refine (wof_any _ 1 (by omega) (by omega) z o HZ.out).mono ?_
  rintro e W1 ⟨rfl, hq⟩
  replace hb := below_next hb hq
  replace hC := hC.below hq
  obtain ⟨hC0, hC1, hC2, hC3⟩ := hC.facts
  clear hq hA
  go_wp2
  exact ret_whole rfl rfl (hC.set_ _ _) ⟨rfl, below_set2 hb (by omega) _ _ _ _⟩

set_option maxRecDepth 100000 in
set_option maxHeartbeats 800000 in
theorem wpow_some (w : World) (n : Bool) (s : ByteArray) (k : Nat) (hs : s.size ≤ 10000) (hk : 1 ≤ k) (hk2 : k ≤ 64) (z : Bool) (o : ByteArray) (hz : wf (sI (n && decide (k % 2 = 1)) (num s ^ k)) = wi z o) :
    Calls Tryz.prog 101 #[wi n s, .int .i64 k] w (Ret (.agg #[.bool z, .string o]) w) := by
  have HZ := Lib.hid hz; clear hz
  obtain ⟨y, hy⟩ : ∃ y : Nat, bl (num s) = y := ⟨_, rfl⟩
  have hy2 : y ≤ 80000 := by rw [← hy]; have := bl_size (k := 10000) hs; omega
  have hy3 : ((bl (num s) : Nat) : Int) = (y : Int) := by rw [hy]
  have HY := Lib.hid hy3; clear hy hy3
  unfold wi
  go_enter Tryz.func101, Tryz.ntmps101
  go_wp2_with fail
  obtain ⟨hA, hC, hb⟩ := blocks2 w #[Value.bool n, Value.string s] #[Value.bool false, Value.string { data := #[] }]
  generalize ((w.alloc (Obj.cells #[Value.bool n, Value.string s] 23)).alloc (Obj.cells #[Value.bool false, Value.string { data := #[] }] 23)) = W0 at *
  obtain ⟨M, hM⟩ : ∃ M : Nat, 17179869176 / k = M := ⟨_, rfl⟩
  have hM2 : 80000 ≤ M := by
    rw [← hM]
    exact (Nat.le_div_iff_mul_le (by omega)).2 (by omega)
  have hM3 : (17179869176 : Int).tdiv (k : Int) = (M : Int) := by rw [← hM]; rfl
  have hk0 : ¬ k = 0 := by omega
  have hM5 : M ≤ 17179869176 := by rw [← hM]; exact Nat.div_le_self _ _
  have hM4 : wrap64 (M : Int) = (M : Int) := by unfold wrap64; omega
  have hM6 : IntKind.i64.wrap (M : Int) = (M : Int) := by rw [IntKind.wrap_i64]; omega
  have hy6 : IntKind.i64.wrap ((y : Int) - 1) = (y : Int) - 1 := by rw [IntKind.wrap_i64]; omega
  have hcf : ¬ ((M : Int) < (y : Int) - 1) := by omega
  clear hM
  replace hC := hC.drew
  replace hb := hb.drew
  have hin := hA.drew.cells
  clear hA
  go_region_held3 (fun w' => w'.cell? ⟨w.heap.size, 0, none⟩ = some (.bool n) ∧ w'.cell? ⟨w.heap.size, 1, none⟩ = some (.string s))
    (first | assumption | exact held (by assumption) (by assumption) | exact held_set2 (by assumption) (by omega) | exact held_alloc (by assumption))
    (first
     | (go_at_call 66; refine (use_len _ s _ (by omega) HY.out).mono ?_; rintro e W1 ⟨rfl, hq⟩; replace hb := below_next hb hq; replace hC := hC.below hq))
  rename_i hin1
  obtain ⟨hA0, hA1⟩ := hin1
  go_wp2_with fail
  clear hM2 hM3 hM4 hM5 hM6 hy6 hcf hin
  have hA : W1.cell? ⟨w.heap.size, 0, none⟩ = some (.bool n) ∧ W1.cell? ⟨w.heap.size, 1, none⟩ = some (.string s) := ⟨hA0, hA1⟩
  clear hA0 hA1
  refine (use_of _ ⟨#[1]⟩ 1 (by unfold B64; omega) (by kernel_rfl)).mono ?_
  rintro e W2 ⟨rfl, hq2⟩
  replace hb := below_next hb hq2
  replace hC := hC.below hq2
  replace hA := held hA hq2
  clear hq2 hq
  go_wp2_with fail
  refine (Tryz.bits_Len (k : Int) _ (by omega) (by omega)).mono ?_
  rintro e W3 ⟨rfl, rfl⟩
  have hcl : Lib.bitLen (k : Int).toNat = bl k := by rw [Int.toNat_natCast]; exact bitLen_bl (by omega)
  obtain ⟨cn, hcn⟩ : ∃ cn, bl k = cn := ⟨_, rfl⟩
  have hcl2 : Lib.bitLen (k : Int).toNat = cn := hcl.trans hcn
  rw [hcl2]
  have hcb : cn ≤ 7 := by rw [← hcn]; exact bl_le (by omega)
  have hk3 : k / 2 ^ cn = 0 := by rw [← hcn]; exact Nat.div_eq_of_lt (bl_bounds (by omega)).2.2
  have HK := Lib.hid hk3; clear hk3 hcl hcl2 hcn
  go_wp2_with fail
  have hP0 : PW w W3 n s := ⟨hA, hC, hb⟩
  clear hA hC hb
  have hM0 : fb (num s ^ (k / 2 ^ (cn - 0))) = ⟨#[1]⟩ := by rw [Nat.sub_zero, HK.out, Nat.pow_zero]; kernel_rfl
  have HM0 := Lib.hid hM0; clear hM0
  go_loopw [5, 24] (fun mv i wr => ∃ (j : Nat) (t : ByteArray), j ≤ cn ∧ mv = .string t ∧ i = .int .i64 j ∧ fb (num s ^ (k / 2 ^ (cn - j))) = t ∧ PW w wr n s) (fun _ i _ => cn - intW i)
  case atStart => exact ⟨0, ⟨#[1]⟩, Nat.zero_le _, rfl, rfl, HM0.out, hP0⟩
  case round =>
    clear hP0
    obtain ⟨j, t, hj, rfl, rfl, ht, hA, hC, hb⟩ := hrel
    have hsk : s.size * 64 ≤ 640000 := by omega
    have hts : t.size ≤ 640001 := by
      rw [← ht]
      exact Nat.le_trans (pow_size s _ 64 (Nat.le_trans (Nat.div_le_self _ _) hk2)) (by omega)
    have hnt : num t = num s ^ (k / 2 ^ (cn - j)) := by rw [← ht, num_fb]
    have HT := Lib.hid (And.intro ht hnt); clear ht hnt
    by_cases hlt : j < cn
    · obtain ⟨u, hu⟩ : ∃ u, fb (num t * num t) = u := ⟨_, rfl⟩
      have hpb := pow_bits (num s) k (cn - (j + 1))
      rw [show cn - (j + 1) + 1 = cn - j by omega] at hpb
      have hun : num u = num s ^ (k / 2 ^ (cn - j)) * num s ^ (k / 2 ^ (cn - j)) := by rw [← hu, num_fb, HT.out.2]
      rw [← hun] at hpb
      have hus : u.size ≤ 1280002 := by
        rw [← hu]
        have := fb_size_le (lt_mul (num_lt t) (num_lt t))
        omega
      have HU := Lib.hid hu; clear hu hun
      obtain ⟨hA0, hA1⟩ := hA
      go_wp2_with fail
      refine (use_mul _ t t u (by omega) (by omega) HU.out).mono ?_
      rintro e V1 ⟨rfl, hq⟩
      replace hb := below_next hb hq
      replace hC := hC.below hq
      have hA := held ⟨hA0, hA1⟩ hq
      clear hA0 hA1 hq
      obtain ⟨hA0, hA1⟩ := hA
      have hba := and_one k (cn - 1 - j) hk2
      rw [show cn - (j + 1) = cn - 1 - j by omega] at hpb
      clear hsk hts HT
      by_cases hbt : k / 2 ^ (cn - 1 - j) % 2 = 1
      · rw [if_pos hbt] at hpb
        rw [hbt] at hba
        obtain ⟨v, hv⟩ : ∃ v, fb (num u * num s) = v := ⟨_, rfl⟩
        rw [← hpb] at hv
        have HV := Lib.hid (And.intro (hpb ▸ hv) hv); clear hv hpb hbt
        go_wp2_with fail
        refine (use_mul _ u s v (by omega) (by omega) HV.out.1).mono ?_
        rintro e V2 ⟨rfl, hq⟩
        replace hb := below_next hb hq
        replace hC := hC.below hq
        have hA := held ⟨hA0, hA1⟩ hq
        clear hA0 hA1 hq
        go_wp2
        go_roundw
        case rel => exact ⟨j + 1, v, by omega, rfl, by simp, by rw [show cn - (j + 1) = cn - 1 - j by omega]; exact HV.out.2, hA, hC, hb⟩
        case measure => simp [intW]; omega
      · rw [if_neg hbt, Nat.mul_one] at hpb
        have hbt0 : k / 2 ^ (cn - 1 - j) % 2 = 0 := by omega
        rw [hbt0] at hba
        have HV := Lib.hid (And.intro HU.out hpb); clear hpb hbt hbt0
        go_wp2
        go_roundw
        case rel => exact ⟨j + 1, u, by omega, rfl, by simp, by rw [show cn - (j + 1) = cn - 1 - j by omega, HV.out.2, fb_num_of HV.out.1], ⟨hA0, hA1⟩, hC, hb⟩
        case measure => simp [intW]; omega
    · have hjn : j = cn := by omega
      have hfin : fb (num s ^ k) = t := by
        have := HT.out.1
        rwa [hjn, Nat.sub_self, Nat.pow_zero, Nat.div_one] at this
      have HF := Lib.hid hfin; clear hfin hsk hts HT
      obtain ⟨hA0, hA1⟩ := hA
      have hmo : (k : Int).tmod 2 = ((k % 2 : Nat) : Int) := rfl
      by_cases hodd : k % 2 = 1
      · rw [hodd] at hmo
        have hz2 : wf (sI n (num s ^ k)) = wi z o := by
          rw [← HZ.out, decide_eq_true hodd, Bool.and_true]
        have HZ2 := Lib.hid hz2; clear hz2 hodd
        cases n
        · go_wp2_with fail
          refine (signed_any _ false t (num s ^ k) z o HF.out HZ2.out).mono ?_
          rintro e V1 ⟨rfl, hq⟩
          replace hb := below_next hb hq
          replace hC := hC.below hq
          obtain ⟨hC0, hC1, hC2, hC3⟩ := hC.facts
          clear hq hA0 hA1
          go_wp2
          exact ret_whole rfl rfl (hC.set_ _ _) ⟨rfl, below_set2 hb (by omega) _ _ _ _⟩
        · go_wp2_with fail
          refine (signed_any _ true t (num s ^ k) z o HF.out HZ2.out).mono ?_
          rintro e V1 ⟨rfl, hq⟩
          replace hb := below_next hb hq
          replace hC := hC.below hq
          obtain ⟨hC0, hC1, hC2, hC3⟩ := hC.facts
          clear hq hA0 hA1
          go_wp2
          exact ret_whole rfl rfl (hC.set_ _ _) ⟨rfl, below_set2 hb (by omega) _ _ _ _⟩
      · rw [show k % 2 = 0 by omega] at hmo
        have hz2 : wf (sI false (num s ^ k)) = wi z o := by
          rw [← HZ.out, decide_eq_false hodd, Bool.and_false]
        have HZ2 := Lib.hid hz2; clear hz2 hodd
        cases n
        · go_wp2_with fail
          refine (signed_any _ false t (num s ^ k) z o HF.out HZ2.out).mono ?_
          rintro e V1 ⟨rfl, hq⟩
          replace hb := below_next hb hq
          replace hC := hC.below hq
          obtain ⟨hC0, hC1, hC2, hC3⟩ := hC.facts
          clear hq hA0 hA1
          go_wp2
          exact ret_whole rfl rfl (hC.set_ _ _) ⟨rfl, below_set2 hb (by omega) _ _ _ _⟩
        · go_wp2_with fail
          refine (signed_any _ false t (num s ^ k) z o HF.out HZ2.out).mono ?_
          rintro e V1 ⟨rfl, hq⟩
          replace hb := below_next hb hq
          replace hC := hC.below hq
          obtain ⟨hC0, hC1, hC2, hC3⟩ := hC.facts
          clear hq hA0 hA1
          go_wp2
          exact ret_whole rfl rfl (hC.set_ _ _) ⟨rfl, below_set2 hb (by omega) _ _ _ _⟩
end Go.Proofs.YtfgolecbchhokaaGreatDoor
