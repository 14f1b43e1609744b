/- Products as strings: Of, walked. -/
import Derived.Test.YtdpihoblkldghaaM2
import Derived.Test.YtdpihoblkldghaaMShelf2
namespace Go.Proofs.Ytdpihoblkldghaa
open Go.RowKit Go.Lib

theorem byteCells_snoc (l : List UInt8) (b : UInt8) : Lib.byteCells (l ++ [b]) = Lib.byteCells l ++ [.int .u8 (b.toNat : Int)] := by simp [Lib.byteCells]
theorem ofNat_small {z : Int} (h : 0 ≤ z ∧ z ≤ 127) : ((UInt8.ofNat z.toNat).toNat : Int) = z := by
  rw [UInt8.toNat_ofNat', Nat.mod_eq_of_lt (by omega)]; omega
/-- Between the rounds of Of. -/
def OFI (w wr : World) (ns : List Int) (k : Nat) : Prop :=
  k ≤ ns.length ∧ (∀ j (hj : j < ns.length), j < k → 0 ≤ ns[j] ∧ ns[j] ≤ 127) ∧ Lib.BuilderAt 47 5 w.heap.size w.heap.size (.pointer (some ⟨w.heap.size, 0, none⟩)) (Lib.byteCells (bytesE (ns.take k))) wr ∧ Below w.heap.size w wr

set_option maxRecDepth 100000 in
set_option maxHeartbeats 1600000 in
theorem of_any (w : World) (ad : Option Addr) (ns : List Int) (n c : Nat) (hl : ns.length = n) (hn : n ≤ 100000000) (hr : RI w ad ns) (o : ByteArray) (e : Int) (ho : ofS ns = o) (he : ofE ns = e) :
    Calls Try.prog 9 #[.slice ad n c] w (Ret (.tuple #[.string o, .int .i64 e]) w) := by
  have hb := Below.refl w.heap.size w
  have HO := Lib.hid (And.intro ho (And.intro he hl)); clear ho he
  go_enter Try.func9, Try.ntmps9
  go_wp2_with fail
  have hbk := Rw.new w 47 [.pointer none, .slice none 0 0]
  refine (Try.Builder_Grow_fresh w.heap.size w.heap.size n _ (Nat.le_refl _) hbk (by simp) (by omega)).mono ?_
  rintro e' W ⟨rfl, hB, hq⟩
  have hb1 : Below w.heap.size w W := (hb.alloc (Nat.le_refl _) _).trans hq
  have hI : OFI w W ns 0 := ⟨Nat.zero_le _, fun j _ h => by omega, hB, hb1⟩
  have hr0 := hr
  clear hbk hq hB hb1 hr hb
  go_wp2
  go_loopw [12] (fun iv wr => ∃ k : Nat, iv = .int .i64 k ∧ OFI w wr ns k) (fun iv _ => n - (RowKit.intOf iv).toNat)
  case atStart => exact ⟨0, rfl, hI⟩
  case round =>
    clear hI
    obtain ⟨k, rfl, hk, hj, hB, hb⟩ := hrel
    have hrw := hr0.next hb
    by_cases hkn : k < n
    · obtain ⟨b, off, rfl, hlt, hc⟩ := hrw k (by omega)
      obtain ⟨z, hz⟩ : ∃ z, ns[k]'(by omega) = z := ⟨_, rfl⟩
      rw [hz] at hc
      obtain ⟨y, hy⟩ : ∃ y, decide (0 ≤ z ∧ z ≤ 127) = y := ⟨_, rfl⟩
      go_wp2_with fail
      refine (isExp_any _ z y hy).mono ?_
      rintro e' W2 ⟨rfl, rfl⟩
      cases y with
      | false =>
        have hbad := okE_bad (l := ns) (k := k) (by omega) (by rw [hz]; exact of_decide_eq_false hy)
        have e1 : o = ⟨#[]⟩ := by rw [← HO.out.1]; unfold ofS; rw [hbad]; rfl
        have e2 : e = 3 := by rw [← HO.out.2.1]; unfold ofE; rw [hbad]; rfl
        subst e1 e2
        clear hy hbad hj
        go_wp2
        go_ret2
        exact ⟨rfl, hb⟩
      | true =>
        have hzz := of_decide_eq_true hy
        have hw8 : IntKind.u8.wrap z = z := by rw [IntKind.wrap_u8]; omega
        have hbs : (Lib.byteCells (bytesE (ns.take k))).length ≤ 100000000 := by simp [Lib.byteCells, bytesE]; omega
        have hsn : Lib.byteCells (bytesE (ns.take (k + 1))) = Lib.byteCells (bytesE (ns.take k)) ++ [.int .u8 z] := by
          rw [bytesE_take (by omega), byteCells_snoc, hz, ofNat_small hzz]
        have hj2 : ∀ j (hj : j < ns.length), j < k + 1 → 0 ≤ ns[j] ∧ ns[j] ≤ 127 := fun j h1 h2 => by
          rcases Nat.lt_or_eq_of_le (Nat.le_of_lt_succ h2) with h | h
          · exact hj j h1 h
          · subst h; rw [hz]; exact hzz
        have HJ := Lib.hid (And.intro hj2 hsn)
        clear hy hj hj2 hsn
        go_wp2_with fail
        refine (Try.Builder_WriteByte w.heap.size w.heap.size _ z _ (.inr hB) (by omega) hb.size).mono ?_
        rintro e' W3 ⟨rfl, hB3, hq⟩
        rw [← HJ.out.2] at hB3
        have hI : OFI w W3 ns (k + 1) := ⟨by omega, HJ.out.1, hB3, hb.trans hq⟩
        clear hB3 hq hB hb HJ
        go_wp2
        go_roundw
        case rel => exact ⟨k + 1, rfl, hI⟩
        case measure => simp [RowKit.intOf]; omega
    · obtain rfl : k = ns.length := by omega
      have hall := okE_good (fun j hj' => hj j hj' hj')
      rw [List.take_of_length_le (Nat.le_refl _)] at hB
      have e1 : (⟨(bytesE ns).toArray⟩ : ByteArray) = o := by rw [← HO.out.1]; unfold ofS; rw [hall]; rfl
      have e2 : e = 0 := by rw [← HO.out.2.1]; unfold ofE; rw [hall]; rfl
      subst e2
      have HE := Lib.hid e1
      clear hj hall e1
      go_wp2_with fail
      refine (Try.Builder_String_any_k w.heap.size w.heap.size _ _ (Lib.IsBuilderF.of (.inr hB)) hb.size).mono ?_
      rintro e' W3 ⟨rfl, _, hq, _⟩
      rw [HE.out]
      have hb2 := hb.trans hq
      clear hq hB hb
      go_wp2
      go_ret2
      exact ⟨rfl, hb2⟩
end Go.Proofs.Ytdpihoblkldghaa
