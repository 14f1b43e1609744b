/- Package digits: the scales 10^18, its square, and so on, walked. -/
import Derived.Test.YtiddgplapodleaaGreatDoorDMem
import Derived.WalkSmall
namespace Go.Proofs.YtiddgplapodleaaGreatDoor
set_option maxRecDepth 100000
set_option maxHeartbeats 1600000
open Go.RowKit Go.Shelf
def sc (k:Nat):Nat:=10 ^ (18*2 ^ k)
theorem sc_succ (k:Nat):sc (k+1)=sc k*sc k:=by
 unfold sc;rw [← Nat.pow_add,Nat.pow_succ]
 congr 1
 omega
theorem sc_zero:sc 0=1000000000000000000:=by kernel_rfl
theorem sc_ge (k:Nat):2 ^ (k+1)≤sc k:=by
 induction k with
 | zero=>rw [sc_zero];decide
 | succ k ih =>
  rw [sc_succ,Nat.pow_succ];refine Nat.mul_le_mul ih ?_;refine Nat.le_trans ?_ ih;rw [Nat.pow_succ]
  have:=Nat.two_pow_pos k
  omega
theorem sc_pos (k:Nat):0<sc k:=Nat.lt_of_lt_of_le (Nat.two_pow_pos _) (sc_ge k)
theorem sc_bl (k:Nat):k<bl (sc k):=by
 have h1:=sc_ge k;have h2:=(bl_bounds (sc_pos k)).2.2;have h3:2 ^ (k+1)<2 ^ bl (sc k):=Nat.lt_of_le_of_lt h1 h2;have h4:=(Nat.pow_lt_pow_iff_right (a:=2) (by omega)).1 h3;omega
def scl (n:Nat):List IV:=(List.range n).map fun i=>(false,fb (sc i))
theorem scl_len (n:Nat):(scl n).length=n:=by simp [scl]
theorem scl_succ (n:Nat):scl (n+1)=scl n++[(false,fb (sc n))]:=by simp [scl,List.range_succ]
theorem scl_get (n i:Nat) (h:i<(scl n).length):(scl n)[i]=(false,fb (sc i)):=by simp [scl]
theorem icells_app:∀ (l m:List IV),icells (l++m)=icells l++icells m
 | [],_=>rfl
 | x::l,m=>by rw [List.cons_append,icells,icells,icells_app l m];rfl
theorem p256 (n:Nat):256 ^ n=2 ^ (8*n):=by rw [Nat.pow_mul]
theorem ownsRow_below {w w' : World} {B:Nat} {e:TypeId} {size n:Nat} {v:Value} {xs:List Value} (h:w.ownsRow B e size v n xs) (hq:Below w.heap.size w w'):w'.ownsRow B e size v n xs:=by
 refine ⟨h.1,?_⟩
 rcases h.2 with h2|⟨g,cap,cur,a,b,c,d⟩
 ·exact .inl h2
 ·refine .inr ⟨g,cap,cur,a,b,?_,d⟩;have hlt:g<w.heap.size:=(Array.getElem?_eq_some_iff.1 c).1;rw [hq.block g hlt];exact c
theorem ownsRow_far2 {w:World} {B b:Nat} {e:TypeId} {size n:Nat} {v:Value} {xs:List Value} (h:w.ownsRow B e size v n xs) (hb:b<B) (i j:Nat) (x y:Value):((w.setCell ⟨b,i,none⟩ x).setCell ⟨b,j,none⟩ y).ownsRow B e size v n xs:=by
 refine ⟨h.1,?_⟩
 rcases h.2 with h2|⟨g,cap,cur,a,b',c,d⟩
 ·exact .inl h2
 ·refine .inr ⟨g,cap,cur,a,b',?_,d⟩;rw [Below.heap_setCell _ _ _ _ (show g≠b by omega),Below.heap_setCell _ _ _ _ (show g≠b by omega)];exact c
theorem sc_mono {i k:Nat} (h:i≤k):sc i≤sc k:=by
 unfold sc;exact Nat.pow_le_pow_right (by omega) (Nat.mul_le_mul_left _ (Nat.pow_le_pow_right (by omega) h))
theorem sc_sizes {i k B:Nat} (h:i≤k) (hk:(fb (sc k)).size≤B):(fb (sc i)).size≤B:=by
 refine Nat.le_trans (fb_size_le (k:=(fb (sc k)).size) ?_) hk;have h1:=num_lt (fb (sc k));rw [num_fb] at h1;exact Nat.lt_of_le_of_lt (sc_mono h) h1
theorem sc_width {k B:Nat} (hk:(fb (sc k)).size≤B):18*2 ^ k≤8*B:=by
 have h1:=num_lt (fb (sc k));rw [num_fb,p256] at h1;have h2:2 ^ (18*2 ^ k)≤sc k:=Nat.pow_le_pow_left (by omega) _;have h3:=(Nat.pow_lt_pow_iff_right (a:=2) (by omega)).1 (Nat.lt_of_le_of_lt h2 h1);omega
def lenS:Value→Nat | .slice _ n _=>n|_=>0
def SCI (w wr:World) (B:Nat) (v:Value) (k:Nat):Prop:=
 (∃ g cap,v=.slice (some ⟨g,0,none⟩) (k+1) cap)∧wr.ownsRow (B+1) 26 2 v (k+1) (icells (scl (k+1)))∧Bk wr B #[.bool false,.string (fb (sc k))]∧Below w.heap.size w wr∧(fb (sc k)).size≤20000∧k≤80000
theorem scales_any (w:World) (bits:Nat) (hbits:bits≤80000) :
  Calls Tryz.prog 37 #[.int .i64 bits] w fun e w'=>∃ k od oc,e=.returned (.slice od (k+1) oc)∧k+1≤oc∧k≤80000∧IAt w' od (scl (k+1))∧Below w.heap.size w w'∧2 ^ bits≤sc (k+1)∧(fb (sc k)).size≤20000:=by
 obtain ⟨i0,hi0,hz0,hz1,hz2⟩:=info_parts infoI4;go_enter Tryz.func37,Tryz.ntmps37;go_wp2_with fail;refine (wof_any _ 1000000000000000000 (by omega) (by omega) false (fb (sc 0)) (by rw [sc_zero];kernel_rfl)).mono ?_;rintro e W ⟨rfl,hb⟩;have hs0:(fb (sc 0)).size≤20000:=by rw [sc_zero];decide +kernel
 have hl0:icells (scl 1)=[.bool false,.string (fb (sc 0))]:=rfl;have hrow:((W.alloc (.cells #[.bool false,.string (fb (sc 0))] 26)).alloc (.cells #[.bool false,.string (fb (sc 0))] 26)).ownsRow (W.heap.size+1) 26 2 (.slice (some ⟨W.heap.size+1,0,none⟩) (0+1) 1) (0+1) (icells (scl (0+1))):=by
  rw [hl0];refine ⟨rfl,.inr ⟨W.heap.size+1,1,#[.bool false,.string (fb (sc 0))],rfl,Nat.le_refl _,?_,Nat.le_refl _,by decide,rfl,rfl⟩⟩
  have:=heap_alloc_new (W.alloc (.cells #[.bool false,.string (fb (sc 0))] 26)) (.cells #[.bool false,.string (fb (sc 0))] 26)
  rwa [World.size_alloc] at this
 obtain ⟨hB,_,hb2⟩:=blocks2 W #[.bool false,.string (fb (sc 0))] #[.bool false,.string (fb (sc 0))];have hS0:SCI w ((W.alloc (.cells #[.bool false,.string (fb (sc 0))] 26)).alloc (.cells #[.bool false,.string (fb (sc 0))] 26)) W.heap.size (.slice (some ⟨W.heap.size+1,0,none⟩) 1 1) 0:=
  ⟨⟨_,_,rfl⟩,hrow,hB,below_next hb hb2,hs0,Nat.zero_le _⟩
 have hwB:w.heap.size≤W.heap.size:=hb.size;clear hB hb2 hrow hl0 hs0 hb;go_wp2_with fail;generalize ((W.alloc (.cells #[.bool false,.string (fb (sc 0))] 26)).alloc (.cells #[.bool false,.string (fb (sc 0))] 26))=W2 at *;generalize fb (sc 0)=o0;generalize (Value.slice (some ⟨W.heap.size+1,0,none⟩) 1 1)=v0 at *;generalize W.heap.size=B at *
 go_loopw [4] (fun lv wr=>∃ k:Nat,SCI w wr B lv k) (fun lv _=>100000-lenS lv)
 case atStart=>exact ⟨0,hS0⟩
 case round =>
  clear hS0;obtain ⟨k,⟨g,cap,rfl⟩,hrow,hB,hb,hs,hk⟩:=hrel;obtain ⟨hB0,hB1,hB2,hB3⟩:=hB.facts;obtain ⟨y,hy⟩:∃ y:Nat,bl (sc k)=y:=⟨_,rfl⟩;have hyk:k<y:=by rw [← hy];exact sc_bl k
  have hy2:y≤160000:=by
   rw [← hy]
   have:=bl_size (k:=20000) hs
   rw [num_fb] at this;omega
  have hy3:((bl (num (fb (sc k))):Nat):Int)=(y:Int):=by rw [num_fb,hy]
  obtain ⟨o,ho⟩:∃ o,fb (sc k)=o:=⟨_,rfl⟩;rw [ho] at hB hB1 hy3 hs;have HY:=Lib.hid (And.intro hy (And.intro ho hy3));clear hy ho hy3;go_wp2_with fail;refine (use_len _ o _ (by omega) HY.out.2.2).mono ?_;rintro e V ⟨rfl,hq⟩;replace hb:=below_next hb hq;replace hB:=hB.below hq;replace hrow:=ownsRow_below hrow hq;clear hq hB0 hB1 hB2 hB3;obtain ⟨hB0,hB1,hB2,hB3⟩:=hB.facts
  by_cases hle:2*(y:Int)-1≤(bits:Int)
  ·have hyes:decide (2*(y:Int)-1≤(bits:Int))=true:=decide_eq_true hle;obtain ⟨o',ho'⟩:∃ o',fb (sc (k+1))=o':=⟨_,rfl⟩;have hz:wf (wv false o*wv false o)=wi false o':=by
    rw [wv_false,← HY.out.2.1,num_fb,← ho',sc_succ,← Int.natCast_mul];exact wf_nat _
   have hos:o'.size≤20000:=by
    rw [← ho',sc_succ];obtain ⟨q,hq⟩:∃ q:Nat,q=10002:=⟨_,rfl⟩;refine Nat.le_trans (fb_size_le (k:=q) ?_) (by omega);have h1:=(bl_bounds (sc_pos k)).2.2;rw [HY.out.1] at h1;have h2:sc k*sc k<2 ^ y*2 ^ y:=Nat.mul_lt_mul_of_lt_of_le h1 (Nat.le_of_lt h1) (Nat.two_pow_pos _);rw [← Nat.pow_add] at h2;refine Nat.lt_of_lt_of_le h2 ?_;rw [p256];exact Nat.pow_le_pow_right (by omega) (by omega)
   have HZ:=Lib.hid (And.intro hz ho');clear hz ho';go_wp2_with fail;refine (cmul2 _ false false o o (by omega) (by omega) false o' HZ.out.1).mono ?_;rintro e X ⟨rfl,hq⟩;have hb2:=below_next (hb.alloc hb.size (.cells #[.bool false,.string o,.bool false,.string o] 26)) hq;replace hB:=(hB.alloc (.cells #[.bool false,.string o,.bool false,.string o] 26)).below hq;replace hrow:=ownsRow_below (hrow.alloc (.cells #[.bool false,.string o,.bool false,.string o] 26)) hq;clear hq hb hB0 hB1 hB2 hB3;obtain ⟨hB0,hB1,hB2,hB3⟩:=hB.facts;have hBX:=hB.lt;replace hB:=hB.set_ (.bool false) (.string o');replace hrow:=ownsRow_far2 hrow (Nat.lt_succ_self B) 0 1 (.bool false) (.string o');have hb:=below_set2 hb2 (show w.heap.size≤B by omega) 0 1 (.bool false) (.string o');have hBY:B<((X.setCell ⟨B,0,none⟩ (.bool false)).setCell ⟨B,1,none⟩ (.string o')).heap.size:=hB.lt;clear hb2;obtain ⟨Y,hYe⟩:∃ Y,(X.setCell ⟨B,0,none⟩ (.bool false)).setCell ⟨B,1,none⟩ (.string o')=Y:=⟨_,rfl⟩;rw [hYe] at hB hrow hb hBY;have hrow2:=hrow.alloc (.cells #[.bool false,.string o'] 26);have hnew:∀ j u,[.bool false,.string o'][j]?=some u→(Y.alloc (.cells #[.bool false,.string o'] 26)).cell? ((⟨Y.heap.size,0,none⟩:Addr).add j)=some u:=cell_two_new Y _ _ _;have hY0:=hB.facts;obtain ⟨hY0a,hY0b,_,_⟩:=hY0;have HR:=Lib.hid (And.intro hrow2 hnew);clear hrow hrow2 hnew
   go_wp2_with (first|(at_builtin;refine wpList_append_own _ rfl (.tmp 19) (.tmp 21) 67 rfl (B+1) 26 i0 (.agg #[.bool false,.string ⟨#[]⟩]) 2 24 Tryz.underlying67 hi0 hz0 hz1 hz2 rfl (by decide) _ (k+1) (icells (scl (k+1))) rfl HR.out.1 ⟨Y.heap.size,0,none⟩ 1 1 [.bool false,.string o'] rfl rfl HR.out.2 (by intro u hu;simp at hu;rcases hu with rfl|rfl <;> rfl) (by unfold maxLen;omega) (by omega) (by rw [World.size_alloc];omega) ?_));intro v' w1 hown' hgrow _;have hgB:B+1≤g:=(HR.out.1.lt g rfl).1;have hBn:Bk w1 B #[.bool false,.string (fb (sc (k+1)))]:=by
    rw [HZ.out.2];exact (hgrow.block B (by rw [World.size_alloc];omega) (fun e=>by (have e2:B=g:=by simpa [Value.ownBlock] using e);omega)).trans (hB.alloc _)
   have hbn:Below w.heap.size w w1:=(hb.alloc hb.size _).grown hgrow (by rw [World.size_alloc];have:=hb.size;omega) (fun j hj=>by
    have e2:g=j:=by simpa [Value.ownBlock] using hj
    omega)
   have hic:icells (scl (k+1+1))=icells (scl (k+1))++[.bool false,.string o']:=by
    rw [scl_succ,icells_app,HZ.out.2];rfl
   rw [← hic] at hown';have hsn:(fb (sc (k+1))).size≤20000:=by rw [HZ.out.2];exact hos
   rcases hown'.2 with ⟨_,h0⟩|⟨g',cap',cur',rfl,_⟩
   ·omega
   ·have HS:SCI w w1 B (.slice (some ⟨g',0,none⟩) (k+1+1) cap') (k+1):=⟨⟨_,_,rfl⟩,hown',hBn,hbn,hsn,by omega⟩;have HQ:=Lib.hid HS;clear HS hown' hgrow hBn hbn hic hsn hYe hB hb hY0a hY0b hB0 hB1 hB2 hB3;go_wp2;go_roundw
    case rel=>exact ⟨k+1,HQ.out⟩
    case measure=>simp [lenS];omega
  ·have hnot:decide (2*(y:Int)-1≤(bits:Int))=false:=decide_eq_false hle;have hfin:2 ^ bits≤sc (k+1):=by
    have h1:=(bl_bounds (sc_pos k)).2.1;rw [HY.out.1] at h1;rw [sc_succ];refine Nat.le_trans ?_ (Nat.mul_le_mul h1 h1);rw [← Nat.pow_add];exact Nat.pow_le_pow_right (by omega) (by omega)
   obtain ⟨od,oc,e,hoc,hI⟩:=own_row (scl_len (k+1)) hrow;simp only [Value.slice.injEq] at e;obtain ⟨rfl,_,rfl⟩:=e;have HF:=Lib.hid (And.intro hfin (And.intro hoc hI));clear hfin hoc hI hrow hB;go_wp2;go_ret;exact ⟨k,some ⟨g,0,none⟩,cap,rfl,HF.out.2.1,hk,HF.out.2.2,hb,HF.out.1,by rw [HY.out.2.1];exact hs⟩
end Go.Proofs.YtiddgplapodleaaGreatDoor
