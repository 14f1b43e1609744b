/- Layer 1, laid together: DJoin, DParse. -/
import Derived.Test.YtiddgplapodleaaGreatDoorDPaired
/- Package digits: all parts joined,walked. -/
namespace Go.Proofs.YtiddgplapodleaaGreatDoor
set_option maxRecDepth 100000
set_option maxHeartbeats 1600000
open Go.RowKit Go.Shelf
theorem sc_size {k:Nat} (h:2 ^ k≤1000):(fb (sc k)).size≤7500:=by
 obtain ⟨q,hq⟩:∃ q:Nat,q=7500:=⟨_,rfl⟩;obtain ⟨r,hr⟩:∃ r:Nat,r=6000:=⟨_,rfl⟩;rw [← hq];refine fb_size_le (k:=q) ?_;rw [p256,show 8*q=10*r by omega];unfold sc;refine Nat.lt_of_le_of_lt (Nat.pow_le_pow_right (by omega) (show 18*2 ^ k≤3*r by omega)) ?_;rw [Nat.pow_mul,Nat.pow_mul];exact Nat.pow_lt_pow_left (by decide) (by omega)
theorem IAt.far2 {W:World} {g o:Nat} {L:List IV} (h:IAt W (some ⟨g,o,none⟩) L) {b:Nat} (hb:g≠b) (u v:Value):IAt ((W.setCell ⟨b,0,none⟩ u).setCell ⟨b,1,none⟩ v) (some ⟨g,o,none⟩) L:=by
 intro i hi;obtain ⟨lb,lo,e,hl,h1,h2⟩:=h i hi;simp only [Option.some.injEq,Addr.mk.injEq,and_true] at e;obtain ⟨rfl,rfl⟩:=e;refine ⟨g,o,rfl,by simpa using hl,?_,?_⟩
 all_goals
  rw [World.cell?_setCell_far _ _ _ _ (by show b≠_;simp;omega),World.cell?_setCell_far _ _ _ _ (by show b≠_;simp;omega)]
  assumption
theorem val_sizes {s V:Nat} {l:List Nat} (hs:0<s) (hv:valS s l=V) (hV:V<10 ^ 1000):∀ x∈l,(fb x).size≤1000:=by
 intro x hx;obtain ⟨q,hq⟩:∃ q:Nat,q=1000:=⟨_,rfl⟩;rw [← hq] at hV ⊢;refine fb_size_le (k:=q) ?_;refine Nat.lt_of_le_of_lt (valS_le hs l x hx) ?_;rw [hv];exact Nat.lt_of_lt_of_le hV (Nat.pow_le_pow_left (by decide) _)
def JI (w wr:World) (B V:Nat) (lv:Value) (k:Nat) (ll:List Nat):Prop:=
 (∃ g cap,lv=.slice (some ⟨g,0,none⟩) ll.length cap∧ll.length≤cap∧IAt wr (some ⟨g,0,none⟩) (ll.map np))∧Bk wr w.heap.size #[.bool false,.string ⟨#[]⟩]∧Bk wr B #[.bool false,.string (fb (sc k))]∧Below w.heap.size w wr∧valS (sc k) ll=V∧1≤ll.length∧ll.length≤1000∧(k=0∨2≤ll.length)∧(ll.length-1)*2 ^ k≤1000
theorem JI.k {w wr:World} {B V:Nat} {lv:Value} {k:Nat} {ll:List Nat} (h:JI w wr B V lv k ll):2 ^ k≤1000:=by
 obtain ⟨_,_,_,_,_,h1,h2,h3,h4⟩:=h
 rcases h3 with rfl|h3
 ·decide
 ·refine Nat.le_trans ?_ h4;exact Nat.le_mul_of_pos_left _ (by omega)
theorem joined_any (w:World) (l:List Nat) (g cap len V:Nat) (hl:l.length=len) (h1:1≤len) (hc:len≤cap) (hmax:len≤1000) (hv:valS (10 ^ 18) l=V) (hV:V<10 ^ 1000) (hI:IAt w (some ⟨g,0,none⟩) (l.map np)) (o:ByteArray) (ho:fb V=o) :
  Calls Tryz.prog 56 #[.slice (some ⟨g,0,none⟩) len cap] w (Ret (.agg #[.bool false,.string o]) w):=by
 subst hl;have HV:=Lib.hid hV;clear hV;go_enter Tryz.func56,Tryz.ntmps56;obtain ⟨hr,hb⟩:=blocks1 w #[.bool false,.string ⟨#[]⟩];go_wp2_with fail;generalize (w.alloc (.cells #[.bool false,.string ⟨#[]⟩] 26))=W0 at *;refine (wof_any _ 1000000000000000000 (by omega) (by omega) false (fb (sc 0)) (by rw [sc_zero];kernel_rfl)).mono ?_;rintro e W ⟨rfl,hq⟩;have hr2:=(hr.below hq).alloc (.cells #[.bool false,.string (fb (sc 0))] 26);have hb2:=below_next hb hq;have hwB:w.heap.size<W.heap.size:=by
  have:=(hr.below hq).lt
  exact this
 have hB:=Bk.new W #[.bool false,.string (fb (sc 0))];have hI2:IAt (W.alloc (.cells #[.bool false,.string (fb (sc 0))] 26)) (some ⟨g,0,none⟩) (l.map np):=(hI.below hb2).alloc _;have hJ0:JI w (W.alloc (.cells #[.bool false,.string (fb (sc 0))] 26)) W.heap.size V (.slice (some ⟨g,0,none⟩) l.length cap) 0 l:=
  ⟨⟨g,cap,rfl,hc,hI2⟩,hr2,hB,hb2.alloc (by omega) _,hv,h1,hmax,.inl rfl,by omega⟩
 clear hr2 hb2 hI2 hB hq hr hb hI;go_wp2_with fail;generalize (W.alloc (.cells #[.bool false,.string (fb (sc 0))] 26))=W2 at *;generalize fb (sc 0)=o0;generalize W.heap.size=B at *
 go_loopw [0] (fun lv wr=>∃ k ll,JI w wr B V lv k ll) (fun lv _=>lenS lv)
 case atStart=>exact ⟨0,l,hJ0⟩
 case round =>
  clear hJ0 hv;obtain ⟨k,ll,hJ⟩:=hrel;have hk2:=hJ.k;obtain ⟨⟨g',cap',rfl,hcap,hI⟩,hr,hB,hb,hv,hl1,hlm,hk0,hlk⟩:=hJ;have hsz:=sc_size hk2;have hes:=val_sizes (sc_pos k) hv HV.out;obtain ⟨q,hq0⟩:∃ q,fb (sc k)=q:=⟨_,rfl⟩;rw [hq0] at hB hsz;obtain ⟨m,hm⟩:∃ m,ll.length=m:=⟨_,rfl⟩;obtain ⟨hB0,hB1,hB2,hB3⟩:=hB.facts
  by_cases hlt:2<m
  ·have hlti:(2:Int)<(m:Int):=by omega
   have HP:=Lib.hid (And.intro hk2 (And.intro hv (And.intro hes (And.intro hk0 (And.intro hlk hq0)))));clear hk2 hv hes hk0 hlk hq0;rw [hm] at hcap hl1 hlm ⊢;go_wp2_with fail;refine (paired_any _ ll g' cap' m (sc k) hm hl1 hcap hlm HP.out.2.2.1 q HP.out.2.2.2.2.2 (by omega) hI).mono ?_;rintro e X ⟨g2,cap2,rfl,hcap2,hg2,hI2,hq⟩;have hg2B:B<g2:=Nat.lt_of_lt_of_le hB.lt hg2;replace hb:=below_next hb hq;replace hB:=hB.below hq;replace hr:=hr.below hq;clear hq hB0 hB1 hB2 hB3 hI;obtain ⟨hB0,hB1,hB2,hB3⟩:=hB.facts;obtain ⟨q',hq'⟩:∃ q',fb (sc (k+1))=q':=⟨_,rfl⟩;have hz:wf (wv false q*wv false q)=wi false q':=by
    rw [wv_false,← HP.out.2.2.2.2.2,num_fb,← hq',sc_succ,← Int.natCast_mul];exact wf_nat _
   have HZ:=Lib.hid (And.intro hz hq');clear hz hq';go_wp2_with fail;refine (cmul2 _ false false q q (by omega) (by omega) false q' HZ.out.1).mono ?_;rintro e Y ⟨rfl,hq⟩;have hb2:=below_next (hb.alloc hb.size (.cells #[.bool false,.string q,.bool false,.string q] 26)) hq;replace hB:=(hB.alloc (.cells #[.bool false,.string q,.bool false,.string q] 26)).below hq;replace hr:=(hr.alloc (.cells #[.bool false,.string q,.bool false,.string q] 26)).below hq;replace hI2:=(hI2.alloc (.cells #[.bool false,.string q,.bool false,.string q] 26)).below hq;clear hq hb hB0 hB1 hB2 hB3;obtain ⟨hB0,hB1,hB2,hB3⟩:=hB.facts;replace hB:=hB.set_ (.bool false) (.string q');replace hr:=hr.far2 (by omega:w.heap.size≠B) (.bool false) (.string q');replace hI2:=hI2.far2 (by omega:g2≠B) (.bool false) (.string q');have hb:=below_set2 hb2 (show w.heap.size≤B by omega) 0 1 (.bool false) (.string q');have hnl:(pairN (sc k) ll).length=(m+1) / 2:=by rw [pairN_len,hm]
   have hJ:JI w ((Y.setCell ⟨B,0,none⟩ (.bool false)).setCell ⟨B,1,none⟩ (.string q')) B V (.slice (some ⟨g2,0,none⟩) ((m+1) / 2) cap2) (k+1) (pairN (sc k) ll):=by
    refine ⟨⟨g2,cap2,by rw [hnl],by rw [hnl];exact hcap2,hI2⟩,hr,by rw [HZ.out.2];exact hB,hb,?_,by rw [hnl];omega,by rw [hnl];omega,.inr (by rw [hnl];omega),?_⟩
    ·rw [sc_succ,pairN_val];exact HP.out.2.1
    ·rw [hnl,Nat.pow_succ];refine Nat.le_trans ?_ HP.out.2.2.2.2.1;rw [hm,Nat.mul_comm (2 ^ k) 2,← Nat.mul_assoc];exact Nat.mul_le_mul_right _ (by omega)
   have HJ:=Lib.hid hJ;clear hJ hb hr hI2 hb2;go_wp2;go_roundw
   case rel=>exact ⟨k+1,_,HJ.out⟩
   case measure=>simp [lenS];omega
  ·have hlti:¬ (2:Int)<(m:Int):=by omega
   have HP:=Lib.hid (And.intro hk2 (And.intro hv (And.intro hes (And.intro hk0 (And.intro hlk hq0)))));clear hk2 hv hes hk0 hlk hq0;rw [hm] at hcap hl1 hlm ⊢;go_wp2_with fail;refine (paired_any _ ll g' cap' m (sc k) hm hl1 hcap hlm HP.out.2.2.1 q HP.out.2.2.2.2.2 (by omega) hI).mono ?_;rintro e X ⟨g2,cap2,rfl,hcap2,hg2,hI2,hq⟩;replace hb:=below_next hb hq;replace hr:=hr.below hq;have hnl:(pairN (sc k) ll).length=1:=by rw [pairN_len,hm];omega
   obtain ⟨x,hx⟩:∃ x,pairN (sc k) ll=[x]:=List.length_eq_one_iff.1 hnl;have hxV:x=V:=by
    have:=pairN_val (sc k) ll
    rw [hx,HP.out.2.1] at this;simpa [valS] using this
   have hm1:(m+1) / 2=1:=by omega
   rw [hx,hxV] at hI2;rw [hm1];obtain ⟨lb,lo,e,_,hc1,hc2⟩:=hI2 0 (by simp);simp only [Option.some.injEq,Addr.mk.injEq,and_true] at e;obtain ⟨rfl,rfl⟩:=e;simp only [List.map_cons,List.map_nil,List.getElem_cons_zero,np,ho,Nat.zero_mul,Nat.add_zero] at hc1 hc2;obtain ⟨hr0,hr1,hr2,hr3⟩:=hr.facts;go_wp2;exact ret_whole rfl rfl (hr.set_ _ _) ⟨rfl,below_set2 hb (by omega) _ _ _ _⟩
theorem row_val {row:List IV} {t:List UInt8} {q:Nat} (hrv:rowV row=dV t) (hd:t.all isDig=true) (ht:t.length≤q):valS (10 ^ 18) ((row.reverse).map fun x=>num x.2)=dV t∧dV t<10 ^ q:=by
 refine ⟨by rw [← rowV_valS _ row rfl];exact hrv,Nat.lt_of_lt_of_le (dV_lt t hd) (Nat.pow_le_pow_right (by decide) ht)⟩
theorem parts_rev {row:List IV} (h:partsOk row):partsOk row.reverse:=fun x hx=>h x (List.mem_reverse.1 hx)
theorem joined_parts (W:World) (row:List IV) (g cap V:Nat) (t:List UInt8) (hcap:row.length≤cap) (h0:0<row.length) (hmax:row.length≤1000) (hrv:rowV row=dV t) (hok:partsOk row) (hd:t.all isDig=true) (ht:t.length≤1000) (hI:IAt W (some ⟨g,0,none⟩) row.reverse) (hV:dV t=V) (o:ByteArray) (ho:fb V=o) :
  Calls Tryz.prog 56 #[.slice (some ⟨g,0,none⟩) row.length cap] W (Ret (.agg #[.bool false,.string o]) W):=by
 obtain ⟨h1,h2⟩:=row_val hrv hd ht;refine joined_any W ((row.reverse).map fun x=>num x.2) g cap row.length V (by simp) h0 hcap hmax (by rw [h1,hV]) (by rw [← hV];exact h2) ?_ o ho;rw [← row_np (parts_rev hok)];exact hI
theorem parse_bad (w:World) (s:ByteArray) (hs:s.size≤1000) (p:Nat) (hp:badPlace s.data.toList=p) (hb:isBad s.data.toList=true) :
  Calls Tryz.prog 32 #[.string s] w (Ret (.tuple #[.agg #[.bool false,.string ⟨#[]⟩],.int .i64 p,.int .i64 2]) w):=by
 go_enter Tryz.func32,Tryz.ntmps32;obtain ⟨hr,hbl⟩:=blocks1 w #[.bool false,.string ⟨#[]⟩];go_wp2_with fail;generalize (w.alloc (.cells #[.bool false,.string ⟨#[]⟩] 26))=W0 at *;refine (spoilt_any _ s (by omega) p true hp hb).mono ?_;rintro e W ⟨rfl,hq⟩;replace hbl:=below_next hbl hq;replace hr:=hr.below hq;obtain ⟨hr0,hr1,hr2,hr3⟩:=hr.facts;go_wp2;exact ret_ctt rfl rfl rfl rfl (hr.set_ _ _) ⟨rfl,below_set2 hbl (by omega) _ _ _ _⟩
theorem fst_nat (s:ByteArray) (h0:0<s.size):(fst_ s.data.toList=1∧(s[0]'h0).toNat=45)∨(fst_ s.data.toList=0∧(s[0]'h0).toNat≠45):=by
 have hl:0<s.data.toList.length:=h0;have e:s.data.toList.head?=some (s[0]'h0):=by
  rw [List.head?_eq_getElem?,List.getElem?_eq_getElem hl];rfl
 unfold fst_;rw [e]
 by_cases h:(s[0]'h0).toNat=45
 ·refine .inl ⟨if_pos ?_,h⟩;rw [byte_eq h];rfl
 ·refine .inr ⟨if_neg ?_,h⟩;intro e2
  apply h
  injection e2 with e2
  rw [e2];rfl
theorem parse_good (w:World) (s:ByteArray) (hs:s.size≤1000) (hb:isBad s.data.toList=false) (z:Bool) (o:ByteArray) (hz:wf (tV s.data.toList)=wi z o) :
  Calls Tryz.prog 32 #[.string s] w (Ret (.tuple #[.agg #[.bool z,.string o],.int .i64 0,.int .i64 0]) w):=by
 obtain ⟨g1,g2,g3⟩:=good_text hb;obtain ⟨p,hp⟩:∃ p,badPlace s.data.toList=p:=⟨_,rfl⟩;have h0:0<s.size:=by
  rcases Nat.eq_zero_or_pos s.size with h|h
  ·exfalso
   have hl:s.data.toList=[]:=List.eq_nil_of_length_eq_zero h
   apply g2.1
   unfold bodyOf;rw [hl];simp
  ·exact h
 have hgoodfst:=fst_nat s h0;obtain ⟨y,hy⟩:∃ y:Nat,(s[0]'h0).toNat=y:=⟨_,rfl⟩;rw [hy] at hgoodfst;unfold tV at hz
 rcases hgoodfst with ⟨hf,rfl⟩|⟨hf,hne⟩
 ·rw [hf,if_pos rfl] at hz;have hbd:bodyOf s.data.toList=(s.extract 1 s.size).data.toList:=by unfold bodyOf;rw [hf,drop_text]
  rw [hbd] at hz g1 g2;obtain ⟨V,hV⟩:∃ V,dV (s.extract 1 s.size).data.toList=V:=⟨_,rfl⟩;rw [hV] at hz;have hz2:wf (-wv false (fb V))=wi z o:=by rw [wv_false,num_fb];exact hz
  have hsz1:(s.extract 1 s.size).size=s.size-1:=by
   have:=congrArg List.length (drop_text s 1)
   rw [List.length_drop] at this;exact this
  have hpos1:0<(s.extract 1 s.size).size:=by
   rcases Nat.eq_zero_or_pos (s.extract 1 s.size).size with h|h
   ·exact absurd (List.eq_nil_of_length_eq_zero h) g2.1
   ·exact h
  have hfbV:(fb V).size≤1000:=by
   obtain ⟨q,hq⟩:∃ q:Nat,q=1000:=⟨_,rfl⟩;rw [← hq];refine fb_size_le (k:=q) ?_;rw [← hV];refine Nat.lt_of_lt_of_le (dV_lt _ g1) ?_;refine Nat.le_trans (Nat.pow_le_pow_right (by decide) (show (s.extract 1 s.size).data.toList.length≤q from by show (s.extract 1 s.size).size≤q;omega)) (Nat.pow_le_pow_left (by decide) _)
  have HG:=Lib.hid (And.intro hb (And.intro hz2 (And.intro g1 (And.intro hV (And.intro hp hfbV)))));clear hb hz2 hz g1 g2 g3 hV hbd hp hfbV;go_enter Tryz.func32,Tryz.ntmps32;obtain ⟨hr,hbl⟩:=blocks1 w #[.bool false,.string ⟨#[]⟩];go_wp2_with fail;generalize (w.alloc (.cells #[.bool false,.string ⟨#[]⟩] 26))=W0 at *;refine (spoilt_any _ s (by omega) p false HG.out.2.2.2.2.1 HG.out.1).mono ?_;rintro e W ⟨rfl,hq⟩;replace hbl:=below_next hbl hq;replace hr:=hr.below hq;clear hq;go_wp2_with fail;refine (parts_any _ (s.extract 1 s.size) (by omega) hpos1 HG.out.2.2.1).mono ?_;rintro e X ⟨row,g,cap,rfl,hcap,hr0,hr1,hrv,hok,hI,hq⟩;replace hbl:=below_next hbl hq;replace hr:=hr.below hq;clear hq;have HR:=Lib.hid (And.intro hrv (And.intro hok hI));clear hrv hok hI;go_wp2_with fail;refine (joined_parts X row g cap V _ hcap hr0 hr1 HR.out.1 HR.out.2.1 HG.out.2.2.1 (by show (s.extract 1 s.size).size≤1000;omega) HR.out.2.2 HG.out.2.2.2.1 (fb V) rfl).mono ?_;rintro e Y ⟨rfl,hq⟩;replace hbl:=below_next hbl hq;replace hr:=hr.below hq;clear hq;go_wp2_with fail;refine (wneg_any Y false (fb V) (by have:=HG.out.2.2.2.2.2;omega) z o HG.out.2.1).mono ?_;rintro e Z ⟨rfl,hq⟩;replace hbl:=below_next hbl hq;replace hr:=hr.below hq;clear hq;obtain ⟨hr0,hr1,hr2,hr3⟩:=hr.facts;go_wp2;exact ret_ctt rfl rfl rfl rfl (hr.set_ _ _) ⟨rfl,below_set2 hbl (by omega) _ _ _ _⟩
 ·rw [hf,if_neg (by decide)] at hz;have hbd:bodyOf s.data.toList=s.data.toList:=by unfold bodyOf;rw [hf];rfl
  rw [hbd] at hz g1;obtain ⟨V,hV⟩:∃ V,dV s.data.toList=V:=⟨_,rfl⟩;rw [hV] at hz;obtain ⟨rfl,ho⟩:=wi_inj ((wf_nat V).symm.trans hz);have hne2:((y:Int) == 45)=false:=by rw [beq_eq_false_iff_ne];omega
  have HG:=Lib.hid (And.intro hb (And.intro ho (And.intro g1 (And.intro hV hp))));clear hb ho hz g1 g2 g3 hV hbd hp;go_enter Tryz.func32,Tryz.ntmps32;obtain ⟨hr,hbl⟩:=blocks1 w #[.bool false,.string ⟨#[]⟩];go_wp2_with fail;generalize (w.alloc (.cells #[.bool false,.string ⟨#[]⟩] 26))=W0 at *;refine (spoilt_any _ s (by omega) p false HG.out.2.2.2.2 HG.out.1).mono ?_;rintro e W ⟨rfl,hq⟩;replace hbl:=below_next hbl hq;replace hr:=hr.below hq;clear hq;go_wp2_with fail;refine (parts_any _ s (by omega) h0 HG.out.2.2.1).mono ?_;rintro e X ⟨row,g,cap,rfl,hcap,hr0,hr1,hrv,hok,hI,hq⟩;replace hbl:=below_next hbl hq;replace hr:=hr.below hq;clear hq;have HR:=Lib.hid (And.intro hrv (And.intro hok hI));clear hrv hok hI;go_wp2_with fail;refine (joined_parts X row g cap V _ hcap hr0 hr1 HR.out.1 HR.out.2.1 HG.out.2.2.1 hs HR.out.2.2 HG.out.2.2.2.1 o HG.out.2.1).mono ?_;rintro e Y ⟨rfl,hq⟩;replace hbl:=below_next hbl hq;replace hr:=hr.below hq;clear hq;obtain ⟨hr0,hr1,hr2,hr3⟩:=hr.facts;go_wp2;exact ret_ctt rfl rfl rfl rfl (hr.set_ _ _) ⟨rfl,below_set2 hbl (by omega) _ _ _ _⟩
end Go.Proofs.YtiddgplapodleaaGreatDoor
