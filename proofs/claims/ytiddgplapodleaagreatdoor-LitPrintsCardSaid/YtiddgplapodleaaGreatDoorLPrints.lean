/- The law of texts (layer 6): it answers true for all. -/
import Derived.Test.YtiddgplapodleaaGreatDoorHZ
import Derived.Test.YtiddgplapodleaaGreatDoorHV
import Derived.Laws.AppendOwnNone
import Derived.Deep.DeepFit
import Derived.Deep.RegionHeld3
namespace Go.Proofs.YtiddgplapodleaaGreatDoor
set_option maxRecDepth 100000
set_option maxHeartbeats 8000000
open Go.RowKit Go.Shelf Go.Lib
def NearN (x:NV):Prop:=x.2.1.size≤24∧-32000≤x.2.2∧x.2.2≤32000
theorem keep3 {W W' : World} {p q r:Addr} {x y z:Value} (hq:Below W.heap.size W W') (h:W.cell? p=some x∧W.cell? q=some y∧W.cell? r=some z):W'.cell? p=some x∧W'.cell? q=some y∧W'.cell? r=some z:=
 ⟨(hq.cell (World.block_lt_of_cell? W _ h.1)).trans h.1,(hq.cell (World.block_lt_of_cell? W _ h.2.1)).trans h.2.1,(hq.cell (World.block_lt_of_cell? W _ h.2.2)).trans h.2.2⟩
theorem keep6 {W W' : World} {p q r p2 q2 r2:Addr} {x y z x2 y2 z2:Value} (hq:Below W.heap.size W W') (h:(W.cell? p=some x∧W.cell? q=some y∧W.cell? r=some z)∧(W.cell? p2=some x2∧W.cell? q2=some y2∧W.cell? r2=some z2)) :
  (W'.cell? p=some x∧W'.cell? q=some y∧W'.cell? r=some z)∧(W'.cell? p2=some x2∧W'.cell? q2=some y2∧W'.cell? r2=some z2):=⟨keep3 hq h.1,keep3 hq h.2⟩
theorem nat_reads {w:World} {a:Addr} {l:List NV} (h:NAt w (some a) l):∀ j u,(ncells l)[j]?=some u→w.cell? (a.add j)=some u:=by
 intro j u hj;have hjl:j<l.length*3:=by
  rw [← ncells_len];exact (List.getElem?_eq_some_iff.1 hj).1
 obtain ⟨lb,lo,e,-⟩:=h 0 (by omega);obtain rfl:a=⟨lb,lo,none⟩:=by simpa using e
 exact h.reads j u hj
theorem lprints_some (w:World) (htab:Lib.TabIs Tryz.prog w "internal/strconv.uint64pow10" .u64 Lib.pow10Tab) (a:Addr) (l:List NV) (n c:Nat) (hn:l.length=n) (hc:n≤c) (hl:NAt w (some a) l) :
  Calls Tryz.prog 3 #[.slice (some a) n c] w (Ret (.bool true) w):=by
 obtain ⟨i0,hi0,hy0,hy1,hy2⟩:=info_parts infoN3;have hb:=Below.refl w.heap.size w;have HN:=Lib.hid hn;go_enter Tryz.func3,Tryz.ntmps3
 by_cases hg:20<n
 ·have d1:decide ((20:Int)<(n:Int))=true:=decide_eq_true (by omega);clear hn;go_wp2_with fail;refine (lawake_any _ (tab_below htab hb)).mono ?_;rintro e W2 ⟨rfl,hq⟩;replace hb:=below_next hb hq;go_wp2;go_ret;exact ⟨rfl,hb⟩
 have d1:decide ((20:Int)<(n:Int))=false:=decide_eq_false (by omega);go_wp2
 go_loopw [3] (fun iv wr=>∃ k:Nat,iv=.int .i64 k∧k≤n∧(∀ j (hj:j<l.length),j<k→NearN l[j])∧Below w.heap.size w wr) (fun iv _=>n-(RowKit.intOf iv).toNat)
 case atStart=>exact ⟨0,rfl,Nat.zero_le _,fun j _ h=>by omega,hb⟩
 case round =>
  clear hb;obtain ⟨k,rfl,hk,hnear,hb⟩:=hrel
  by_cases hkn:k<n
  ·have hkl:k<l.length:=by omega
   obtain ⟨b1,off1,ea,hl1,hc1,hc2,hc3⟩:=hl k hkl;obtain rfl:=Option.some.inj ea;rw [← hb.cell hl1] at hc1 hc2 hc3;obtain ⟨⟨m1,s1,e1⟩,hx⟩:∃ q:NV,l[k]=q:=⟨_,rfl⟩;rw [hx] at hc1 hc2 hc3;simp only at hc1 hc2 hc3;have i1:(0:Int)≤(k:Int):=by omega
   have i2:(k:Int)<(n:Int):=by omega
   obtain ⟨f,hf⟩:∃ f,decide (24<s1.size∨e1 < -32000∨32000<e1)=f:=⟨_,rfl⟩;have HF:=Lib.hid (And.intro hf (And.intro hx hnear));clear hf hx hnear;go_wp2_with fail;refine (lfar_any _ m1 s1 e1 f HF.out.1).mono ?_;rintro e W1 ⟨rfl,hq⟩;replace hb:=below_next hb hq;clear hq hc1 hc2 hc3
   cases f
   ·have hnk:∀ j (hj:j<l.length),j<k+1→NearN l[j]:=fun j hj h=>by
     by_cases h2:j<k
     ·exact HF.out.2.2 j hj h2
     ·obtain rfl:j=k:=by omega
      have h3:=of_decide_eq_false HF.out.1;rw [HF.out.2.1];unfold NearN;simp only;omega
    go_wp2;go_roundw
    case rel=>exact ⟨k+1,rfl,hkn,hnk,hb⟩
    case measure=>simp [RowKit.intOf];omega
   ·go_wp2_with fail;refine (lawake_any _ (tab_below htab hb)).mono ?_;rintro e W2 ⟨rfl,hq⟩;replace hb:=below_next hb hq;go_wp2;go_ret;exact ⟨rfl,hb⟩
  ·obtain rfl:k=n:=by omega
   have hall:∀ x∈l,NearN x:=fun x hx=>by
    obtain ⟨j,hj,rfl⟩:=List.getElem_of_mem hx;exact hnear j hj (by omega)
   have HA:=Lib.hid hall;clear hnear hall;have hown:=World.ownsRow_made wr (base:=wr.heap.size) (e:=28) (size:=3) #[] 0 (Nat.le_refl _) (by decide) rfl;have hl2:=(hl.below hb).alloc (.cells #[] 28);go_wp2_with (first|(at_builtin;refine wpList_append_own _ rfl (.tmp 22) (.tmp 23) 22 rfl wr.heap.size 28 i0 (.agg #[.bool false,.string ⟨#[]⟩,.int .i64 0]) 3 32 Tryz.underlying22 hi0 hy0 hy1 hy2 rfl (by decide) _ 0 [] rfl hown a k c (ncells l) rfl (by rw [ncells_len,HN.out]) (nat_reads hl2) (ncells_one l) (by unfold maxLen;omega) (by omega) (by rw [World.size_alloc];omega) ?_));intro v' w1 hown' hgrow _;have hbw:Below wr.heap.size wr w1:=((Below.refl wr.heap.size wr).alloc (Nat.le_refl _) (.cells #[] 28)).grown hgrow (by rw [World.size_alloc];omega) (fun k hk=>(hown.lt k hk).1);replace hb:=below_next hb hbw;obtain ⟨od,oc,rfl,hoc,hoW⟩:=own_nat HN.out hown';have hlW:=hl.below hb;clear hl2 hown hown' hgrow hbw;go_wp2
   go_loopw [5] (fun iv wq=>∃ i:Nat,iv=.int .i64 i∧i≤k∧Below w1.heap.size w1 wq) (fun iv _=>k-(RowKit.intOf iv).toNat)
   case atStart=>exact ⟨0,rfl,Nat.zero_le _,Below.refl _ _⟩
   case round =>
    obtain ⟨i,rfl,hi,hbq⟩:=hrel
    by_cases hik:i<k
    ·have hil:i<l.length:=by omega
     obtain ⟨b1,off1,ea,hl1,hc1,hc2,hc3⟩:=hlW i hil;obtain rfl:=Option.some.inj ea;obtain ⟨b2,off2,rfl,hl2,hd1,hd2,hd3⟩:=hoW i hil;rw [← hbq.cell hl1] at hc1 hc2 hc3;rw [← hbq.cell hl2] at hd1 hd2 hd3;obtain ⟨⟨m1,s1,e1⟩,hx⟩:∃ q:NV,l[i]=q:=⟨_,rfl⟩;rw [hx] at hc1 hc2 hc3 hd1 hd2 hd3;simp only at hc1 hc2 hc3 hd1 hd2 hd3;have hnr:=HA.out _ (List.getElem_mem hil);rw [hx] at hnr;have i1:(0:Int)≤(i:Int):=by omega
     have i2:(i:Int)<(k:Int):=by omega
     obtain ⟨z,o,x,hd⟩:=df_some (nv m1 s1 e1);obtain ⟨t,ht⟩:∃ t,(⟨(numT (wv z o) x).toArray⟩:ByteArray)=t:=⟨_,rfl⟩;have HD:=Lib.hid (And.intro hd ht);have hn1:s1.size≤24∧-32000≤e1∧e1≤32000:=hnr;clear hd ht hx hnr;go_wp2_with fail;have hin:(wr.drew.cell? ⟨b1,off1+i*3,none⟩=some (.bool m1)∧wr.drew.cell? ⟨b1,off1+i*3+1,none⟩=some (.string s1)∧wr.drew.cell? ⟨b1,off1+i*3+2,none⟩=some (.int .i64 e1))∧(wr.drew.cell? ⟨b2,off2+i*3,none⟩=some (.bool m1)∧wr.drew.cell? ⟨b2,off2+i*3+1,none⟩=some (.string s1)∧wr.drew.cell? ⟨b2,off2+i*3+2,none⟩=some (.int .i64 e1)):=⟨⟨hc1,hc2,hc3⟩,⟨hd1,hd2,hd3⟩⟩;replace hbq:=hbq.drew;clear hc1 hc2 hc3 hd1 hd2 hd3
     go_region_held3 (fun w'=>(w'.cell? ⟨b1,off1+i*3,none⟩=some (.bool m1)∧w'.cell? ⟨b1,off1+i*3+1,none⟩=some (.string s1)∧w'.cell? ⟨b1,off1+i*3+2,none⟩=some (.int .i64 e1))∧(w'.cell? ⟨b2,off2+i*3,none⟩=some (.bool m1)∧w'.cell? ⟨b2,off2+i*3+1,none⟩=some (.string s1)∧w'.cell? ⟨b2,off2+i*3+2,none⟩=some (.int .i64 e1)))
      (first|assumption|exact keep6 hq (by assumption))
      (first
       | (go_at_call 8;go_fit (lprint_any _ (tab_below htab (below_next hb hbq)) m1 s1 e1 (by omega) (by omega) z o x HD.out.1 t HD.out.2);rintro e U ⟨rfl,hq⟩;replace hbq:=below_next hbq hq)
       | (go_at_call 9;go_fit (rlprint_any _ m1 s1 e1 (by omega) (by omega) z o x HD.out.1 t HD.out.2);rintro e U ⟨rfl,hq⟩;replace hbq:=below_next hbq hq))
     all_goals
      go_wp2;go_roundw
      case rel=>exact ⟨i+1,rfl,hik,hbq⟩
      case measure=>simp [RowKit.intOf];omega
    ·obtain rfl:i=k:=by omega
     obtain ⟨t,ht⟩:∃ t,rowB l=t:=⟨_,rfl⟩;have HT:=Lib.hid ht;have HS:∀ x∈l,x.2.1.size≤100∧-100000≤x.2.2∧x.2.2≤100000:=fun x hx=>by
      have h:x.2.1.size≤24∧-32000≤x.2.2∧x.2.2≤32000:=HA.out x hx;omega
     have HS2:=Lib.hid HS;clear ht HS;go_wp2_with fail;refine (lrow_any _ (tab_below htab (below_next hb hbq)) od i oc l (hoW.below hbq) HN.out (by omega) HS2.out t HT.out).mono ?_;rintro e U1 ⟨rfl,hq⟩;replace hbq:=below_next hbq hq;clear hq;go_wp2_with fail;refine (rlrow_any _ (some a) i c l (hlW.below hbq) HN.out (by omega) HS2.out t HT.out).mono ?_;rintro e U2 ⟨rfl,hq⟩;replace hbq:=below_next hbq hq;clear hq;go_wp2_with fail;refine (lsame_any _ od (some a) i oc c l (hoW.below hbq) (hlW.below hbq) HN.out (by omega)).mono ?_;rintro e U3 ⟨rfl,hq⟩;replace hbq:=below_next hbq hq;clear hq;go_wp2_with fail;refine (lawake_any _ (tab_below htab (below_next hb hbq))).mono ?_;rintro e U4 ⟨rfl,hq⟩;replace hbq:=below_next hbq hq;go_wp2;go_ret;exact ⟨rfl,below_next hb hbq⟩
theorem lprints_none (w:World) (htab:Lib.TabIs Tryz.prog w "internal/strconv.uint64pow10" .u64 Lib.pow10Tab) :
  Calls Tryz.prog 3 #[.slice none 0 0] w (Ret (.bool true) w):=by
 obtain ⟨i0,hi0,hy0,hy1,hy2⟩:=info_parts infoN3;have hb:=Below.refl w.heap.size w;have hnil:∀ (W:World) (q:Option Addr),NAt W q []:=fun W q i h=>by simp at h
 go_enter Tryz.func3,Tryz.ntmps3;go_wp2
 go_loopw [3] (fun iv wr=>iv=.int .i64 0∧Below w.heap.size w wr) (fun _ _=>0)
 case atStart=>exact ⟨rfl,hb⟩
 case round =>
  clear hb;obtain ⟨rfl,hb⟩:=hrel;have hown:=World.ownsRow_made wr (base:=wr.heap.size) (e:=28) (size:=3) #[] 0 (Nat.le_refl _) (by decide) rfl;go_wp2_with (first|(at_builtin;refine wpList_append_own_none rfl (.tmp 22) (.tmp 23) 22 rfl wr.heap.size 28 i0 3 Tryz.underlying22 hi0 _ 0 [] rfl hown rfl ?_));replace hb:=hb.alloc hb.size (.cells #[] 28);generalize (wr.alloc (.cells #[] 28))=w1 at *;go_wp2
  go_loopw [5] (fun iv wq=>iv=.int .i64 0∧Below w.heap.size w wq) (fun _ _=>0)
  case atStart=>exact ⟨rfl,hb⟩
  case round =>
   obtain ⟨rfl,hb⟩:=hrel;go_wp2_with fail;refine (lrow_any _ (tab_below htab hb) _ 0 0 [] (hnil _ _) rfl (by omega) (fun x hx=>by cases hx) ⟨#[]⟩ (by kernel_rfl)).mono ?_;rintro e U1 ⟨rfl,hq⟩;replace hb:=below_next hb hq;clear hq;go_wp2_with fail;refine (rlrow_any _ none 0 0 [] (hnil _ _) rfl (by omega) (fun x hx=>by cases hx) ⟨#[]⟩ (by kernel_rfl)).mono ?_;rintro e U2 ⟨rfl,hq⟩;replace hb:=below_next hb hq;clear hq;go_wp2_with fail;refine (lsame_any _ _ none 0 0 0 [] (hnil _ _) (hnil _ _) rfl (by omega)).mono ?_;rintro e U3 ⟨rfl,hq⟩;replace hb:=below_next hb hq;clear hq;go_wp2_with fail;refine (lawake_any _ (tab_below htab hb)).mono ?_;rintro e U4 ⟨rfl,hq⟩;replace hb:=below_next hb hq;go_wp2;go_ret;exact ⟨rfl,hb⟩
theorem lprints_law (w:World) (htab:Lib.TabIs Tryz.prog w "internal/strconv.uint64pow10" .u64 Lib.pow10Tab) (ad:Option Addr) (l:List NV) (n c:Nat) (hn:l.length=n) (hc:n≤c∧(ad=none→c=0)) (hl:NAt w ad l) (_hm:n≤maxLen) (_hw:∀ x∈l,x.2.1.size≤maxLen∧(Lit.int .i64 x.2.2).wf=true) :
  Calls Tryz.prog 3 #[.slice ad n c] w (Ret (.bool true) w):=by
 cases ad with
 | none =>
  obtain rfl:c=0:=hc.2 rfl;obtain rfl:n=0:=by omega
  exact lprints_none w htab
 | some a=>exact lprints_some w htab a l n c hn hc.1 hl
end Go.Proofs.YtiddgplapodleaaGreatDoor
