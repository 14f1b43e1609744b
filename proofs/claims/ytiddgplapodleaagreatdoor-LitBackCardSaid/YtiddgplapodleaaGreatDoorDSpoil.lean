/- Where a text is spoilt: what is asked, and package digits' own function, walked. -/
import Derived.Test.YtiddgplapodleaaGreatDoorDDec
import Derived.Test.YtiddgplapodleaaGreatDoorHW
import Derived.WalkSmall
namespace Go.Proofs.YtiddgplapodleaaGreatDoor
set_option maxRecDepth 100000
set_option maxHeartbeats 1600000
open Go.RowKit Go.Shelf Go.Lib
def fst_ (l:List UInt8):Nat:=if l.head?=some 45 then 1 else 0
def badAt (l:List UInt8) (i:Nat):Bool:=
 match l[i]? with
 | none=>false
 | some b=>!(b == 45 && i == 0) && (!isDig b || (b == 48 && i == fst_ l && fst_ l == 1) || (i == fst_ l+1 && l[fst_ l]? == some 48))
def badPlace (l:List UInt8):Nat:=((List.range l.length).find? (badAt l)).getD l.length
def isBad (l:List UInt8):Bool:=decide (badPlace l<l.length) || decide (l.length=fst_ l)
theorem badPlace_at {l:List UInt8} {k:Nat} (hk:k<l.length) (hb:badAt l k=true) (h:∀ j,j<k→badAt l j=false):badPlace l=k:=by
 have e:(List.range l.length).find? (badAt l)=some k:=by
  rw [List.find?_range_eq_some];exact ⟨hb,List.mem_range.2 hk,fun j hj=>by simp [h j hj]⟩
 unfold badPlace;rw [e];rfl
theorem badPlace_none {l:List UInt8} (h:∀ j,j<l.length→badAt l j=false):badPlace l=l.length:=by
 have e:(List.range l.length).find? (badAt l)=none:=by
  rw [List.find?_eq_none];intro j hj;rw [h j (List.mem_range.1 hj)];simp
 unfold badPlace;rw [e];rfl
theorem badAt_get {l:List UInt8} {k:Nat} (hk:k<l.length):badAt l k=(!(l[k] == 45 && k == 0) && (!isDig l[k] || (l[k] == 48 && k == fst_ l && fst_ l == 1) || (k == fst_ l+1 && l[fst_ l]? == some 48))):=by
 unfold badAt;rw [List.getElem?_eq_getElem hk]
theorem fst_le (l:List UInt8):fst_ l≤1:=by unfold fst_;split <;> omega
theorem byte_eq {b:UInt8} {n:Nat} (h:b.toNat=n):b=UInt8.ofNat n:=by
 rw [← h];exact UInt8.ofNat_toNat.symm
theorem beq_nat (b c:UInt8):(b == c)=decide (b.toNat=c.toNat):=by
 rw [Bool.eq_iff_iff,beq_iff_eq,decide_eq_true_eq];exact UInt8.toNat_inj.symm
def SPW (w wr:World) (s:ByteArray) (k f:Nat):Prop:=
 k≤s.size∧(k=0→f=0)∧(0<k→f=fst_ s.data.toList)∧(∀ j,j<k→badAt s.data.toList j=false)∧wr.heap[w.heap.size]?=some (.stringIter s k)∧Below w.heap.size w wr
theorem SPW.start (w:World) (s:ByteArray):SPW w (w.iter s 0) s 0 0:=
 ⟨Nat.zero_le _,fun _=>rfl,fun h=>by omega,fun j h=>by omega,World.iter_heap w s 0,(Below.refl w.heap.size w).alloc (Nat.le_refl _) _⟩
theorem spoilt_any (w:World) (s:ByteArray) (hs:s.size≤1000000000) (at' : Nat) (bad:Bool) (ha:badPlace s.data.toList=at') (hbad:isBad s.data.toList=bad) :
  Calls Tryz.prog 54 #[.string s] w (Ret (.tuple #[.int .i64 at',.bool bad]) w):=by
 have HA:=Lib.hid (And.intro ha hbad);clear ha hbad;have hS0:=SPW.start w s;go_enter Tryz.func54,Tryz.ntmps54;go_wp2
 go_loopw [4] (fun fv wr=>∃ k f:Nat,fv=.int .i64 f∧SPW w wr s k f) (fun _ wr=>s.size-wr.iterPos w.heap.size)
 case atStart=>exact ⟨0,0,rfl,hS0⟩
 case round =>
  clear hS0;obtain ⟨k,f,rfl,hk,hf0,hf1,hj,hit,hb⟩:=hrel;have HJ:=Lib.hid hj;clear hj;have hfle:f≤1:=by
   rcases Nat.eq_zero_or_pos k with h|h
   ·rw [hf0 h];omega
   ·rw [hf1 h];exact fst_le _
  have hlen:s.data.toList.length=s.size:=rfl
  by_cases hks:k<s.size
  ·by_cases ha:(s[k]'hks).toNat<128
   ·have hnx:∀ ty,(Instr.next (.pointer (some ⟨w.heap.size,0,none⟩)) true ty).run Tryz.prog wr=_:=fun ty=>Lib.run_next_ascii_at wr w.heap.size s k ty hit hks ha;obtain ⟨y,hy⟩:∃ y:Nat,(s[k]'hks).toNat=y:=⟨_,rfl⟩;have hyl:(s.data.toList[k]).toNat=y:=hy;rw [hy] at hnx ha;have hdg:isDig s.data.toList[k]=decide (48≤y∧y≤57):=by unfold isDig;rw [hyl]
    have h45:(s.data.toList[k] == 45)=decide (y=45):=by rw [← hyl];exact beq_nat _ 45
    have h48:(s.data.toList[k] == 48)=decide (y=48):=by rw [← hyl];exact beq_nat _ 48
    have hbk:=badAt_get (l:=s.data.toList) hks;rw [hdg,h45,h48] at hbk;have hz0:k=0→fst_ s.data.toList=if y=45 then 1 else 0:=by
     intro h;subst h;unfold fst_;rw [List.head?_eq_getElem?,List.getElem?_eq_getElem hks]
     by_cases h:y=45
     ·rw [h] at h45;rw [if_pos h,if_pos (by rw [eq_of_beq (h45.trans (decide_eq_true rfl))])]
     ·rw [if_neg h,if_neg (fun e=>by
       have e2:s.data.toList[0]=45:=by simpa using e
       rw [e2] at h45
       have:decide (y=45)=true:=h45.symm.trans rfl
       exact h (of_decide_eq_true this))]
    clear hdg h45 h48 hyl hy
    by_cases hA:y=45∧k=0
    ·obtain ⟨rfl,rfl⟩:=hA;have hbf:badAt s.data.toList 0=false:=by rw [hbk];simp
     have hff:=hz0 rfl;have hR:SPW w (wr.iterAt w.heap.size s (0+1)) s 1 1:=⟨by omega,fun h=>by omega,fun _=>by rw [hff];rfl,fun j hj=>by (have e:j=0:=by omega);subst e;exact hbf,Lib.iterAt_heap _ _ _ _ _ hit,below_iterAt hb (Nat.le_refl _) _ _⟩;have hpos:=iterPos_of hR.2.2.2.2.1;have hpos0:=iterPos_of hit;have HR:=Lib.hid (And.intro hR (And.intro hpos hpos0));clear hbk hff hz0 hf0 hf1 hR hpos hpos0 hbf;go_wp2;go_roundw
     case rel=>exact ⟨1,1,rfl,HR.out.1⟩
     case measure=>rw [show (0:Nat)+1=1 from rfl] at *;rw [HR.out.2.1,HR.out.2.2];omega
    ·by_cases hB:48≤y∧y≤57
     ·have hz0' : k=0→fst_ s.data.toList=0:=fun h=>by rw [hz0 h,if_neg (by omega)]
      have hff:f=fst_ s.data.toList:=by
       rcases Nat.eq_zero_or_pos k with h|h
       ·rw [hf0 h,hz0' h]
       ·exact hf1 h
      have e1:(decide (y=45) && (k == 0))=false:=by rw [decide_eq_false (by omega)];rfl
      rw [e1,decide_eq_true hB,← hff] at hbk;have b45:((y:Int) == 45)=false:=by rw [beq_eq_false_iff_ne];omega
      have bl:decide ((y:Int)<48)=false:=by apply decide_eq_false;omega
      have bg:decide ((57:Int)<(y:Int))=false:=by apply decide_eq_false;omega
      by_cases hC:y=48∧k=f∧f=1
      ·have hbt:badAt s.data.toList k=true:=by rw [hbk];simp [hC.1,hC.2.1];exact hC.2.2
       obtain ⟨rfl,rfl,rfl⟩:=hC;have hbp:=badPlace_at hks hbt HJ.out;have hib:isBad s.data.toList=true:=by unfold isBad;rw [hbp,hlen];simp [hks]
       have e1':=HA.out.1.symm.trans hbp;have e2':=HA.out.2.symm.trans hib;have HE:=Lib.hid (And.intro e1' e2');clear hbp hib e1' e2' hbk hbt hf0 hf1 hz0 hz0' e1 hff;go_wp2;go_ret2;exact ⟨by rw [HE.out.1,HE.out.2];rfl,below_iterAt hb (Nat.le_refl _) _ _⟩
      ·by_cases hD1:k=f+1
       ·subst hD1;have hfs:f<s.size:=by omega
        obtain ⟨x,hx⟩:∃ x:Nat,(s[f]'hfs).toNat=x:=⟨_,rfl⟩;have hxl:(s.data.toList[f]? == some 48)=decide (x=48):=by
         rw [List.getElem?_eq_getElem hfs,← hx];exact beq_nat s.data.toList[f] 48
        rw [hxl] at hbk
        by_cases hD2:x=48
        ·have hbt:badAt s.data.toList (f+1)=true:=by rw [hbk];simp [hD2]
         have bD2:((x:Int) == 48)=true:=by rw [beq_iff_eq];omega
         have hbp:=badPlace_at hks hbt HJ.out;have hib:isBad s.data.toList=true:=by unfold isBad;rw [hbp,hlen];simp [hks]
         have e1':=HA.out.1.symm.trans hbp;have e2':=HA.out.2.symm.trans hib;have HE:=Lib.hid (And.intro e1' e2');clear hbp hib e1' e2' hbk hbt hf0 hf1 hz0 e1 hz0' hff hxl hC;go_wp2
         all_goals
          go_ret2;exact ⟨by rw [HE.out.1,HE.out.2];rfl,below_iterAt hb (Nat.le_refl _) _ _⟩
        ·have hC' : (decide (y=48) && f+1 == f && f == 1)=false:=by
          rw [← Bool.not_eq_true];simp
         have hbf:badAt s.data.toList (f+1)=false:=by rw [hbk,hC',decide_eq_false hD2];simp
         have bD2:((x:Int) == 48)=false:=by rw [beq_eq_false_iff_ne];omega
         have bC:((f:Int)+1 == (f:Int))=false:=by rw [beq_eq_false_iff_ne];omega
         have hR:SPW w (wr.iterAt w.heap.size s (_+1)) s (_+1) _:=⟨hks,fun h=>by omega,fun _=>hff,fun j hj=>by
          rcases Nat.lt_or_eq_of_le (Nat.le_of_lt_succ hj) with h|h
          ·exact HJ.out j h
          ·rw [h];exact hbf,Lib.iterAt_heap _ _ _ _ _ hit,below_iterAt hb (Nat.le_refl _) _ _⟩
         have hpos:=iterPos_of hR.2.2.2.2.1;have hpos0:=iterPos_of hit;have HR:=Lib.hid (And.intro hR (And.intro hpos hpos0));clear hbk hff hz0 hz0' hf0 hf1 hR hpos hpos0 hbf e1 hC hC' hxl;go_wp2
         all_goals
          go_roundw
          case rel=>exact ⟨_,_,rfl,HR.out.1⟩
          case measure=>rw [HR.out.2.1,HR.out.2.2];omega
       ·have hD1' : (k == f+1)=false:=by rw [beq_eq_false_iff_ne];exact hD1
        have hC' : (decide (y=48) && k == f && f == 1)=false:=by
         rw [← Bool.not_eq_true];simp;exact fun a b c=>hC ⟨a,b,c⟩
        have hbf:badAt s.data.toList k=false:=by rw [hbk,hC',hD1'];rfl
        have bD1:((k:Int) == (f:Int)+1)=false:=by rw [beq_eq_false_iff_ne];omega
        by_cases c1:y=48
        ·by_cases c2:k=f
         ·have c3:f=0:=by
           by_cases h:f=1
           ·exact absurd ⟨c1,c2,h⟩ hC
           ·omega
          subst c2;subst c3;subst c1;have hR:SPW w (wr.iterAt w.heap.size s (_+1)) s (_+1) _:=⟨hks,fun h=>by omega,fun _=>hff,fun j hj=>by
           rcases Nat.lt_or_eq_of_le (Nat.le_of_lt_succ hj) with h|h
           ·exact HJ.out j h
           ·rw [h];exact hbf,Lib.iterAt_heap _ _ _ _ _ hit,below_iterAt hb (Nat.le_refl _) _ _⟩
          have hpos:=iterPos_of hR.2.2.2.2.1;have hpos0:=iterPos_of hit;have HR:=Lib.hid (And.intro hR (And.intro hpos hpos0));clear hbk hff hz0 hz0' hf0 hf1 hR hpos hpos0 hbf e1 hC hC' hD1';go_wp2
          all_goals
           go_roundw
           case rel=>exact ⟨_,_,rfl,HR.out.1⟩
           case measure=>rw [HR.out.2.1,HR.out.2.2];omega
         ·have bC:((k:Int) == (f:Int))=false:=by rw [beq_eq_false_iff_ne];omega
          have hR:SPW w (wr.iterAt w.heap.size s (_+1)) s (_+1) _:=⟨hks,fun h=>by omega,fun _=>hff,fun j hj=>by
           rcases Nat.lt_or_eq_of_le (Nat.le_of_lt_succ hj) with h|h
           ·exact HJ.out j h
           ·rw [h];exact hbf,Lib.iterAt_heap _ _ _ _ _ hit,below_iterAt hb (Nat.le_refl _) _ _⟩
          have hpos:=iterPos_of hR.2.2.2.2.1;have hpos0:=iterPos_of hit;have HR:=Lib.hid (And.intro hR (And.intro hpos hpos0));clear hbk hff hz0 hz0' hf0 hf1 hR hpos hpos0 hbf e1 hC hC' hD1';go_wp2
          all_goals
           go_roundw
           case rel=>exact ⟨_,_,rfl,HR.out.1⟩
           case measure=>rw [HR.out.2.1,HR.out.2.2];omega
        ·have bC:((y:Int) == 48)=false:=by rw [beq_eq_false_iff_ne];omega
         have hR:SPW w (wr.iterAt w.heap.size s (_+1)) s (_+1) _:=⟨hks,fun h=>by omega,fun _=>hff,fun j hj=>by
          rcases Nat.lt_or_eq_of_le (Nat.le_of_lt_succ hj) with h|h
          ·exact HJ.out j h
          ·rw [h];exact hbf,Lib.iterAt_heap _ _ _ _ _ hit,below_iterAt hb (Nat.le_refl _) _ _⟩
         have hpos:=iterPos_of hR.2.2.2.2.1;have hpos0:=iterPos_of hit;have HR:=Lib.hid (And.intro hR (And.intro hpos hpos0));clear hbk hff hz0 hz0' hf0 hf1 hR hpos hpos0 hbf e1 hC hC' hD1';go_wp2
         all_goals
          go_roundw
          case rel=>exact ⟨_,_,rfl,HR.out.1⟩
          case measure=>rw [HR.out.2.1,HR.out.2.2];omega
     ·have e1:(decide (y=45) && (k == 0))=false:=by
       rw [Bool.and_eq_false_iff,decide_eq_false_iff_not,beq_eq_false_iff_ne]
       by_cases h:y=45
       ·right;exact fun h2=>hA ⟨h,h2⟩
       ·left;exact h
      have hbt:badAt s.data.toList k=true:=by rw [hbk,e1,decide_eq_false hB];rfl
      have b45:((y:Int) == 45 && (k:Int) == 0)=false:=by
       rw [Bool.and_eq_false_iff,beq_eq_false_iff_ne,beq_eq_false_iff_ne]
       by_cases h:y=45
       ·right;exact fun h2=>hA ⟨h,by omega⟩
       ·left;omega
      have bo:(decide ((y:Int)<48) || decide ((57:Int)<(y:Int)))=true:=by
       rw [Bool.or_eq_true,decide_eq_true_eq,decide_eq_true_eq];omega
      have hbp:=badPlace_at hks hbt HJ.out;have hib:isBad s.data.toList=true:=by unfold isBad;rw [hbp,hlen];simp [hks]
      have e1':=HA.out.1.symm.trans hbp;have e2':=HA.out.2.symm.trans hib;have HE:=Lib.hid (And.intro e1' e2');clear hbp hib e1' e2' hbk hbt hf0 hf1 hz0 e1;go_wp2
      all_goals
       go_ret2;exact ⟨by rw [HE.out.1,HE.out.2];rfl,below_iterAt hb (Nat.le_refl _) _ _⟩
   ·have hnx:∀ ty,(Instr.next (.pointer (some ⟨w.heap.size,0,none⟩)) true ty).run Tryz.prog wr=_:=fun ty=>Lib.run_next_any_at wr w.heap.size s k ty hit hks;have hdh:=(decode_high s k hks (by omega)).1;have hbk:badAt s.data.toList k=true:=by
     rw [badAt_get hks];have h1:isDig s.data.toList[k]=false:=by
      unfold isDig;have e:(s.data.toList[k]).toNat=(s[k]'hks).toNat:=rfl;rw [e,decide_eq_false_iff_not];omega
     have h2:(s.data.toList[k] == 45)=false:=by
      rw [beq_eq_false_iff_ne];intro e
      have:(s[k]'hks).toNat=45:=by show (s.data.toList[k]).toNat=45;rw [e];rfl
      omega
     rw [h1,h2];rfl
    have hbp:=badPlace_at hks hbk HJ.out;have hib:isBad s.data.toList=true:=by unfold isBad;rw [hbp,hlen];simp [hks]
    have e1:=HA.out.1.symm.trans hbp;have e2:=HA.out.2.symm.trans hib;have HE:=Lib.hid (And.intro e1 e2);clear hbp hib e1 e2 hbk hf0 hf1;generalize (Utf8.decode s k).1=r at hnx hdh;generalize (Utf8.decode s k).2=wd at hnx;go_wp2;go_ret2;exact ⟨by rw [HE.out.1,HE.out.2];rfl,below_iterAt hb (Nat.le_refl _) _ _⟩
  ·have hnx:∀ ty,(Instr.next (.pointer (some ⟨w.heap.size,0,none⟩)) true ty).run Tryz.prog wr=_:=fun ty=>Lib.run_next_end_at wr w.heap.size s k ty hit hks;obtain rfl:k=s.size:=by omega
   have hbp:=badPlace_none (l:=s.data.toList) HJ.out;have hff:f=fst_ s.data.toList:=by
    rcases Nat.eq_zero_or_pos s.size with h|h
    ·have hnil:s.data.toList=[]:=List.eq_nil_of_length_eq_zero h;rw [hf0 h,hnil];rfl
    ·exact hf1 h
   have hib:isBad s.data.toList=((s.size:Int) == (f:Int)):=by
    unfold isBad;rw [hbp,hlen,hff,Bool.eq_iff_iff];simp;omega
   have e1:=HA.out.1.symm.trans hbp;have e2:=HA.out.2.symm.trans hib;have HE:=Lib.hid (And.intro e1 e2);clear hbp hib e1 e2 hf0 hf1 hff;go_wp2;go_ret2;exact ⟨by rw [HE.out.1,HE.out.2];rfl,hb⟩
end Go.Proofs.YtiddgplapodleaaGreatDoor
