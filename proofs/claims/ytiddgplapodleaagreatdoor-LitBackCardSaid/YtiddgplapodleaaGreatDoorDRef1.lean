/- The document's answer for decimal texts: Figures, walked. -/
import Derived.Test.YtiddgplapodleaaGreatDoorHR
import Derived.Test.YtiddgplapodleaaGreatDoorDText
namespace Go.Proofs.YtiddgplapodleaaGreatDoor
set_option maxRecDepth 100000
set_option maxHeartbeats 1600000
open Go.RowKit Go.Shelf Go.Lib
def strD:Value→ByteArray | .string s=>s|_=>⟨#[]⟩
theorem fb_one {m:Nat} (h0:0<m) (h:m<256):fb m=⟨#[UInt8.ofNat m]⟩:=by
 have hm:(UInt8.ofNat m).toNat=m:=by rw [UInt8.toNat_ofNat'];exact Nat.mod_eq_of_lt h
 have hn:numL [UInt8.ofNat m]=m:=by
  show 0*256+(UInt8.ofNat m).toNat=m;omega
 have hz:NZ [UInt8.ofNat m]:=by
  have:=NZ.snoc (l:=[]) (b:=UInt8.ofNat m) NZ.nil (fun _ e=>by rw [e] at hm;simp at hm;omega)
  simpa using this
 unfold fb;rw [formL_of hz hn]
theorem num_ten:num ⟨#[10]⟩=10:=by kernel_rfl
theorem divV_ten (a:Nat):divV a (num ⟨#[10]⟩)=.tuple #[.string (fb (a / 10)),.string (fb (a % 10)),.bool true]:=by
 rw [num_ten];rfl
theorem nDigits_le:∀ (k u:Nat),u<10 ^ k→nDigits u≤k+1
 | 0,u,h=>by rw [nDigits_small (by simp at h;omega)];omega
 | k+1,u,h=>by
  by_cases h10:u<10
  ·rw [nDigits_small h10];omega
  ·rw [nDigits_big h10];rw [Nat.pow_succ] at h
   have:=nDigits_le k (u / 10) (by omega)
   omega
theorem nDigits_num (s:ByteArray):nDigits (num s)≤3*s.size+1:=by
 refine nDigits_le _ _ (Nat.lt_of_lt_of_le (num_lt s) ?_);rw [Nat.pow_mul];exact Nat.pow_le_pow_left (by decide) _
theorem app_one (d:UInt8) (u:ByteArray):((⟨#[d]⟩:ByteArray)++u).data.toList=d::u.data.toList:=by
 rw [ByteArray.data_append];simp
theorem ba_ext {a b:ByteArray} (h:a.data.toList=b.data.toList):a=b:=ByteArray.ext (Array.ext' h)
def RFI (w wr:World) (s t u:ByteArray):Prop:=t.size≤100001∧decDigits (num s)=decDigits (num t)++u.data.toList∧Below w.heap.size w wr
theorem one_byte (W:World) (d:Nat) (z:Int) (hz:z=(d:Int)) (h:d<256) :
  (convert 65 9 (.slice (some ⟨W.heap.size,0,none⟩) 1 1)).run Tryz.prog (W.alloc (.cells #[.int .u8 z] 5))=.ok (.string ⟨#[UInt8.ofNat d]⟩) (W.alloc (.cells #[.int .u8 z] 5)):=by
 subst hz;have hd:(UInt8.ofNat d).toNat=d:=by rw [UInt8.toNat_ofNat'];exact Nat.mod_eq_of_lt h
 refine run_bytes_at (l:=[UInt8.ofNat d]) rfl (fun i hi=>?_);obtain rfl:i=0:=by simpa using hi
 have hR:=Rw.new W 5 [.int .u8 d];rw [hR.cell];show some (Value.int .u8 d)=some (by8 (UInt8.ofNat d));unfold by8;rw [hd]
theorem rfigures_any (w:World) (s:ByteArray) (hs:s.size≤100000) (o:ByteArray) (ho:⟨(decDigits (num s)).toArray⟩=o) :
  Calls Tryz.prog 48 #[.string s] w (Ret (.string o) w):=by
 have HO:=Lib.hid ho;clear ho;have hR0:RFI w w s s ⟨#[]⟩:=⟨by omega,by simp,Below.refl _ _⟩;go_enter Tryz.func48,Tryz.ntmps48;go_wp2
 go_loopw [0,3] (fun mv ov wr=>∃ t u,mv=.string t∧ov=.string u∧RFI w wr s t u) (fun mv _ _=>num (strD mv))
 case atStart=>exact ⟨s,⟨#[]⟩,rfl,rfl,hR0⟩
 case round =>
  clear hR0;obtain ⟨t,u,rfl,rfl,hts,hdec,hb⟩:=hrel;have HD:=Lib.hid hdec;clear hdec;go_wp2_with fail;refine (ref_div _ t ⟨#[10]⟩ (by omega) (by decide)).mono ?_;rintro e W ⟨he,hq⟩;rw [divV_ten] at he;subst he;replace hb:=below_next hb hq;clear hq;obtain ⟨m,hm⟩:∃ m,num t % 10=m:=⟨_,rfl⟩;have hm10:m<10:=by omega
  obtain ⟨q,hq⟩:∃ q,fb (num t / 10)=q:=⟨_,rfl⟩;have hqn:num q=num t / 10:=by rw [← hq,num_fb]
  have hqs:q.size≤100001:=by
   rw [← hq];refine Nat.le_trans (fb_size_le (k:=t.size) ?_) hts
   have:=num_lt t
   omega
  have hus:u.size≤300001:=by
   have h1:=congrArg List.length HD.out;rw [List.length_append,decDigits_length,decDigits_length] at h1;have h2:=nDigits_num s;have h3:u.data.toList.length=u.size:=rfl;omega
  have hul:¬ (9223372036854775807<1+u.size):=by omega
  obtain ⟨d,hd⟩:∃ d,UInt8.ofNat (48+m)=d:=⟨_,rfl⟩;have hcv:=one_byte W (48+m) (48+(m:Int)) (by omega) (by omega);rw [hd] at hcv;have hend:q=⟨#[]⟩→(⟨#[d]⟩:ByteArray)++u=o:=by
   intro h;have h0:num t / 10=0:=by rw [← hqn,h];rfl
   rw [← HO.out];refine ba_ext ?_;rw [app_one,HD.out,decDigits_small (by omega),← hd,← hm,show num t % 10=num t by omega];rfl
  have hnext:q≠⟨#[]⟩→10≤num t∧decDigits (num s)=decDigits (num q)++((⟨#[d]⟩:ByteArray)++u).data.toList:=by
   intro h;have h0:¬ num t<10:=by
    intro h2
    apply h
    rw [← hq,show num t / 10=0 by omega];rfl
   refine ⟨by omega,?_⟩;rw [app_one,HD.out,decDigits_big h0,hqn,hm,hd,List.append_assoc];rfl
  rw [hm,hq];have HQ:=Lib.hid (And.intro hend (And.intro hnext hqn));clear hm hq hqn hend hnext hd;have hbA:∀ z:Int,Below w.heap.size w (W.alloc (.cells #[.int .u8 z] 5)):=fun z=>hb.alloc hb.size _
  rcases Nat.eq_zero_or_pos m with h0|h0
  ·subst h0;rw [show fb 0=⟨#[]⟩ from rfl];have e48:(48:Int)+((0:Nat):Int)=48:=rfl;rw [e48] at hcv;clear e48
   by_cases hq0:q=⟨#[]⟩
   ·have hfin:=HQ.out.1 hq0;subst hq0;have HF:=Lib.hid hfin;clear hfin;go_wp2;go_ret;exact ⟨by rw [HF.out];rfl,hbA _⟩
   ·have hqe:q.toList.isEmpty=false:=by
     rw [toList_isEmpty,decide_eq_false_iff_not];intro h;exact hq0 (ba_ext (List.eq_nil_of_length_eq_zero h))
    have hnx:=HQ.out.2.1 hq0;have HN:=Lib.hid hnx;clear hnx;go_wp2;go_roundw
    case rel=>exact ⟨q,(⟨#[d]⟩:ByteArray)++u,rfl,rfl,hqs,HN.out.2,hbA _⟩
    case measure =>
     show num q<num t;rw [HQ.out.2.2]
     have:=HN.out.1
     omega
  ·rw [fb_one h0 (by omega)];have hmt:(UInt8.ofNat m).toNat=m:=by rw [UInt8.toNat_ofNat'];exact Nat.mod_eq_of_lt (by omega)
   have hx:((⟨#[UInt8.ofNat m]⟩:ByteArray)[0]'Nat.zero_lt_one).toNat=m:=hmt;have h48:((48:Int)+(m:Int)) % 256=48+(m:Int):=by omega
   clear hmt
   by_cases hq0:q=⟨#[]⟩
   ·have hfin:=HQ.out.1 hq0;subst hq0;have HF:=Lib.hid hfin;clear hfin;go_wp2;go_ret;exact ⟨by rw [HF.out];rfl,hbA _⟩
   ·have hqe:q.toList.isEmpty=false:=by
     rw [toList_isEmpty,decide_eq_false_iff_not];intro h;exact hq0 (ba_ext (List.eq_nil_of_length_eq_zero h))
    have hnx:=HQ.out.2.1 hq0;have HN:=Lib.hid hnx;clear hnx;go_wp2;go_roundw
    case rel=>exact ⟨q,(⟨#[d]⟩:ByteArray)++u,rfl,rfl,hqs,HN.out.2,hbA _⟩
    case measure =>
     show num q<num t;rw [HQ.out.2.2]
     have:=HN.out.1
     omega
end Go.Proofs.YtiddgplapodleaaGreatDoor
