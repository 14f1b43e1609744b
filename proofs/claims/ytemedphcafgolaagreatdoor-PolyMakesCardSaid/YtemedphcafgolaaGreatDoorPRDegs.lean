/- The document's Degs (package ogeeref08), walked. -/
import Derived.Test.YtemedphcafgolaaGreatDoorPRCheck
import Derived.Test.YtemedphcafgolaaGreatDoorPD
namespace Go.Proofs.YtemedphcafgolaaGreatDoor
set_option maxRecDepth 100000
set_option maxHeartbeats 6400000
open Go.RowKit Go.Shelf Go.Lib
theorem glk_zero (m k:Nat):(gl m []).getD k 0=0:=by
 unfold gl;rw [List.foldl_nil,List.getD_eq_getElem?_getD,List.getElem?_replicate]
 split <;> rfl
theorem glk_next {m k i:Nat} {l:List TV} (hl:∀ x∈l,x.1.size=m) (hi:i<l.length) (hk:k<m) (hk2:k<l[i].1.size):(gl m (l.take (i+1))).getD k 0=max ((gl m (l.take i)).getD k 0) (l[i].1[k]'hk2).toNat:=by
 have h1:(gl m (l.take i)).length=m:=gl_len m _ fun t ht=>hl t (List.mem_of_mem_take ht);have h2:(gl m (l.take (i+1))).length=m:=gl_len m _ fun t ht=>hl t (List.mem_of_mem_take ht);have h3:l[i].1.data.toList.length=m:=hl _ (List.getElem_mem hi);rw [List.getD_eq_getElem?_getD,List.getD_eq_getElem?_getD,List.getElem?_eq_getElem (by omega),List.getElem?_eq_getElem (by omega)];simp only [Option.getD_some];have h4:gl m (l.take (i+1))=maxL (gl m (l.take i)) (l[i].1.data.toList.map UInt8.toNat):=by rw [List.take_succ_eq_append_getElem hi,gl_snoc]
 simp only [h4,maxL,List.getElem_zipWith,List.getElem_map];rfl
theorem prdegs_any (w:World) (v:Int) (td:Option Addr) (n c:Nat) (l:List TV) (hl:l.length=n) (hmax:n≤1000000) (hp:TAt w td l) (hs:∀ x∈l,x.1.size≤1000000∧x.2.2.1.size≤90000∧-10000000≤x.2.2.2∧x.2.2.2≤10000000) (ns:List Int) (hns:(if checkE v l=0 then (gl v.toNat l).map (fun n:Nat=>(n:Int)) else [])=ns) :
  Calls Tryz.prog 17 #[.agg #[.int .i64 v,.slice td n c]] w (RetI ns w):=by
 have hP:=Rw.new w 31 [.int .i64 v,.slice td n c];have hb:=(Below.refl w.heap.size w).alloc (Nat.le_refl _) (.cells #[.int .i64 v,.slice td n c] 31);obtain ⟨o,ho⟩:∃ o,checkE v l=o:=⟨_,rfl⟩;have hch:=rcheck_any (w.alloc (.cells #[.int .i64 v,.slice td n c] 31)) v td n c l hl hmax (hp.alloc _) hs o ho;obtain ⟨p0,p1,-⟩:=hP.facts2;go_enter Tryz.func17,Tryz.ntmps17;go_wp2_with fail;refine hch.mono ?_;rintro e W1 ⟨rfl,hq⟩;rw [ho] at hns;clear hch p0 p1;replace hP:=hP.below hq hP.lt;replace hb:=below_next hb hq;clear hq
 by_cases h0:o=0
 case neg =>
  rw [if_neg h0] at hns;subst hns;clear hs hp ho;go_wp2;go_ret;exact ⟨none,0,rfl,RI.nil _ _,hb⟩
 subst h0;rw [if_pos rfl] at hns;obtain ⟨⟨hv0,hv1⟩,-,hgood,-⟩:=check_ok ho;obtain ⟨m,rfl⟩:∃ m:Nat,v=m:=⟨v.toNat,by omega⟩;rw [Int.toNat_natCast] at hns;have hm12:m≤12:=by omega
 have hsz:∀ x∈l,x.1.size=m:=fun x hx=>(may_parts (good_form (hgood x hx)).2.2).1;have hgl:=gl_len m l hsz;have hnl:ns.length=m:=by rw [← hns,List.length_map,hgl]
 have hL1:=hp.below hb;have hnk:∀ k (hk:k<m),ns.take (k+1)=ns.take k++[(((gl m l).getD k 0:Nat):Int)]:=fun k hk=>by
  rw [List.take_succ_eq_append_getElem (by omega)]
  congr 2
  subst hns;rw [List.getElem_map,List.getD_eq_getElem?_getD,List.getElem?_eq_getElem (by omega)];rfl
 obtain ⟨ti,hi,hz,hszz,hby⟩:=info_parts pm_infoN;have HG:=Lib.hid (And.intro hsz (And.intro hnk (And.intro hnl hl)));clear hsz hnk hgl hns hgood hs hp ho hv0 hv1 hl;obtain ⟨p0,p1,-⟩:=hP.facts2;go_wp2;clear p0 p1
 go_loopw [3,4] (fun av iv wr=>∃ k:Nat,iv=.int .i64 (k:Int)∧k≤m∧OV W1.heap.size wr av ((ns.take k).map (Value.int .i64))∧Below W1.heap.size W1 wr) (fun _ iv _=>m-(RowKit.intOf iv).toNat)
 case atStart=>exact ⟨0,rfl,Nat.zero_le _,OV.nil _ _,Below.refl _ _⟩
 case round =>
  obtain ⟨k,rfl,hk,hV,hbw⟩:=hrel;have hP2:=hP.below hbw hP.lt;obtain ⟨p0,p1,-⟩:=hP2.facts2
  by_cases hkm:k<m
  ·have hkm2:(k:Int)<(m:Int):=by omega
   obtain ⟨W2,hW2⟩:∃ W2,W2=wr:=⟨_,rfl⟩;subst hW2;go_wp2;clear p0 p1
   go_loopw [5,6] (fun mv iv wr=>∃ i:Nat,iv=.int .i64 (i:Int)∧i≤n∧mv=.int .i64 (((gl m (l.take i)).getD k 0:Nat):Int)∧Below W2.heap.size W2 wr) (fun _ iv _=>n-(RowKit.intOf iv).toNat)
   case atStart=>exact ⟨0,rfl,Nat.zero_le _,by rw [List.take_zero,glk_zero];rfl,Below.refl _ _⟩
   case round =>
    obtain ⟨i,rfl,hin,rfl,hbw2⟩:=hrel;have hP3:=hP2.below hbw2 hP2.lt;obtain ⟨p0,p1,-⟩:=hP3.facts2
    by_cases hik:i<n
    ·have hil:i<l.length:=by have:=HG.out.2.2.2;omega
     obtain ⟨lb,lo,rfl,hlb,c0,-⟩:=hL1.below (below_next hbw hbw2) i hil;have hxs:=HG.out.1 _ (List.getElem_mem hil);have hks:k<l[i].1.size:=by omega
     have hnx:=glk_next HG.out.1 hil hkm hks;generalize l[i].1=s at *;obtain ⟨y,hy⟩:∃ y:Nat,(s[k]'hks).toNat=y:=⟨_,rfl⟩;have hy8:y<256:=by rw [← hy];exact UInt8.toNat_lt _
     rw [hy] at hnx;generalize (gl m (l.take i)).getD k 0=A at *;generalize hB:(gl m (l.take (i+1))).getD k 0=B at *;have hcast:((B:Nat):Int)=max (A:Int) (y:Int):=by rw [hnx];omega
     have HB:=Lib.hid (And.intro hB hcast);have hik2:(i:Int)<(n:Int):=by omega
     clear hnx hB hcast hxs;go_wp2;exact ⟨⟨i+1,by simp,hik,by rw [HB.out.1,HB.out.2],hbw2⟩,by simp [RowKit.intOf];omega⟩
    ·obtain rfl:i=n:=by omega
     rw [List.take_of_length_le (by have:=HG.out.2.2.2;omega)];have hst:=HG.out.2.1 k hkm;generalize (gl m l).getD k 0=A at *;have HS:=Lib.hid hst;have hll:((ns.take k).map (Value.int .i64)).length≤1000000000:=by
      rw [List.length_map,List.length_take]
      have:=HG.out.2.2.1
      omega
     clear hst;have hbb:=below_next hbw hbw2;have hVa:=(hV.next hbw2).alloc (.cells #[.int .i64 (A:Int)] 3);have hcl:=(Rw.new wr 3 [.int .i64 (A:Int)]).cell 0;have hls:W1.heap.size≤(wr.alloc (.cells #[.int .i64 (A:Int)] 3)).heap.size:=by have:=hbb.size;simp;omega
     go_wp2_with (first
      | (at_builtin;refine wpList_append_one W1.heap.size Tryz.underlying39 hi hz hszz (by omega) rfl rfl (.tmp 34) (.tmp 36) rfl _ _ rfl hVa ⟨wr.heap.size,0,none⟩ (.int .i64 (A:Int)) 1 rfl hcl rfl (by omega) hls ?_))
     intro v' W4 hV4 hg4 _;have hb4:Below W1.heap.size W1 W4:=(hbb.alloc hbb.size _).grown hg4 hls (fun g hg=>(hVa.lt hg).1);have hV5:OV W1.heap.size W4 v' ((ns.take (k+1)).map (Value.int .i64)):=by
      rw [HS.out,List.map_append,List.map_take];exact hV4
     clear hV4 hg4 hVa hV hcl hls hll p0 p1;go_wp2;exact ⟨⟨k+1,by simp,hkm,hV5,hb4⟩,by simp [RowKit.intOf];omega⟩
  ·obtain rfl:k=m:=by omega
   rw [List.take_of_length_le (by have:=HG.out.2.2.1;omega)] at hV;obtain ⟨ad,ac,rfl,hri⟩:=hV.ri;clear hV;go_wp2;go_ret;exact ⟨ad,ac,rfl,hri,below_next hb hbw⟩
end Go.Proofs.YtemedphcafgolaaGreatDoor
