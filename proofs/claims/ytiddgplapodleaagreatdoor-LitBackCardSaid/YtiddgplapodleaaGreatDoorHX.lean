/- Layer 1, laid together: LPower, LParse. -/
import Derived.Test.YtiddgplapodleaaGreatDoorLRef
import Derived.Test.YtiddgplapodleaaGreatDoorWSmall
import Derived.Test.YtiddgplapodleaaGreatDoorG5
/- Package lit: power,walked. -/
namespace Go.Proofs.YtiddgplapodleaaGreatDoor
set_option maxRecDepth 100000
set_option maxHeartbeats 1600000
open Go.RowKit Go.Shelf Go.Lib
theorem lists_ne {a b:ByteArray} (h:¬ a=b):(a.toList == b.toList)=false:=by
 rw [beq_eq_false_iff_ne];intro e;refine h (ByteArray.ext (Array.ext' ?_));rw [← ByteArray.toList_eq,← ByteArray.toList_eq,e]
theorem two_cells {W:World} {b:Nat} {m:Bool} {s:ByteArray} {e:Int} (h:Nk W b m s e):(W.cell? ⟨b,0,none⟩=some (.bool m)∧W.cell? ⟨b,1,none⟩=some (.string s))∧Nk W b m s e:=⟨⟨h.cells.1,h.cells.2.1⟩,h⟩
theorem lslash_yes (w:World) (n:Bool) (s:ByteArray) (hs:s.size≤1000)  (e:Int) (hd:df (nv n s 0)=nu false ⟨#[1]⟩ e) :
  Calls Tryz.prog 33 #[.int .i32 47,.agg #[.bool n,.string s]] w (Ret (.tuple #[.int .i64 (-e),.int .i64 0]) w):=by
 have hx:=df_exp hd hs;have HC:=Lib.hid hd;clear hd;go_enter Tryz.func33,Tryz.ntmps33;go_wp2_with fail;have hA:=Bk.new w #[.bool n,.string s];have hb:=(Below.refl w.heap.size w).alloc (Nat.le_refl _) (.cells #[.bool n,.string s] 26);generalize (w.alloc (.cells #[.bool n,.string s] 26))=W0 at *;refine (ymake_any _ n s 0 (by omega) (by omega) false ⟨#[1]⟩ e HC.out).mono ?_;rintro e' W ⟨rfl,hq⟩;replace hb:=below_next hb hq;clear hq;clear hA;have hX:=Nk.new W false ⟨#[1]⟩ e;replace hb:=hb.alloc hb.size (.cells #[.bool false,.string ⟨#[1]⟩,.int .i64 e] 28);obtain ⟨hX0,hX1,hX2⟩:=hX.cells;go_wp2_with fail;generalize W.alloc (.cells #[.bool false,.string ⟨#[1]⟩,.int .i64 e] 28)=W1 at *;generalize W.heap.size=PX at *;clear hX0 hX1 hX2;have hin:(W1.drew.cell? ⟨PX,0,none⟩=some (.bool false)∧W1.drew.cell? ⟨PX,1,none⟩=some (.string ⟨#[1]⟩))∧Nk W1.drew PX false ⟨#[1]⟩ e:=two_cells hX.drew;replace hb:Below w.heap.size w W1.drew:=hb.drew;clear hX
 go_region_held3 (fun w'=>(w'.cell? ⟨PX,0,none⟩=some (.bool false)∧w'.cell? ⟨PX,1,none⟩=some (.string ⟨#[1]⟩))∧Nk w' PX false ⟨#[1]⟩ e)
  (first|assumption|exact two_cells (hin.2.below hq)|exact two_cells (Nk.below (by assumption) hq))
  (first|(go_at_call 25;go_fit (wof_any _ 1 (by decide) (by decide) false ⟨#[1]⟩ (by kernel_rfl));rintro e V1 ⟨rfl,hq⟩;replace hb:=below_next hb hq))
 all_goals
  have hS:(V1.cell? ⟨PX,0,none⟩=some (.bool false)∧V1.cell? ⟨PX,1,none⟩=some (.string ⟨#[1]⟩))∧Nk V1 PX false ⟨#[1]⟩ e:=by first|assumption|exact two_cells (hin.2.below hq)
  obtain ⟨hX0,hX1,hX2⟩:=hS.2.cells;go_wp2;go_ret2;exact ⟨rfl,hb⟩
theorem lslash_neg (w:World) (n:Bool) (s:ByteArray) (hs:s.size≤1000) (o:ByteArray) (e:Int) (hd:df (nv n s 0)=nu true o e) :
  Calls Tryz.prog 33 #[.int .i32 47,.agg #[.bool n,.string s]] w (Ret (.tuple #[.int .i64 0,.int .i64 1]) w):=by
 have hx:=df_exp hd hs;have HC:=Lib.hid hd;clear hd;go_enter Tryz.func33,Tryz.ntmps33;go_wp2_with fail;have hA:=Bk.new w #[.bool n,.string s];have hb:=(Below.refl w.heap.size w).alloc (Nat.le_refl _) (.cells #[.bool n,.string s] 26);generalize (w.alloc (.cells #[.bool n,.string s] 26))=W0 at *;refine (ymake_any _ n s 0 (by omega) (by omega) true o e HC.out).mono ?_;rintro e' W ⟨rfl,hq⟩;replace hb:=below_next hb hq;clear hq;clear hA;have hX:=Nk.new W true o e;replace hb:=hb.alloc hb.size (.cells #[.bool true,.string o,.int .i64 e] 28);obtain ⟨hX0,hX1,hX2⟩:=hX.cells;go_wp2_with fail;generalize W.alloc (.cells #[.bool true,.string o,.int .i64 e] 28)=W1 at *;generalize W.heap.size=PX at *;clear hX0 hX1 hX2;have hin:(W1.drew.cell? ⟨PX,0,none⟩=some (.bool true)∧W1.drew.cell? ⟨PX,1,none⟩=some (.string o))∧Nk W1.drew PX true o e:=two_cells hX.drew;replace hb:Below w.heap.size w W1.drew:=hb.drew;clear hX
 go_region_held3 (fun w'=>(w'.cell? ⟨PX,0,none⟩=some (.bool true)∧w'.cell? ⟨PX,1,none⟩=some (.string o))∧Nk w' PX true o e)
  (first|assumption|exact two_cells (hin.2.below hq)|exact two_cells (Nk.below (by assumption) hq))
  (first|(go_at_call 25;go_fit (wof_any _ 1 (by decide) (by decide) false ⟨#[1]⟩ (by kernel_rfl));rintro e V1 ⟨rfl,hq⟩;replace hb:=below_next hb hq))
 all_goals
  have hS:(V1.cell? ⟨PX,0,none⟩=some (.bool true)∧V1.cell? ⟨PX,1,none⟩=some (.string o))∧Nk V1 PX true o e:=by first|assumption|exact two_cells (hin.2.below hq)
  obtain ⟨hX0,hX1,hX2⟩:=hS.2.cells;go_wp2;go_ret2;exact ⟨rfl,hb⟩
theorem lslash_no (w:World) (n:Bool) (s:ByteArray) (hs:s.size≤1000) (o:ByteArray) (ho:o≠⟨#[1]⟩) (e:Int) (hd:df (nv n s 0)=nu false o e) :
  Calls Tryz.prog 33 #[.int .i32 47,.agg #[.bool n,.string s]] w (Ret (.tuple #[.int .i64 0,.int .i64 1]) w):=by
 have hx:=df_exp hd hs;have HC:=Lib.hid hd;clear hd;have b1:(o.toList == (⟨#[1]⟩:ByteArray).toList)=false:=lists_ne ho;have b2:(o.toList == [1])=false:=by rw [← b1,ByteArray.toList_eq ⟨#[1]⟩]
 clear ho;go_enter Tryz.func33,Tryz.ntmps33;go_wp2_with fail;have hA:=Bk.new w #[.bool n,.string s];have hb:=(Below.refl w.heap.size w).alloc (Nat.le_refl _) (.cells #[.bool n,.string s] 26);generalize (w.alloc (.cells #[.bool n,.string s] 26))=W0 at *;refine (ymake_any _ n s 0 (by omega) (by omega) false o e HC.out).mono ?_;rintro e' W ⟨rfl,hq⟩;replace hb:=below_next hb hq;clear hq;clear hA;have hX:=Nk.new W false o e;replace hb:=hb.alloc hb.size (.cells #[.bool false,.string o,.int .i64 e] 28);obtain ⟨hX0,hX1,hX2⟩:=hX.cells;go_wp2_with fail;generalize W.alloc (.cells #[.bool false,.string o,.int .i64 e] 28)=W1 at *;generalize W.heap.size=PX at *;clear hX0 hX1 hX2;have hin:(W1.drew.cell? ⟨PX,0,none⟩=some (.bool false)∧W1.drew.cell? ⟨PX,1,none⟩=some (.string o))∧Nk W1.drew PX false o e:=two_cells hX.drew;replace hb:Below w.heap.size w W1.drew:=hb.drew;clear hX
 go_region_held3 (fun w'=>(w'.cell? ⟨PX,0,none⟩=some (.bool false)∧w'.cell? ⟨PX,1,none⟩=some (.string o))∧Nk w' PX false o e)
  (first|assumption|exact two_cells (hin.2.below hq)|exact two_cells (Nk.below (by assumption) hq))
  (first|(go_at_call 25;go_fit (wof_any _ 1 (by decide) (by decide) false ⟨#[1]⟩ (by kernel_rfl));rintro e V1 ⟨rfl,hq⟩;replace hb:=below_next hb hq))
 all_goals
  have hS:(V1.cell? ⟨PX,0,none⟩=some (.bool false)∧V1.cell? ⟨PX,1,none⟩=some (.string o))∧Nk V1 PX false o e:=by first|assumption|exact two_cells (hin.2.below hq)
  obtain ⟨hX0,hX1,hX2⟩:=hS.2.cells;go_wp2;go_ret2;exact ⟨rfl,hb⟩
theorem lpow_any (w:World) (n:Bool) (s:ByteArray) (hs:s.size≤1000) (v c:Int) (hv:(-32768≤wv n s∧wv n s≤32768∧v=wv n s∧c=0)∨(¬ (-32768≤wv n s∧wv n s≤32768)∧v=0∧c=3)) :
  Calls Tryz.prog 33 #[.int .i32 112,.agg #[.bool n,.string s]] w (Ret (.tuple #[.int .i64 v,.int .i64 c]) w):=by
 obtain ⟨x,hx⟩:∃ x,smallI (wv n s)=x:=⟨_,rfl⟩;obtain ⟨ok,ho⟩:∃ ok,isSmall (wv n s)=ok:=⟨_,rfl⟩;have hcase:(ok=true∧-32768≤x∧x≤32768∧v=x∧c=0)∨(ok=false∧v=0∧c=3)∨(ok=true∧x < -32768∧v=0∧c=3)∨(ok=true∧32768<x∧v=0∧c=3):=by
  unfold smallI at hx;unfold isSmall at ho
  by_cases h:-9223372036854775808≤wv n s∧wv n s≤9223372036854775807
  ·rw [if_pos h] at hx;rw [decide_eq_true h] at ho;subst hx;subst ho
   rcases hv with ⟨h1,h2,h3,h4⟩|⟨h1,h3,h4⟩
   ·exact .inl ⟨rfl,h1,h2,h3,h4⟩
   ·by_cases h2:wv n s < -32768
    ·exact .inr (.inr (.inl ⟨rfl,h2,h3,h4⟩))
    ·exact .inr (.inr (.inr ⟨rfl,by omega,h3,h4⟩))
  ·rw [decide_eq_false h] at ho
   rcases hv with ⟨h1,h2,h3,h4⟩|⟨h1,h3,h4⟩
   ·exact absurd (And.intro (show -9223372036854775808≤wv n s by omega) (show wv n s≤9223372036854775807 by omega)) h
   ·exact .inr (.inl ⟨ho.symm,h3,h4⟩)
 have HC:=Lib.hid (And.intro hx ho);clear hx ho hv;go_enter Tryz.func33,Tryz.ntmps33;go_wp2_with fail;have hA:=Bk.new w #[.bool n,.string s];have hb:=(Below.refl w.heap.size w).alloc (Nat.le_refl _) (.cells #[.bool n,.string s] 26);generalize (w.alloc (.cells #[.bool n,.string s] 26))=W0 at *;refine (wsmall_any _ n s (by omega) x ok HC.out.1 HC.out.2).mono ?_;rintro e' W ⟨rfl,hq⟩;replace hb:=below_next hb hq;clear hq;clear hA
 rcases hcase with ⟨rfl,h1,h2,rfl,rfl⟩|⟨rfl,rfl,rfl⟩|⟨rfl,h1,rfl,rfl⟩|⟨rfl,h1,rfl,rfl⟩
 ·have a1:decide (v < -32768)=false:=decide_eq_false (by omega);have a2:decide (32768<v)=false:=decide_eq_false (by omega);go_wp2;go_ret2;exact ⟨rfl,hb⟩
 ·go_wp2;go_ret2;exact ⟨rfl,hb⟩
 ·have a1:decide (x < -32768)=true:=decide_eq_true h1;go_wp2;go_ret2;exact ⟨rfl,hb⟩
 ·have a1:decide (x < -32768)=false:=decide_eq_false (by omega);have a2:decide (32768<x)=true:=decide_eq_true h1;go_wp2;go_ret2;exact ⟨rfl,hb⟩
theorem ext_size (s:ByteArray) (i:Nat) (j:Nat) (h:j≤s.size):(s.extract i j).size=j-i:=by
 rw [ByteArray.size_extract];omega
theorem results_ntt {fn:Func} {p u u' : Tmp} {tmps:Array Value} {W:World} {r:Nat} {m:Bool} {s:ByteArray} {e:Int} {v v' : Value} (h:fn.results=#[.cell p 28,.tmp u,.tmp u']) (hp:tmps.getD p undef=.pointer (some ⟨r,0,none⟩)) (hu:tmps.getD u undef=v) (hv:tmps.getD u' undef=v')
  (h1:Nk W r m s e):(results fn tmps).run Tryz.prog W=.ok (.tuple #[.agg #[.bool m,.string s,.int .i64 e],v,v']) W:=by
 have hp' : tmps[p]?.getD undef=.pointer (some ⟨r,0,none⟩):=by simpa using hp
 have hu' : tmps[u]?.getD undef=v:=by simpa using hu
 have hv' : tmps[u']?.getD undef=v':=by simpa using hv
 have e1:=run_loadVar_row (P:=Tryz.prog) W r _ 28 _ _ _ h1 Tryz.underlying28 rfl infoN;simp [results,h,hp',hu',hv',asAddr,e1]
theorem ret_ntt {fn:Func} {p u u' : Tmp} {tmps:Array Value} {W:World} {r:Nat} {m:Bool} {s:ByteArray} {e:Int} {v v' : Value} {Q:Ending→World→Prop} (h:fn.results=#[.cell p 28,.tmp u,.tmp u']) (hp:tmps.getD p undef=.pointer (some ⟨r,0,none⟩)) (hu:tmps.getD u undef=v) (hv:tmps.getD u' undef=v')
  (h1:Nk W r m s e) (hQ:Q (.returned (.tuple #[.agg #[.bool m,.string s,.int .i64 e],v,v'])) W):bodyPost Tryz.prog fn Q Exit.ret {tmps:=tmps,defers:=[] } W:=
 bodyPost_ret (results_ntt h hp hu hv h1) rfl hQ
theorem lparse_any (w:World) (s:ByteArray) (hs:s.size≤200) :
  Calls Tryz.prog 16 #[.string s] w (fun e' w'=>∃ (k:Nat) (r:Int) (z:Bool) (o:ByteArray) (x p c:Int),e'=.returned (.tuple #[.agg #[.bool z,.string o,.int .i64 x],.int .i64 p,.int .i64 c])∧PartOk s k r∧LitAt s.data.toList k r z o x p c∧Below w.heap.size w w'):=by
 have hsl:s.data.toList.length=s.size:=rfl;go_enter Tryz.func16,Tryz.ntmps16;go_wp2_with fail;have hR:=Nk.new w false ⟨#[]⟩ 0;have hb:=(Below.refl w.heap.size w).alloc (Nat.le_refl _) (.cells #[.bool false,.string ⟨#[]⟩,.int .i64 0] 28);generalize w.alloc (.cells #[.bool false,.string ⟨#[]⟩,.int .i64 0] 28)=W0 at *;refine (parting_any _ s (by omega)).mono ?_;rintro e' W ⟨k,r,rfl,hP,hq⟩;replace hb:=below_next hb hq;replace hR:=hR.below hq;clear hq;have hk:=hP.1;have i1:(0:Int)≤(k:Int):=by omega
 have i2:(k:Int)≤(s.size:Int):=by omega
 obtain ⟨H,hH⟩:∃ H,s.extract 0 k=H:=⟨_,rfl⟩;have hHs:H.size=k:=by rw [← hH,ext_size s 0 k hk];omega
 have hHl:H.data.toList=s.data.toList.take k:=by rw [← hH,head_text]
 cases hb1:isBad (s.data.toList.take k) with
 | true =>
  obtain ⟨q,hq1⟩:∃ q,badPlace H.data.toList=q:=⟨_,rfl⟩;have HC:=Lib.hid (And.intro hP (And.intro hb1 (And.intro hHl (And.intro hq1 (show isBad H.data.toList=true by rw [hHl];exact hb1)))));clear hP hb1 hHl hq1;go_wp2_with fail;refine (parse_bad _ H (by omega) q HC.out.2.2.2.1 HC.out.2.2.2.2).mono ?_;rintro e' W1 ⟨rfl,hq⟩;replace hb:=below_next hb hq;replace hR:=hR.below hq;clear hq;replace hR:=hR.alloc (.cells #[.bool false,.string ⟨#[]⟩] 26);replace hb:=hb.alloc hb.size (.cells #[.bool false,.string ⟨#[]⟩] 26);obtain ⟨hR0,hR1,hR2,hR3,hR4,hR5⟩:=hR.facts;go_wp2
  try simp only [Exit.inBlock,Exit.then]
  show bodyPost _ _ _ _ _ _;refine ret_ntt rfl rfl rfl rfl (hR.set3 _ _ _) ?_;exact ⟨k,r,_,_,_,_,_,rfl,HC.out.1,.inl ⟨HC.out.2.1,rfl,rfl,rfl,by rw [← HC.out.2.2.1,HC.out.2.2.2.1],rfl⟩,below_set3 hb (Nat.le_refl _) _ _ _ _ _ _⟩
 | false =>
  have hex:k=partAt s.data.toList∧r=partR s.data.toList:=by
   rcases hP.2 with h|h
   ·exact h
   ·rw [bad_high hk h] at hb1
    cases hb1
  obtain ⟨zm,om,km,vm,sm⟩:=tV_named (q:=200) hb1 (by rw [List.length_take];omega);have hg1:isBad H.data.toList=false:=by rw [hHl];exact hb1
  have km1:wf (tV H.data.toList)=wi zm om:=by rw [hHl];exact km
  have HC:=Lib.hid (And.intro hP (And.intro hb1 (And.intro hHl (And.intro hg1 (And.intro km1 (And.intro vm hex))))));clear hP hb1 hHl hg1 km km1 vm hex;go_wp2_with fail;refine (parse_good _ H (by omega) HC.out.2.2.2.1 zm om HC.out.2.2.2.2.1).mono ?_;rintro e' W1 ⟨rfl,hq⟩;replace hb:=below_next hb hq;replace hR:=hR.below hq;clear hq;have hM:=Bk.new W1 #[.bool zm,.string om];replace hR:=hR.alloc (.cells #[.bool zm,.string om] 26);replace hb:=hb.alloc hb.size (.cells #[.bool zm,.string om] 26);obtain ⟨hM0,hM1⟩:=hM.cells
  by_cases hend:k=s.size
  ·have d1:((k:Int) == (s.size:Int))=true:=by rw [beq_iff_eq];omega
   obtain ⟨z,o,x,kx⟩:=df_some (dI (wv zm om) 0);have HE:=Lib.hid (And.intro kx hend);clear kx hend;go_wp2_with fail;generalize W1.alloc (.cells #[.bool zm,.string om] 26)=W2 at *;generalize W1.heap.size=PM at *;clear hM0 hM1;refine (ymake_any _ zm om 0 (by omega) (by omega) z o x HE.out.1).mono ?_;rintro e' W3 ⟨rfl,hq⟩;replace hb:=below_next hb hq;replace hR:=hR.below hq;clear hq;obtain ⟨hR0,hR1,hR2,hR3,hR4,hR5⟩:=hR.facts;go_wp2
   try simp only [Exit.inBlock,Exit.then]
   show bodyPost _ _ _ _ _ _;refine ret_ntt rfl rfl rfl rfl (hR.set3 _ _ _) ?_;exact ⟨k,r,_,_,_,_,_,rfl,HC.out.1,.inr ⟨HC.out.2.1,.inl ⟨HE.out.2,by rw [← HC.out.2.2.2.2.2.1];exact HE.out.1,rfl,rfl⟩⟩,below_set3 hb (Nat.le_refl _) _ _ _ _ _ _⟩
  ·have d1:((k:Int) == (s.size:Int))=false:=by rw [beq_eq_false_iff_ne];omega
   have hkl:k<s.size:=by omega
   have hw:IntKind.i64.wrap ((k:Int)+1)=((k+1:Nat):Int):=by rw [IntKind.wrap_i64];omega
   have i3:(0:Int)≤((k+1:Nat):Int):=by omega
   have i4:((k+1:Nat):Int)≤(s.size:Int):=by omega
   obtain ⟨T,hT⟩:∃ T,s.extract (k+1) s.size=T:=⟨_,rfl⟩;have hTs:T.size=s.size-(k+1):=by rw [← hT,ext_size s (k+1) s.size (Nat.le_refl _)]
   have hTl:T.data.toList=s.data.toList.drop (k+1):=by rw [← hT,tail_text]
   clear hend
   cases hb2:isBad (s.data.toList.drop (k+1)) with
   | true =>
    obtain ⟨q,hq1⟩:∃ q,badPlace T.data.toList=q:=⟨_,rfl⟩;have hq2:q≤200:=by rw [← hq1];exact Nat.le_trans (badPlace_le _) (show T.size≤200 by omega)
    have HE:=Lib.hid (And.intro hb2 (And.intro hTl (And.intro hq1 (show isBad T.data.toList=true by rw [hTl];exact hb2))));clear hb2 hTl hq1;go_wp2_with fail;generalize W1.alloc (.cells #[.bool zm,.string om] 26)=W2 at *;generalize W1.heap.size=PM at *;clear hM0 hM1;refine (parse_bad _ T (by omega) q HE.out.2.2.1 HE.out.2.2.2).mono ?_;rintro e' W3 ⟨rfl,hq⟩;replace hb:=below_next hb hq;replace hR:=hR.below hq;clear hq hM;replace hR:=hR.alloc (.cells #[.bool false,.string ⟨#[]⟩] 26);replace hb:=hb.alloc hb.size (.cells #[.bool false,.string ⟨#[]⟩] 26);obtain ⟨hR0,hR1,hR2,hR3,hR4,hR5⟩:=hR.facts;go_wp2
    try simp only [Exit.inBlock,Exit.then]
    show bodyPost _ _ _ _ _ _;refine ret_ntt rfl rfl rfl rfl (hR.set3 _ _ _) ?_;exact ⟨k,r,_,_,_,_,_,rfl,HC.out.1,.inr ⟨HC.out.2.1,.inr ⟨by omega,.inl ⟨HE.out.1,rfl,rfl,rfl,by rw [← HE.out.2.1,HE.out.2.2.1],rfl⟩⟩⟩,below_set3 hb (Nat.le_refl _) _ _ _ _ _ _⟩
   | false =>
    obtain ⟨zn,on,kn,vn,sn⟩:=tV_named (q:=200) hb2 (by rw [List.length_drop];omega);have hg2:isBad T.data.toList=false:=by rw [hTl];exact hb2
    have kn1:wf (tV T.data.toList)=wi zn on:=by rw [hTl];exact kn
    have hrr:r=112∨r=47:=by rw [HC.out.2.2.2.2.2.2.2];exact partR_sep (by rw [← HC.out.2.2.2.2.2.2.1];exact hkl)
    have HE:=Lib.hid (And.intro hb2 (And.intro hTl (And.intro hg2 (And.intro kn1 vn))));clear hb2 hTl hg2 kn kn1 vn;go_wp2_with fail;generalize W1.alloc (.cells #[.bool zm,.string om] 26)=W2 at *;generalize W1.heap.size=PM at *;clear hM0 hM1;refine (parse_good _ T (by omega) HE.out.2.2.1 zn on HE.out.2.2.2.1).mono ?_;rintro e' W3 ⟨rfl,hq⟩;replace hb:=below_next hb hq;replace hR:=hR.below hq;replace hM:=hM.below hq;clear hq;have hN:=Bk.new W3 #[.bool zn,.string on];replace hR:=hR.alloc (.cells #[.bool zn,.string on] 26);replace hM:=hM.alloc (.cells #[.bool zn,.string on] 26);replace hb:=hb.alloc hb.size (.cells #[.bool zn,.string on] 26);obtain ⟨hN0,hN1⟩:=hN.cells
    rcases hrr with rfl|rfl
    ·go_wp2_with fail;obtain ⟨V,hV⟩:∃ V,wv zn on=V:=⟨_,rfl⟩;have hVt:tV (s.data.toList.drop (k+1))=V:=by rw [← HE.out.2.2.2.2];exact hV
     have hmt:=HC.out.2.2.2.2.2.1
     by_cases hran:-32768≤V∧V≤32768
     ·obtain ⟨z,o,x,kx⟩:=df_some (dI (wv zm om) V);have HF:=Lib.hid (And.intro kx (And.intro hVt (And.intro hmt hV)));clear kx hVt hmt hV;refine (lpow_any _ zn on (by omega) V 0 (.inl ⟨by rw [HF.out.2.2.2];exact hran.1,by rw [HF.out.2.2.2];exact hran.2,HF.out.2.2.2.symm,rfl⟩)).mono ?_;rintro e' W4 ⟨rfl,hq⟩;replace hb:=below_next hb hq;replace hR:=hR.below hq;replace hM:=hM.below hq;clear hq hN hN0 hN1;obtain ⟨hM0,hM1⟩:=hM.cells;go_wp2_with fail;refine (ymake_any _ zm om V (by omega) (by omega) z o x HF.out.1).mono ?_;rintro e' W5 ⟨rfl,hq⟩;replace hb:=below_next hb hq;replace hR:=hR.below hq;clear hq hM hM0 hM1;obtain ⟨hR0,hR1,hR2,hR3,hR4,hR5⟩:=hR.facts;go_wp2
      try simp only [Exit.inBlock,Exit.then]
      show bodyPost _ _ _ _ _ _;refine ret_ntt rfl rfl rfl rfl (hR.set3 _ _ _) ?_;exact ⟨k,_,_,_,_,_,_,rfl,HC.out.1,.inr ⟨HC.out.2.1,.inr ⟨by omega,.inr ⟨HE.out.1,.inr (.inr (.inl ⟨rfl,by rw [HF.out.2.1];exact hran,by rw [HF.out.2.1,← HF.out.2.2.1];exact HF.out.1,rfl,rfl⟩))⟩⟩⟩,below_set3 hb (Nat.le_refl _) _ _ _ _ _ _⟩
     ·have HF:=Lib.hid (And.intro hVt (And.intro hV hran));clear hVt hmt hV hran;refine (lpow_any _ zn on (by omega) 0 3 (.inr ⟨by rw [HF.out.2.1];exact HF.out.2.2,rfl,rfl⟩)).mono ?_;rintro e' W4 ⟨rfl,hq⟩;replace hb:=below_next hb hq;replace hR:=hR.below hq;clear hq hN hN0 hN1 hM;obtain ⟨hR0,hR1,hR2,hR3,hR4,hR5⟩:=hR.facts;go_wp2
      try simp only [Exit.inBlock,Exit.then]
      show bodyPost _ _ _ _ _ _;refine ret_ntt rfl rfl rfl rfl (hR.set3 _ _ _) ?_;exact ⟨k,_,_,_,_,_,_,rfl,HC.out.1,.inr ⟨HC.out.2.1,.inr ⟨by omega,.inr ⟨HE.out.1,.inr (.inr (.inr ⟨rfl,by rw [HF.out.1];exact HF.out.2.2,rfl,rfl,rfl,rfl,rfl⟩))⟩⟩⟩,below_set3 hb (Nat.le_refl _) _ _ _ _ _ _⟩
    ·go_wp2_with fail;obtain ⟨m1,o1,e1,k1⟩:=df_some (nv zn on 0);have hx1:=df_exp k1 sn;have hkt:df (dI (tV (s.data.toList.drop (k+1))) 0)=nu m1 o1 e1:=by rw [← HE.out.2.2.2.2];exact k1
     have hmt:=HC.out.2.2.2.2.2.1
     cases m1 with
     | true =>
      have HF:=Lib.hid (And.intro k1 hkt);clear k1 hkt hmt;refine (lslash_neg _ zn on (by omega) o1 e1 HF.out.1).mono ?_;rintro e' W4 ⟨rfl,hq⟩;replace hb:=below_next hb hq;replace hR:=hR.below hq;clear hq hN hN0 hN1 hM;obtain ⟨hR0,hR1,hR2,hR3,hR4,hR5⟩:=hR.facts;go_wp2
      try simp only [Exit.inBlock,Exit.then]
      show bodyPost _ _ _ _ _ _;refine ret_ntt rfl rfl rfl rfl (hR.set3 _ _ _) ?_;exact ⟨k,_,_,_,_,_,_,rfl,HC.out.1,.inr ⟨HC.out.2.1,.inr ⟨by omega,.inr ⟨HE.out.1,.inr (.inl ⟨rfl,(fun e' h=>by have:=(nu_inj (HF.out.2.symm.trans h)).1;cases this),rfl,rfl,rfl,rfl,rfl⟩)⟩⟩⟩,below_set3 hb (Nat.le_refl _) _ _ _ _ _ _⟩
     | false =>
      by_cases ho:o1=⟨#[1]⟩
      ·subst ho;obtain ⟨z,o,x,kx⟩:=df_some (dI (wv zm om) (-e1));have HF:=Lib.hid (And.intro kx (And.intro hkt (And.intro hmt k1)));clear kx hkt hmt k1;refine (lslash_yes _ zn on (by omega) e1 HF.out.2.2.2).mono ?_;rintro e' W4 ⟨rfl,hq⟩;replace hb:=below_next hb hq;replace hR:=hR.below hq;replace hM:=hM.below hq;clear hq hN hN0 hN1;obtain ⟨hM0,hM1⟩:=hM.cells;go_wp2_with fail;refine (ymake_any _ zm om (-e1) (by omega) (by omega) z o x HF.out.1).mono ?_;rintro e' W5 ⟨rfl,hq⟩;replace hb:=below_next hb hq;replace hR:=hR.below hq;clear hq hM hM0 hM1;obtain ⟨hR0,hR1,hR2,hR3,hR4,hR5⟩:=hR.facts;go_wp2
       try simp only [Exit.inBlock,Exit.then]
       show bodyPost _ _ _ _ _ _;refine ret_ntt rfl rfl rfl rfl (hR.set3 _ _ _) ?_;exact ⟨k,_,_,_,_,_,_,rfl,HC.out.1,.inr ⟨HC.out.2.1,.inr ⟨by omega,.inr ⟨HE.out.1,.inl ⟨rfl,⟨e1,HF.out.2.1,by rw [← HF.out.2.2.1];exact HF.out.1⟩,rfl,rfl⟩⟩⟩⟩,below_set3 hb (Nat.le_refl _) _ _ _ _ _ _⟩
      ·have HF:=Lib.hid (And.intro k1 (And.intro hkt ho));clear k1 hkt hmt ho;refine (lslash_no _ zn on (by omega) o1 HF.out.2.2 e1 HF.out.1).mono ?_;rintro e' W4 ⟨rfl,hq⟩;replace hb:=below_next hb hq;replace hR:=hR.below hq;clear hq hN hN0 hN1 hM;obtain ⟨hR0,hR1,hR2,hR3,hR4,hR5⟩:=hR.facts;go_wp2
       try simp only [Exit.inBlock,Exit.then]
       show bodyPost _ _ _ _ _ _;refine ret_ntt rfl rfl rfl rfl (hR.set3 _ _ _) ?_;exact ⟨k,_,_,_,_,_,_,rfl,HC.out.1,.inr ⟨HC.out.2.1,.inr ⟨by omega,.inr ⟨HE.out.1,.inr (.inl ⟨rfl,(fun e' h=>HF.out.2.2 (nu_inj (HF.out.2.1.symm.trans h)).2.1),rfl,rfl,rfl,rfl,rfl⟩)⟩⟩⟩,below_set3 hb (Nat.le_refl _) _ _ _ _ _ _⟩
end Go.Proofs.YtiddgplapodleaaGreatDoor
