/- Package box: closures, Form, Mid, widths; walked. -/
import Derived.Test.YtlmckjodahbgbaaGreatDoorBX1
import Derived.Deep.CutBlock
namespace Go.Proofs.YtlmckjodahbgbaaGreatDoor
set_option maxRecDepth 100000
set_option maxHeartbeats 1600000
open Go.RowKit Go.Shelf
theorem goes_bform1 (aa:Array Value) (W:World):Sem.run Tryz.prog (callFunc 46 aa) W=.ok (.enter 46 aa) W:=by kernel_rfl
theorem goes_bmid1 (aa:Array Value) (W:World):Sem.run Tryz.prog (callFunc 64 aa) W=.ok (.enter 64 aa) W:=by kernel_rfl
theorem goes_bwid1 (aa:Array Value) (W:World):Sem.run Tryz.prog (callFunc 100 aa) W=.ok (.enter 100 aa) W:=by kernel_rfl
theorem goes_shas (aa:Array Value) (W:World):Sem.run Tryz.prog (callFunc 52 aa) W=.ok (.enter 52 aa) W:=by kernel_rfl
theorem goes_swithin (aa:Array Value) (W:World):Sem.run Tryz.prog (callFunc 55 aa) W=.ok (.enter 55 aa) W:=by kernel_rfl
theorem goes_bcheck1 (aa:Array Value) (W:World):Sem.run Tryz.prog (callFunc 47 aa) W=.ok (.enter 47 aa) W:=by kernel_rfl
theorem bform1_any (w:World) (i:Int) (x:SV):Calls Tryz.prog 46 (#[.int .i64 i,sagg x]++#[]) w (Ret (sagg x) w):=by
 obtain ⟨⟨m,s,d⟩,n,t,e⟩:=x;show Calls Tryz.prog 46 #[.int .i64 i,.agg #[.bool m,.string s,.int .i64 d,.bool n,.string t,.int .i64 e]] w (Ret (.agg #[.bool m,.string s,.int .i64 d,.bool n,.string t,.int .i64 e]) w);go_enter Tryz.func46,Tryz.ntmps46
 go_upto_region 1 with fail
 have hA:=Sk.new w 60 m s d n t e;have hb:=(Below.refl w.heap.size w).alloc (Nat.le_refl _) (.cells #[.bool m,.string s,.int .i64 d,.bool n,.string t,.int .i64 e] 60);have hR:=Sk.new ((w.alloc (.cells #[.bool m,.string s,.int .i64 d,.bool n,.string t,.int .i64 e] 60))) 60 false ⟨#[]⟩ 0 false ⟨#[]⟩ 0;simp only [World.size_alloc] at hR;replace hA:=hA.alloc (.cells #[.bool false,.string ⟨#[]⟩,.int .i64 0,.bool false,.string ⟨#[]⟩,.int .i64 0] 60);replace hb:=hb.alloc (by simp only [World.size_alloc];omega) (.cells #[.bool false,.string ⟨#[]⟩,.int .i64 0,.bool false,.string ⟨#[]⟩,.int .i64 0] 60);generalize ((w.alloc (.cells #[.bool m,.string s,.int .i64 d,.bool n,.string t,.int .i64 e] 60)).alloc (.cells #[.bool false,.string ⟨#[]⟩,.int .i64 0,.bool false,.string ⟨#[]⟩,.int .i64 0] 60))=W0 at *;obtain ⟨hA0,hA1,hA2,hA3,hA4,hA5⟩:=hA.cells;obtain ⟨hR0,hR1,hR2,hR3,hR4,hR5,hR6,hR7,hR8,hR9,hR10,hR11⟩:=hR.facts;go_wp2;exact ret_span rfl rfl (hR.set6 _ _ _ _ _ _) ⟨rfl,below_set6 hb (by omega) _ _ _ _ _ _⟩
theorem bmid1_any (w:World) (i:Int) (x:SV) (h:O3 x):Calls Tryz.prog 64 (#[.int .i64 i,sagg x]++#[]) w (Ret (nagg (canonN (mS x))) w):=by
 have hc:=fun W=>c_mid W x h;clear h;generalize (canonN (mS x))=y at *;obtain ⟨⟨m,s,d⟩,n,t,e⟩:=x;obtain ⟨m3,s3,d3⟩:=y;replace hc:∀ W,Calls Tryz.prog 65 #[.agg #[.bool m,.string s,.int .i64 d,.bool n,.string t,.int .i64 e]] W (Ret (.agg #[.bool m3,.string s3,.int .i64 d3]) W):=hc;show Calls Tryz.prog 64 #[.int .i64 i,.agg #[.bool m,.string s,.int .i64 d,.bool n,.string t,.int .i64 e]] w (Ret (.agg #[.bool m3,.string s3,.int .i64 d3]) w);go_enter Tryz.func64,Tryz.ntmps64;go_wp2_with fail;have hA:=Sk.new w 60 m s d n t e;have hb:=(Below.refl w.heap.size w).alloc (Nat.le_refl _) (.cells #[.bool m,.string s,.int .i64 d,.bool n,.string t,.int .i64 e] 60);have hR:=Nk.new ((w.alloc (.cells #[.bool m,.string s,.int .i64 d,.bool n,.string t,.int .i64 e] 60))) false ⟨#[]⟩ 0;simp only [World.size_alloc] at hR;replace hA:=hA.alloc (.cells #[.bool false,.string ⟨#[]⟩,.int .i64 0] 36);replace hb:=hb.alloc (by simp only [World.size_alloc];omega) (.cells #[.bool false,.string ⟨#[]⟩,.int .i64 0] 36);generalize ((w.alloc (.cells #[.bool m,.string s,.int .i64 d,.bool n,.string t,.int .i64 e] 60)).alloc (.cells #[.bool false,.string ⟨#[]⟩,.int .i64 0] 36))=W0 at *;refine (hc _).mono ?_;rintro e' W ⟨rfl,hq⟩;replace hb:=below_next hb hq;replace hR:=hR.below hq;clear hq;obtain ⟨hR0,hR1,hR2,hR3,hR4,hR5⟩:=hR.facts;go_wp2;exact ret_num rfl rfl (hR.set3 _ _ _) ⟨rfl,below_set3 hb (by omega) _ _ _ _ _ _⟩
theorem bwid1_any (w:World) (i:Int) (x:SV) (h:O3 x):Calls Tryz.prog 100 (#[.int .i64 i,sagg x]++#[]) w (Ret (nagg (canonN (wS x))) w):=by
 have hc:=fun W=>c_width W x h;clear h;generalize (canonN (wS x))=y at *;obtain ⟨⟨m,s,d⟩,n,t,e⟩:=x;obtain ⟨m3,s3,d3⟩:=y;replace hc:∀ W,Calls Tryz.prog 39 #[.agg #[.bool m,.string s,.int .i64 d,.bool n,.string t,.int .i64 e]] W (Ret (.agg #[.bool m3,.string s3,.int .i64 d3]) W):=hc;show Calls Tryz.prog 100 #[.int .i64 i,.agg #[.bool m,.string s,.int .i64 d,.bool n,.string t,.int .i64 e]] w (Ret (.agg #[.bool m3,.string s3,.int .i64 d3]) w);go_enter Tryz.func100,Tryz.ntmps100;go_wp2_with fail;have hA:=Sk.new w 60 m s d n t e;have hb:=(Below.refl w.heap.size w).alloc (Nat.le_refl _) (.cells #[.bool m,.string s,.int .i64 d,.bool n,.string t,.int .i64 e] 60);have hR:=Nk.new ((w.alloc (.cells #[.bool m,.string s,.int .i64 d,.bool n,.string t,.int .i64 e] 60))) false ⟨#[]⟩ 0;simp only [World.size_alloc] at hR;replace hA:=hA.alloc (.cells #[.bool false,.string ⟨#[]⟩,.int .i64 0] 36);replace hb:=hb.alloc (by simp only [World.size_alloc];omega) (.cells #[.bool false,.string ⟨#[]⟩,.int .i64 0] 36);generalize ((w.alloc (.cells #[.bool m,.string s,.int .i64 d,.bool n,.string t,.int .i64 e] 60)).alloc (.cells #[.bool false,.string ⟨#[]⟩,.int .i64 0] 36))=W0 at *;refine (hc _).mono ?_;rintro e' W ⟨rfl,hq⟩;replace hb:=below_next hb hq;replace hR:=hR.below hq;clear hq;obtain ⟨hR0,hR1,hR2,hR3,hR4,hR5⟩:=hR.facts;go_wp2;exact ret_num rfl rfl (hR.set3 _ _ _) ⟨rfl,below_set3 hb (by omega) _ _ _ _ _ _⟩
theorem O2.form {x:SV} (h:O2 x):O3 (fS x):=by
 have h1:∀ y:NV,Ok2 y.2.1 y.2.2→Ok3 (canonN (nvl y)).2.1 (canonN (nvl y)).2.2:=fun y k=>Ok2.form (m:=y.1) k (canonN_df _)
 constructor
 ·show Ok3 (canonN (loS x)).2.1 (canonN (loS x)).2.2
  rcases (dlo_spec (nvl x.1) (nvl x.2)).2.2 with e|e <;> unfold loS <;> rw [e]
  ·exact h1 _ h.1
  ·exact h1 _ h.2
 ·show Ok3 (canonN (hiS x)).2.1 (canonN (hiS x)).2.2
  rcases (dhi_spec (nvl x.1) (nvl x.2)).2.2 with e|e <;> unfold hiS <;> rw [e]
  ·exact h1 _ h.1
  ·exact h1 _ h.2
section
variable (w : World) (ad : Option Addr) (l : List SV) (n c : Nat) (hn : l.length = n) (hmax : n ≤ 1000) (hl : SAt w ad l) (hs : ∀ x ∈ l,O2 x)
include hn hmax hl hs
theorem bform_any:Calls Tryz.prog 11 #[.slice ad n c] w (RowN w (flat (l.map fS)) n):=by
 have hc:=eachS_any w 46 #[] goes_bform1 ad l n c hn hmax hl hs (l.map fS) (by rw [List.length_map,hn]) (fun i h h2 W _=>by rw [List.getElem_map];exact bform1_any W i _);clear hl hs;go_enter Tryz.func11,Tryz.ntmps11;go_wp2_with fail;refine hc.mono ?_;rintro e W ⟨g,rfl,hg,hR,hq⟩;go_wp2;go_ret;exact ⟨g,rfl,hg,hR,hq⟩
theorem bmid_any:Calls Tryz.prog 25 #[.slice ad n c] w (RowN w (l.map fun x=>canonN (mS x)) n):=by
 have hc:=eachN_any w 64 #[] goes_bmid1 ad l n c hn hmax hl hs (l.map fun x=>canonN (mS x)) (by rw [List.length_map,hn]) (fun i h h2 W _=>by rw [List.getElem_map,← mS_fS];exact bmid1_any W i _ (hs _ (List.getElem_mem h)).form);clear hl hs;go_enter Tryz.func25,Tryz.ntmps25;go_wp2_with fail;refine hc.mono ?_;rintro e W ⟨g,rfl,hg,hR,hq⟩;go_wp2;go_ret;exact ⟨g,rfl,hg,hR,hq⟩
theorem bwidths_any:Calls Tryz.prog 56 #[.slice ad n c] w (RowN w (l.map fun x=>canonN (wS x)) n):=by
 have hc:=eachN_any w 100 #[] goes_bwid1 ad l n c hn hmax hl hs (l.map fun x=>canonN (wS x)) (by rw [List.length_map,hn]) (fun i h h2 W _=>by rw [List.getElem_map,← wS_fS];exact bwid1_any W i _ (hs _ (List.getElem_mem h)).form);clear hl hs;go_enter Tryz.func56,Tryz.ntmps56;go_wp2_with fail;refine hc.mono ?_;rintro e W ⟨g,rfl,hg,hR,hq⟩;go_wp2;go_ret;exact ⟨g,rfl,hg,hR,hq⟩
end
end Go.Proofs.YtlmckjodahbgbaaGreatDoor
