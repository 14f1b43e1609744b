/- The statement of BoxPoints: for every input it answers true, and each argument reads as it read before. No condition beyond what the given card says. -/
import Derived.Test.YtlmckjodahbgbaaGreatDoorSR1
import Derived.Test.YtlmckjodahbgbaaGreatDoorBX5
import Derived.Test.YtlmckjodahbgbaaGreatDoorBX8
import Derived.Test.YtlmckjodahbgbaaGreatDoorYR5
import Derived.Test.YtlmckjodahbgbaaGreatDoorBX10
import Derived.Test.YtlmckjodahbgbaaGreatDoorHI
import Derived.Test.YtlmckjodahbgbaaGreatDoorCards
import Derived.Test.YtlmckjodahbgbaaGreatDoorTie
import Derived.ProofKit
import Derived.OpenShut
import Derived.ShutString
import Derived.LaidMore
import Derived.Lay
import Derived.SevenTiedAt
import Derived.Stop.Joined
namespace Go.Proofs.YtlmckjodahbgbaaGreatDoor
set_option maxRecDepth 100000
set_option maxHeartbeats 6400000
open Go.RowKit Go.Shelf
theorem c_rform (w:World) (x:SV) (h:O3 x):Calls Tryz.prog 50 #[sagg x] w (Ret (sagg (fS x)) w):=
 rsform_any w _ _ _ _ _ _ h.1 h.2 _ _ _ (canonN_df _) _ _ _ (canonN_df _)
theorem c_rwidth (w:World) (x:SV) (h:O2 x):Calls Tryz.prog 59 #[sagg x] w (Ret (nagg (canonN (wS x))) w):=
 rswidth_any w _ _ _ _ _ _ h.1 h.2 _ _ _ (canonN_df _)
theorem c_rmid (w:World) (x:SV) (h:O3 x):Calls Tryz.prog 66 #[sagg x] w (Ret (nagg (canonN (mS x))) w):=
 rsmid_any w _ _ _ _ _ _ h.1 h.2 _ _ _ (canonN_df _)
def RowA (w:World) (L:List NV) (n:Nat):Ending→World→Prop:=fun e w'=>∃ od oc,e=.returned (.slice od n oc)∧NAt w' od L∧Below w.heap.size w w'
theorem rbmid_any (w:World) (ad:Option Addr) (l:List SV) (n c:Nat) (hn:l.length=n) (hmax:n≤1000) (hl:SAt w ad l) (hs:∀ x∈l,O3 x) :
  Calls Tryz.prog 26 #[.slice ad n c] w (RowA w (l.map fun x=>canonN (mS x)) n):=by
 obtain ⟨i0,hi,hz0,hsz,hbt⟩:=info_parts infoNz;have HC:=Lib.hid (And.intro hn hs);clear hn hs;go_enter Tryz.func26,Tryz.ntmps26;go_wp2
 go_loopw [3,4] (fun v iv wr=>∃ i:Nat,iv=.int .i64 i∧i≤n∧wr.ownsRow w.heap.size 36 3 v i (ncells ((l.map fun x=>canonN (mS x)).take i))∧Below w.heap.size w wr) (fun _ iv _=>n-(RowKit.intOf iv).toNat)
 case atStart=>exact ⟨0,rfl,Nat.zero_le _,World.ownsRow_nil _ _ _ _,Below.refl _ _⟩
 case round =>
  obtain ⟨i,rfl,hi2,hown,hb⟩:=hrel
  by_cases hik:i<n
  ·have hil:i<l.length:=by rw [HC.out.1];exact hik
   obtain ⟨lb,lo,rfl,hlb,⟨c0,c1,c2⟩,c3,c4,c5⟩:=hl i hil;rw [← hb.cell hlb] at c0 c1 c2 c3 c4 c5;have htk:(l.map fun x=>canonN (mS x)).take (i+1)=(l.map fun x=>canonN (mS x)).take i++[canonN (mS l[i])]:=by
    rw [List.take_succ_eq_append_getElem (by rw [List.length_map];exact hil),List.getElem_map]
   have hc:=fun W=>c_rmid W l[i] (HC.out.2 _ (List.getElem_mem hil));generalize canonN (mS l[i])=y at *;generalize l[i]=x at *;obtain ⟨⟨m1,s1,d1⟩,n1,t1,e1⟩:=x;obtain ⟨m3,s3,d3⟩:=y;simp only at c0 c1 c2 c3 c4 c5;replace hc:∀ W,Calls Tryz.prog 66 #[.agg #[.bool m1,.string s1,.int .i64 d1,.bool n1,.string t1,.int .i64 e1]] W (Ret (.agg #[.bool m3,.string s3,.int .i64 d3]) W):=hc;have HX:=Lib.hid (And.intro hc htk);clear hc htk;go_wp2_with fail;refine (HX.out.1 _).mono ?_;rintro e' V ⟨rfl,hq⟩;replace hb:=below_next hb hq;replace hown:=ownsRow_below hown hq;clear hq c0 c1 c2 c3 c4 c5;have hnew:=NAt.new V 36 [(m3,s3,d3)] _ rfl;have hown2:=hown.alloc (.cells #[.bool m3,.string s3,.int .i64 d3] 36);replace hb:=hb.alloc hb.size (.cells #[.bool m3,.string s3,.int .i64 d3] 36);go_wp2_with (first|(at_builtin;refine wpList_append_nat Tryz.underlying25 hi hz0 hsz hbt rfl (by decide) (by decide) rfl (.tmp 11) (.tmp 17) rfl (m:=1) rfl hown2 hb.size rfl hnew rfl (by omega) ?_));intro v' w' ho hg;rw [← HX.out.2] at ho;replace hb:=grown_own hb hb.size hown2 hg;clear hown hown2 hnew hg HX;go_wp2;exact ⟨⟨i+1,rfl,hik,ho,hb⟩,by simp [RowKit.intOf];omega⟩
  ·obtain rfl:i=n:=by omega
   rw [List.take_of_length_le (by rw [List.length_map,HC.out.1];exact Nat.le_refl _)] at hown;obtain ⟨od,oc,rfl,-,hq⟩:=own_nat (by rw [List.length_map,HC.out.1]) hown;clear hown hl;go_wp2;go_ret;exact ⟨od,oc,rfl,hq,hb⟩
theorem rbcorner_any (w:World) (ad:Option Addr) (l:List SV) (n c:Nat) (hn:l.length=n) (hmax:n≤60) (hl:SAt w ad l) (hs:∀ x∈l,O3 x) (z:Int) (hz:-9223372036854775808≤z∧z≤9223372036854775807) :
  Calls Tryz.prog 28 #[.slice ad n c,.int .i64 z] w (RowA w (l.zipIdx.map fun x=>cornN z.toNat x.2 (fS x.1)) n):=by
 obtain ⟨i0,hi,hz0,hsz,hbt⟩:=info_parts infoNz;obtain ⟨q,hq⟩:∃ q,z.toNat=q:=⟨_,rfl⟩;rw [hq];have hl0:(l.zipIdx.map fun x=>cornN q x.2 (fS x.1)).length=n:=by simp [hn]
 have hget:∀ i (h:i<l.length),(l.zipIdx.map fun x=>cornN q x.2 (fS x.1)).take (i+1)=(l.zipIdx.map fun x=>cornN q x.2 (fS x.1)).take i++[cornN q i (fS l[i])]:=fun i h=>by
  rw [List.take_succ_eq_append_getElem (by simpa using h),List.getElem_map,List.getElem_zipIdx];simp only [Nat.zero_add]
 have HC:=Lib.hid (And.intro hn (And.intro hs (And.intro hl0 hget)));clear hn hs hl0 hget;generalize (l.zipIdx.map fun x=>cornN q x.2 (fS x.1))=O at *;go_enter Tryz.func28,Tryz.ntmps28;go_wp2
 go_loopw [1,5,6] (fun kv v iv wr=>∃ (i:Nat) (ki:Int),kv=.int .i64 ki∧iv=.int .i64 i∧i≤n∧((0<z→ki=((q / 2 ^ i:Nat):Int))∧(z≤0→ki≤0∧-9223372036854775808≤ki))∧wr.ownsRow w.heap.size 36 3 v i (ncells (O.take i))∧Below w.heap.size w wr) (fun _ _ iv _=>n-(RowKit.intOf iv).toNat)
 case atStart=>exact ⟨0,z,rfl,rfl,Nat.zero_le _,⟨fun h=>by simp only [Nat.pow_zero,Nat.div_one];omega,fun h=>⟨h,hz.1⟩⟩,World.ownsRow_nil _ _ _ _,Below.refl _ _⟩
 case round =>
  obtain ⟨i,ki,rfl,rfl,hi2,hki,hown,hb⟩:=hrel
  by_cases hik:i<n
  ·have hil:i<l.length:=by rw [HC.out.1];exact hik
   obtain ⟨lb,lo,rfl,hlb,⟨c0,c1,c2⟩,c3,c4,c5⟩:=hl i hil;rw [← hb.cell hlb] at c0 c1 c2 c3 c4 c5;have htk:=HC.out.2.2.2 i hil;have hc:=fun W=>c_rform W l[i] (HC.out.2.1 _ (List.getElem_mem hil));generalize fS l[i]=y at *;generalize l[i]=x at *;obtain ⟨⟨m1,s1,d1⟩,n1,t1,e1⟩:=x;obtain ⟨⟨m2,s2,d2⟩,n2,t2,e2⟩:=y;simp only at c0 c1 c2 c3 c4 c5;replace hc:∀ W,Calls Tryz.prog 50 #[.agg #[.bool m1,.string s1,.int .i64 d1,.bool n1,.string t1,.int .i64 e1]] W (Ret (.agg #[.bool m2,.string s2,.int .i64 d2,.bool n2,.string t2,.int .i64 e2]) W):=hc;have hnext:(0<z→ki.tdiv 2=((q / 2 ^ (i+1):Nat):Int))∧(z≤0→ki.tdiv 2≤0∧-9223372036854775808≤ki.tdiv 2):=by
    constructor
    ·intro h;rw [hki.1 h,Nat.pow_succ,← Nat.div_div_eq_div_mul];rfl
    ·intro h;have h1:=hki.2 h;have h2:ki.tdiv 2=-((-ki).tdiv 2):=by rw [Int.neg_tdiv,Int.neg_neg]
     have h3:(-ki).tdiv 2=(-ki) / 2:=Int.tdiv_eq_ediv_of_nonneg (by omega);omega
   have hcase:(ki > 0∧(q / 2 ^ i % 2=1↔ki % 2=1))∨(ki≤0∧q / 2 ^ i % 2=0):=by
    by_cases h:0<z
    ·have h1:=hki.1 h;generalize q / 2 ^ i=kk at *
     by_cases h2:kk=0
     ·right
      rw [h2] at h1 ⊢;exact ⟨by omega,rfl⟩
     ·left
      omega
    ·right
     have h1:=hki.2 (by omega);have h2:q=0:=by omega
     rw [h2,Nat.zero_div];exact ⟨h1.1,rfl⟩
   have hbd:-9223372036854775808≤ki.tdiv 2∧ki.tdiv 2≤9223372036854775807:=by
    by_cases h:0<z
    ·have h1:=hnext.1 h;have h2:q / 2 ^ (i+1)≤q:=Nat.div_le_self _ _;rw [h1];generalize q / 2 ^ (i+1)=kk at *;omega
    ·have h1:=hnext.2 (by omega);omega
   have hwr:wrap64 (ki.tdiv 2)=ki.tdiv 2:=by
    unfold wrap64;omega
   have HW:=Lib.hid hwr;have HX:=Lib.hid hc;clear hc hki hbd hwr;go_wp2_with fail;refine (HX.out _).mono ?_;rintro e' V ⟨rfl,hq2⟩;replace hb:=below_next hb hq2;replace hown:=ownsRow_below hown hq2;clear hq2 c0 c1 c2 c3 c4 c5 HX;have hP:=Sk.new V 60 m2 s2 d2 n2 t2 e2;replace hown:=hown.alloc (.cells #[.bool m2,.string s2,.int .i64 d2,.bool n2,.string t2,.int .i64 e2] 60);replace hb:=hb.alloc hb.size (.cells #[.bool m2,.string s2,.int .i64 d2,.bool n2,.string t2,.int .i64 e2] 60)
   go_upto_region 6 with fail
   generalize (V.alloc (.cells #[.bool m2,.string s2,.int .i64 d2,.bool n2,.string t2,.int .i64 e2] 60))=W2 at *;obtain ⟨A0,A1,A2,A3,A4,A5⟩:=hP.cells;have h62:(i:Int)<62:=by omega
   have hsg:True:=trivial
   rcases hcase with ⟨h1,h2⟩|⟨h1,h2⟩
   ·have h3:ki.tmod 2=ki % 2:=Int.tmod_eq_emod_of_nonneg (by omega)
    by_cases hodd:q / 2 ^ i % 2=1
    ·have hcn:cornN q i ((m2,s2,d2),n2,t2,e2)=(n2,t2,e2):=by unfold cornN bitB;rw [decide_eq_true hodd,decide_eq_true (show i<62 by omega)];rfl
     have h4:ki % 2=1:=h2.1 hodd;have h5:ki.tmod 2=1:=by rw [h3];exact h4
     clear h2 hodd h3;rw [hcn] at htk;have HT:=Lib.hid (And.intro htk hnext);clear hcn htk hnext hP hsg;have hnew:=NAt.new W2 36 [(n2,t2,e2)] _ rfl;have hown2:=hown.alloc (.cells #[.bool n2,.string t2,.int .i64 e2] 36);replace hb:=hb.alloc hb.size (.cells #[.bool n2,.string t2,.int .i64 e2] 36);go_wp2_with (first|(at_builtin;refine wpList_append_nat Tryz.underlying25 hi hz0 hsz hbt rfl (by decide) (by decide) rfl (.tmp 30) (.tmp 33) rfl (m:=1) rfl hown2 hb.size rfl hnew rfl (by omega) ?_));intro v' w' ho hg;rw [← HT.out.1] at ho;replace hb:=grown_own hb hb.size hown2 hg;clear hown hown2 hnew hg A0 A1 A2 A3 A4 A5;go_wp2;exact ⟨⟨i+1,wrap64 (ki.tdiv 2),rfl,rfl,hik,by rw [HW.out];exact HT.out.2,ho,hb⟩,by simp [RowKit.intOf];omega⟩
    ·have hcn:cornN q i ((m2,s2,d2),n2,t2,e2)=(m2,s2,d2):=by unfold cornN bitB;rw [decide_eq_false hodd];cases decide (i<62) <;> rfl
     have h4:¬ki % 2=1:=fun h=>hodd (h2.2 h);have h5:¬ki.tmod 2=1:=by rw [h3];exact h4
     clear h2 hodd h3;rw [hcn] at htk;have HT:=Lib.hid (And.intro htk hnext);clear hcn htk hnext hP hsg;have hnew:=NAt.new W2 36 [(m2,s2,d2)] _ rfl;have hown2:=hown.alloc (.cells #[.bool m2,.string s2,.int .i64 d2] 36);replace hb:=hb.alloc hb.size (.cells #[.bool m2,.string s2,.int .i64 d2] 36);go_wp2_with (first|(at_builtin;refine wpList_append_nat Tryz.underlying25 hi hz0 hsz hbt rfl (by decide) (by decide) rfl (.tmp 35) (.tmp 38) rfl (m:=1) rfl hown2 hb.size rfl hnew rfl (by omega) ?_));intro v' w' ho hg;rw [← HT.out.1] at ho;replace hb:=grown_own hb hb.size hown2 hg;clear hown hown2 hnew hg A0 A1 A2 A3 A4 A5;go_wp2;exact ⟨⟨i+1,wrap64 (ki.tdiv 2),rfl,rfl,hik,by rw [HW.out];exact HT.out.2,ho,hb⟩,by simp [RowKit.intOf];omega⟩
   ·have hcn:cornN q i ((m2,s2,d2),n2,t2,e2)=(m2,s2,d2):=by unfold cornN bitB;rw [decide_eq_false (show ¬q / 2 ^ i % 2=1 by omega)];cases decide (i<62) <;> rfl
    have h4:¬0<ki:=by omega
    clear h2;rw [hcn] at htk;have HT:=Lib.hid (And.intro htk hnext);clear hcn htk hnext hP hsg;have hnew:=NAt.new W2 36 [(m2,s2,d2)] _ rfl;have hown2:=hown.alloc (.cells #[.bool m2,.string s2,.int .i64 d2] 36);replace hb:=hb.alloc hb.size (.cells #[.bool m2,.string s2,.int .i64 d2] 36);go_wp2_with (first|(at_builtin;refine wpList_append_nat Tryz.underlying25 hi hz0 hsz hbt rfl (by decide) (by decide) rfl (.tmp 35) (.tmp 38) rfl (m:=1) rfl hown2 hb.size rfl hnew rfl (by omega) ?_));intro v' w' ho hg;rw [← HT.out.1] at ho;replace hb:=grown_own hb hb.size hown2 hg;clear hown hown2 hnew hg A0 A1 A2 A3 A4 A5;go_wp2;exact ⟨⟨i+1,wrap64 (ki.tdiv 2),rfl,rfl,hik,by rw [HW.out];exact HT.out.2,ho,hb⟩,by simp [RowKit.intOf];omega⟩
  ·obtain rfl:i=n:=by omega
   rw [List.take_of_length_le (by rw [HC.out.2.2.1];exact Nat.le_refl _)] at hown;obtain ⟨od,oc,rfl,-,hq2⟩:=own_nat (by rw [HC.out.2.2.1]) hown;clear hown hl hki;go_wp2;go_ret;exact ⟨od,oc,rfl,hq2,hb⟩
end Go.Proofs.YtlmckjodahbgbaaGreatDoor
namespace Go.Proofs.YtlmckjodahbgbaaGreatDoor
set_option maxRecDepth 100000
set_option maxHeartbeats 6400000
open Go.RowKit Go.Shelf
theorem ownsRow_other {w:World} {B size n:Nat} {e:TypeId} {v:Value} {xs:List Value} (h:w.ownsRow B e size v n xs) {b:Nat} (hne:∀ g,v.ownBlock=some g→g≠b) (i:Nat) (u:Value):(w.setCell ⟨b,i,none⟩ u).ownsRow B e size v n xs:=by
 refine ⟨h.1,?_⟩
 rcases h.2 with h2|⟨g,cap,cur,rfl,hB,hg,hrest⟩
 ·exact .inl h2
 ·refine .inr ⟨g,cap,cur,rfl,hB,?_,hrest⟩;rw [Below.heap_setCell _ _ _ _ (show g≠b from hne g rfl)];exact hg
theorem rbplace_any (w:World) (ad:Option Addr) (l:List SV) (n c:Nat) (hn:l.length=n) (hmax:n≤60) (hl:SAt w ad l) (td:Option Addr) (tl:List NV) (n' c' : Nat) (hn' : tl.length=n') (ht:NAt w td tl) {B E:Nat} (hs:∀ x∈l,GS B E x) (hs' : ∀ y∈tl,Gd B E y) (hB:B≤100) (hE:E≤1000) :
  Calls Tryz.prog 30 #[.slice ad n c,.slice td n' c'] w (RowA w (l.zipIdx.map fun x=>placN tl x.2 (fS x.1)) n):=by
 obtain ⟨i0,hi,hz0,hsz,hbt⟩:=info_parts infoNz;have hl0:(l.zipIdx.map fun x=>placN tl x.2 (fS x.1)).length=n:=by simp [hn]
 have hget:∀ i (h:i<l.length),(l.zipIdx.map fun x=>placN tl x.2 (fS x.1)).take (i+1)=(l.zipIdx.map fun x=>placN tl x.2 (fS x.1)).take i++[placN tl i (fS l[i])]:=fun i h=>by
  rw [List.take_succ_eq_append_getElem (by simpa using h),List.getElem_map,List.getElem_zipIdx];simp only [Nat.zero_add]
 have HC:=Lib.hid (And.intro hn (And.intro hs (And.intro hl0 (And.intro hget hs'))));clear hn hs hl0 hget hs';generalize (l.zipIdx.map fun x=>placN tl x.2 (fS x.1))=O at *;go_enter Tryz.func30,Tryz.ntmps30;go_wp2
 go_loopw [5,6] (fun v iv wr=>∃ i:Nat,iv=.int .i64 i∧i≤n∧wr.ownsRow w.heap.size 36 3 v i (ncells (O.take i))∧Below w.heap.size w wr) (fun _ iv _=>n-(RowKit.intOf iv).toNat)
 case atStart=>exact ⟨0,rfl,Nat.zero_le _,World.ownsRow_nil _ _ _ _,Below.refl _ _⟩
 case round =>
  obtain ⟨i,rfl,hi2,hown,hb⟩:=hrel
  by_cases hik:i<n
  ·have hil:i<l.length:=by rw [HC.out.1];exact hik
   have hi9:i+1≤1000000:=by omega
   obtain ⟨lb,lo,rfl,hlb,⟨c0,c1,c2⟩,c3,c4,c5⟩:=hl i hil;rw [← hb.cell hlb] at c0 c1 c2 c3 c4 c5;have htk:=HC.out.2.2.2.1 i hil;have hg:=HC.out.2.1 _ (List.getElem_mem hil);have hc:=fun W=>c_rform W l[i] hg.o2.o3;have hgf:=hg.form (by omega) (by omega);generalize fS l[i]=y at *;generalize l[i]=x at *;have hw:=fun W=>c_rwidth W y hgf.o2;have hbw:=hgf.width;obtain ⟨⟨m1,s1,d1⟩,n1,t1,e1⟩:=x;obtain ⟨⟨m2,s2,d2⟩,n2,t2,e2⟩:=y;simp only at c0 c1 c2 c3 c4 c5;replace hc:∀ W,Calls Tryz.prog 50 #[.agg #[.bool m1,.string s1,.int .i64 d1,.bool n1,.string t1,.int .i64 e1]] W (Ret (.agg #[.bool m2,.string s2,.int .i64 d2,.bool n2,.string t2,.int .i64 e2]) W):=hc;have HX:=Lib.hid (And.intro hc (And.intro hw (And.intro hbw (And.intro hgf htk))));clear hc hw hbw hgf htk hg;go_wp2_with fail;refine (HX.out.1 _).mono ?_;rintro e' V ⟨rfl,hq2⟩;replace hb:=below_next hb hq2;replace hown:=ownsRow_below hown hq2;have hVs:w.heap.size≤V.heap.size:=hb.size;have hltV:∀ g,u5.ownBlock=some g→g<V.heap.size:=fun g h=>(hown.lt g h).2;clear hq2 c0 c1 c2 c3 c4 c5;have hP:=Sk.new V 60 m2 s2 d2 n2 t2 e2;replace hown:=hown.alloc (.cells #[.bool m2,.string s2,.int .i64 d2,.bool n2,.string t2,.int .i64 e2] 60);replace hb:=hb.alloc hb.size (.cells #[.bool m2,.string s2,.int .i64 d2,.bool n2,.string t2,.int .i64 e2] 60);have hN:=Nk.new (V.alloc (.cells #[.bool m2,.string s2,.int .i64 d2,.bool n2,.string t2,.int .i64 e2] 60)) m2 s2 d2;rw [World.size_alloc] at hN
   replace hP:=hP.alloc (.cells #[.bool m2,.string s2,.int .i64 d2] 36);replace hown:=hown.alloc (.cells #[.bool m2,.string s2,.int .i64 d2] 36);replace hb:=hb.alloc hb.size (.cells #[.bool m2,.string s2,.int .i64 d2] 36);have hP1:=(Sk.new V 60 m2 s2 d2 n2 t2 e2).cells;obtain ⟨A0,A1,A2,A3,A4,A5⟩:=hP1
   go_upto_region 7 with fail
   generalize ((V.alloc (.cells #[.bool m2,.string s2,.int .i64 d2,.bool n2,.string t2,.int .i64 e2] 60)).alloc (.cells #[.bool m2,.string s2,.int .i64 d2] 36))=W2 at *;clear A0 A1 A2 A3 A4 A5;have hNe:∀ g,u5.ownBlock=some g→g≠V.heap.size+1:=fun g h=>by have:=hltV g h;omega
   clear hltV
   by_cases hin:i<n'
   ·have hit:i<tl.length:=by omega
    have hi1:(i:Int)<n':=by omega
    have hi0:(0:Int)≤(i:Int):=by omega
    obtain ⟨kb,ko,rfl,hkb,b0,b1,b2⟩:=ht i hit;have hT:El w kb (ko+i*3) tl[i].1 tl[i].2.1 tl[i].2.2:=⟨hkb,b0,b1,b2⟩;replace hT:=hT.below hb;clear b0 b1 b2;have hty:=HC.out.2.2.2.2 _ (List.getElem_mem hit);have hv:placN tl i ((m2,s2,d2),n2,t2,e2)=canonN (nv m2 s2 d2+nvl tl[i]*wS ((m2,s2,d2),n2,t2,e2)):=by unfold placN;rw [dif_pos hit];rfl
    generalize tl[i]=y at *;have hbw:=HX.out.2.2.1;have hmul:Bnd (nvl y*wS ((m2,s2,d2),n2,t2,e2)) (B+(B+1)) (E+E):=hty.2.mul hbw;have hok1:=hbw.canon;have hok2:=hmul.canon;have hok3:=hty.1;have hok4:=HX.out.2.2.2.1.1.1;have hw:=HX.out.2.1;have htk:=HX.out.2.2.2.2;rw [hv] at htk;have v1:=nvl_canon (wS ((m2,s2,d2),n2,t2,e2));have v2:=nvl_canon (nvl y*wS ((m2,s2,d2),n2,t2,e2));have df2:=canonN_df (nvl y*wS ((m2,s2,d2),n2,t2,e2));have df3:=canonN_df (nv m2 s2 d2+nvl y*wS ((m2,s2,d2),n2,t2,e2));generalize canonN (nv m2 s2 d2+nvl y*wS ((m2,s2,d2),n2,t2,e2))=y3 at *;generalize canonN (nvl y*wS ((m2,s2,d2),n2,t2,e2))=y2 at *;generalize canonN (wS ((m2,s2,d2),n2,t2,e2))=y1 at *;rw [← v2] at df3;rw [← v1] at df2;clear v1 v2 hmul hbw hv hty;obtain ⟨my,sy,dy⟩:=y;obtain ⟨ma,sa,da⟩:=y1;obtain ⟨mb,sb,db⟩:=y2;obtain ⟨mc,sc,dc⟩:=y3;unfold Ok2 at hok3 hok4;simp only at hok1 hok2 hok3 hok4;have hc2:=fun W=>rytimes_any W my ma sy sa dy da (by omega) (by omega) (by omega) (by omega) mb sb db df2;have hc3:=fun W=>ryplus_any W m2 mb s2 sb d2 db (by omega) (by omega) (by omega) (by omega) mc sc dc df3;replace hw:∀ W,Calls Tryz.prog 59 #[.agg #[.bool m2,.string s2,.int .i64 d2,.bool n2,.string t2,.int .i64 e2]] W (Ret (.agg #[.bool ma,.string sa,.int .i64 da]) W):=hw;replace hc2:∀ W,Calls Tryz.prog 62 #[.agg #[.bool my,.string sy,.int .i64 dy],.agg #[.bool ma,.string sa,.int .i64 da]] W (Ret (.agg #[.bool mb,.string sb,.int .i64 db]) W):=hc2
    replace hc3:∀ W,Calls Tryz.prog 69 #[.agg #[.bool m2,.string s2,.int .i64 d2],.agg #[.bool mb,.string sb,.int .i64 db]] W (Ret (.agg #[.bool mc,.string sc,.int .i64 dc]) W):=hc3;have HY:=Lib.hid (And.intro hw (And.intro hc2 hc3));have HT:=Lib.hid htk;clear hw hc2 hc3 htk df2 df3 hok1 hok2 hok3 hok4 HX;have hTd:=hT.drew;have hPd:=hP.drew;have hNd:=hN.drew;have hbd:=hb.drew;have hod:=ownsRow_below hown (Below.refl _ _).drew;simp only at hTd;obtain ⟨-,T0,T1,T2⟩:=id hTd;obtain ⟨P0,P1,P2,P3,P4,P5⟩:=hPd.cells;obtain ⟨N0,N1,N2⟩:=hNd.cells;clear hT hP hN hb hown;go_wp2
    go_region_law (first
     | (go_simp;go_at_call 59;refine (HY.out.1 _).mono ?_;rintro ew V3 ⟨rfl,hq3⟩;obtain ⟨-,T3,T4,T5⟩:=hTd.below hq3;obtain ⟨N3,N4,N5⟩:=(hNd.below hq3).cells)
     | (go_simp;go_at_call 62;refine (HY.out.2.1 _).mono ?_;rintro es V4 ⟨rfl,hq4⟩;obtain ⟨N6,N7,N8⟩:=((hNd.below hq3).below hq4).cells)
     | (go_simp;go_at_call 69;refine (HY.out.2.2 _).mono ?_;rintro ec V5 ⟨rfl,hq5⟩;obtain ⟨M0,M1,M2,M3,M4,M5⟩:=(((hNd.below hq3).below hq4).below hq5).facts))
    all_goals
     have hb:=below_set3 (below_next (below_next (below_next hbd hq3) hq4) hq5) (show w.heap.size≤V.heap.size+1 by omega) 0 1 2 (.bool mc) (.string sc) (.int .i64 dc);have hown:=ownsRow_other (ownsRow_other (ownsRow_other (ownsRow_below (ownsRow_below (ownsRow_below hod hq3) hq4) hq5) hNe 0 (.bool mc)) hNe 1 (.string sc)) hNe 2 (.int .i64 dc);have hN:=(((hNd.below hq3).below hq4).below hq5).set3 mc sc dc;clear hbd hod hNd hPd hTd hq3 hq4 hq5 HY M0 M1 M2 M3 M4 M5;generalize (((V5.setCell ⟨V.heap.size+1,0,none⟩ (.bool mc)).setCell ⟨V.heap.size+1,1,none⟩ (.string sc)).setCell ⟨V.heap.size+1,2,none⟩ (.int .i64 dc))=W6 at *;obtain ⟨N0,N1,N2⟩:=hN.cells;have hnew:=NAt.new W6 36 [(mc,sc,dc)] _ rfl;have hown2:=hown.alloc (.cells #[.bool mc,.string sc,.int .i64 dc] 36);replace hb:=hb.alloc hb.size (.cells #[.bool mc,.string sc,.int .i64 dc] 36);go_wp2_with (first|(at_builtin;refine wpList_append_nat Tryz.underlying25 hi hz0 hsz hbt rfl (by decide) (by decide) rfl (.tmp 35) (.tmp 37) rfl (m:=1) rfl hown2 hb.size rfl hnew rfl hi9 ?_));intro v' w' ho hg;rw [← HT.out] at ho;replace hb:=grown_own hb hb.size hown2 hg;clear hown hown2 hnew hg hN HT;go_wp2;exact ⟨⟨i+1,rfl,hik,ho,hb⟩,by simp [RowKit.intOf];omega⟩
   ·have hi1:¬(i:Int)<n':=by omega
    have hv:placN tl i ((m2,s2,d2),n2,t2,e2)=(m2,s2,d2):=by unfold placN;rw [dif_neg (by omega)]
    have htk:=HX.out.2.2.2.2;rw [hv] at htk;have HT:=Lib.hid htk;clear htk hv HX;obtain ⟨N0,N1,N2⟩:=hN.cells;have hnew:=NAt.new W2 36 [(m2,s2,d2)] _ rfl;have hown2:=hown.alloc (.cells #[.bool m2,.string s2,.int .i64 d2] 36);replace hb:=hb.alloc hb.size (.cells #[.bool m2,.string s2,.int .i64 d2] 36);go_wp2_with (first|(at_builtin;refine wpList_append_nat Tryz.underlying25 hi hz0 hsz hbt rfl (by decide) (by decide) rfl (.tmp 35) (.tmp 37) rfl (m:=1) rfl hown2 hb.size rfl hnew rfl hi9 ?_));intro v' w' ho hg;rw [← HT.out] at ho;replace hb:=grown_own hb hb.size hown2 hg;clear hown hown2 hnew hg hN HT;go_wp2;exact ⟨⟨i+1,rfl,hik,ho,hb⟩,by simp [RowKit.intOf];omega⟩
  ·obtain rfl:i=n:=by omega
   rw [List.take_of_length_le (by rw [HC.out.2.2.1];exact Nat.le_refl _)] at hown;obtain ⟨od,oc,rfl,-,hq2⟩:=own_nat (by rw [HC.out.2.2.1]) hown;clear hown hl ht;go_wp2;go_ret;exact ⟨od,oc,rfl,hq2,hb⟩
end Go.Proofs.YtlmckjodahbgbaaGreatDoor
namespace Go.Proofs.YtlmckjodahbgbaaGreatDoor
set_option maxRecDepth 100000
set_option maxHeartbeats 6400000
open Go.RowKit Go.Shelf
theorem bi64_wf {n:Int} (h:(Lit.int .i64 n).wf=true):-9223372036854775808≤n∧n≤9223372036854775807:=by
 simp [Lit.wf,IntKind.min,IntKind.max,IntKind.signed,IntKind.bits] at h;omega
theorem boxpoints_law (w:World) (ad:Option Addr) (l:List SV) (n c:Nat) (hn:l.length=n) (_hc:n≤c∧(ad=none→c=0)) (hl:SAt w ad l) (hm:n≤maxLen) (_hw:∀ x∈l,(x.1.2.1.size≤maxLen∧(Lit.int .i64 x.1.2.2).wf=true)∧(x.2.2.1.size≤maxLen∧(Lit.int .i64 x.2.2.2).wf=true))
  (z:Int) (hz:(Lit.int .i64 z).wf=true)
  (bd:Option Addr) (p:List NV) (n' c' : Nat) (hn' : p.length=n') (_hc' : n'≤c'∧(bd=none→c'=0)) (hp:NAt w bd p) (hm' : n'≤maxLen) (_hw' : ∀ x∈p,x.2.1.size≤maxLen∧(Lit.int .i64 x.2.2).wf=true) :
  Calls Tryz.prog 4 #[.slice ad n c,.int .i64 z,.slice bd n' c'] w (Ret (.bool true) w):=by
 have hv:=vast_any w ad bd l p n c n' c' hn hn' hm hm' hl hp;obtain ⟨r,hr⟩:∃ r,vastB l p=r:=⟨_,rfl⟩;rw [hr] at hv;have HR:=Lib.hid hr;have HZ:=Lib.hid (bi64_wf hz);clear hr _hw _hw' hm hm' _hc _hc' hz;go_enter Tryz.func4,Tryz.ntmps4;go_wp2_with fail;refine hv.mono ?_;rintro e W ⟨rfl,hb⟩;clear hv
 cases r with
 | true =>
  have ha:=awake_any W;clear hl hp HR;go_wp2_with fail;refine ha.mono ?_;rintro e W2 ⟨rfl,hq⟩;go_wp2;go_ret;exact ⟨rfl,below_next hb hq⟩
 | false =>
  obtain ⟨h8,h8',hs,hs'⟩:=vast_no HR.out;clear HR;replace hl:=hl.below hb;replace hp:=hp.below hb;obtain ⟨i0,hi,hz0,hsz,hbt⟩:=info_parts infoSz;have hlen:(flat l).length*3=n*6:=by rw [flat_len,hn];omega
  have hn9:0+n≤1000000:=by omega
  have HS:=Lib.hid (And.intro hs (And.intro hs' (fun x h=>(hs x h).o2)));have HO:=Lib.hid (fun x h=>(hs x h).o2.o3);clear hs hs';have hown:(W.alloc (.cells #[] 60)).ownsRow w.heap.size 60 6 (.slice (some ⟨W.heap.size,0,none⟩) 0 0) 0 (ncells []):=
   ⟨rfl,.inr ⟨W.heap.size,0,#[],rfl,hb.size,Rw.new W 60 [],Nat.le_refl _,Nat.zero_le _,rfl,rfl⟩⟩
  have hb1:=hb.alloc hb.size (.cells #[] 60);have hN:=(hl.alloc (.cells #[] 60)).nums;go_wp2_with (first|(at_builtin;refine wpList_append_nat Tryz.underlying23 hi hz0 hsz hbt rfl (by decide) (by decide) rfl (.tmp 12) (.tmp 13) rfl (m:=n) rfl hown hb1.size rfl hN hlen hn9 ?_));intro v' W5 ho hg;have hWl:W.heap.size≤(W.alloc (.cells #[] 60)).heap.size:=by rw [World.size_alloc];exact Nat.le_succ _
  replace ho:W5.ownsRow w.heap.size 60 6 v' n (ncells (flat l)):=by simpa using ho
  have hq:Below W.heap.size W W5:=Below.grown ((Below.refl W.heap.size W).alloc (Nat.le_refl _) (.cells #[] 60)) hg hWl (fun k hk=>by simp only [Value.ownBlock,Option.some.injEq] at hk;omega);obtain ⟨od,oc,rfl,-,hO⟩:=own_sat hn ho;replace hb:=below_next hb hq;replace hl:=hl.below hq;replace hp:=hp.below hq;clear hq hWl hN hown hb1 ho hg hlen hn9;have hc:=bmid_any W5 od l n oc hn (by omega) hO HS.out.2.2;go_wp2_with fail;refine hc.mono ?_;rintro e W6 ⟨g1,rfl,hg1,hR1,hq⟩;clear hc;replace hb:=below_next hb hq;replace hl:=hl.below hq;replace hp:=hp.below hq;replace hO:=hO.below hq;clear hq;clear hg1;replace hR1:=hR1.nat;have hc:=rbmid_any W6 ad l n c hn (by omega) hl HO.out;go_wp2_with fail;refine hc.mono ?_;rintro e W7 ⟨od2,oc2,rfl,hR2,hq⟩;clear hc;replace hb:=below_next hb hq;replace hl:=hl.below hq;replace hp:=hp.below hq;replace hO:=hO.below hq;replace hR1:=hR1.below hq;clear hq;have hc:=sameP_any W7 (some ⟨g1,0,none⟩) od2 n n oc2 (l.map fun x=>canonN (mS x)) (by simp [hn]) (by omega) hR1 hR2;go_wp2_with fail;refine hc.mono ?_;rintro e W8 ⟨rfl,hq⟩;clear hc;replace hb:=below_next hb hq;replace hl:=hl.below hq;replace hp:=hp.below hq;replace hO:=hO.below hq;replace hR1:=hR1.below hq;replace hR2:=hR2.below hq;clear hq;clear hR1 hR2;have hc:=bcorner_any W8 od l n oc hn (by omega) hO HS.out.2.2 z (by have:=HZ.out;omega);go_wp2_with fail;refine hc.mono ?_;rintro e W9 ⟨g1,rfl,hg1,hR1,hq⟩;clear hc;replace hb:=below_next hb hq;replace hl:=hl.below hq;replace hp:=hp.below hq
  replace hO:=hO.below hq;clear hq;clear hg1;replace hR1:=hR1.nat;have hc:=rbcorner_any W9 ad l n c hn (by omega) hl HO.out z HZ.out;go_wp2_with fail;refine hc.mono ?_;rintro e W10 ⟨od2,oc2,rfl,hR2,hq⟩;clear hc;replace hb:=below_next hb hq;replace hl:=hl.below hq;replace hp:=hp.below hq;replace hO:=hO.below hq;replace hR1:=hR1.below hq;clear hq;have hc:=sameP_any W10 (some ⟨g1,0,none⟩) od2 n n oc2 (l.zipIdx.map fun x=>cornN z.toNat x.2 (fS x.1)) (by simp [hn]) (by omega) hR1 hR2;go_wp2_with fail;refine hc.mono ?_;rintro e W11 ⟨rfl,hq⟩;clear hc;replace hb:=below_next hb hq;replace hl:=hl.below hq;replace hp:=hp.below hq;replace hO:=hO.below hq;replace hR1:=hR1.below hq;replace hR2:=hR2.below hq;clear hq;clear hR1 hR2;have hc:=bplace_any W11 od l n oc hn (by omega) hO bd p n' c' hn' hp HS.out.1 HS.out.2.1 (by decide) (by decide);go_wp2_with fail;refine hc.mono ?_;rintro e W12 ⟨g1,rfl,hg1,hR1,hq⟩;clear hc;replace hb:=below_next hb hq;replace hl:=hl.below hq;replace hp:=hp.below hq;replace hO:=hO.below hq;clear hq;clear hg1;replace hR1:=hR1.nat;have hc:=rbplace_any W12 ad l n c hn (by omega) hl bd p n' c' hn' hp HS.out.1 HS.out.2.1 (by decide) (by decide);go_wp2_with fail;refine hc.mono ?_;rintro e W13 ⟨od2,oc2,rfl,hR2,hq⟩;clear hc;replace hb:=below_next hb hq;replace hl:=hl.below hq;replace hp:=hp.below hq;replace hO:=hO.below hq;replace hR1:=hR1.below hq;clear hq
  have hc:=sameP_any W13 (some ⟨g1,0,none⟩) od2 n n oc2 (l.zipIdx.map fun x=>placN p x.2 (fS x.1)) (by simp [hn]) (by omega) hR1 hR2;go_wp2_with fail;refine hc.mono ?_;rintro e W14 ⟨rfl,hq⟩;clear hc;replace hb:=below_next hb hq;replace hl:=hl.below hq;replace hp:=hp.below hq;replace hO:=hO.below hq;replace hR1:=hR1.below hq;replace hR2:=hR2.below hq;clear hq;clear hR1 hR2;have hc:=sameB_any W14 od ad n oc c l hn (by omega) hO hl;go_wp2_with fail;refine hc.mono ?_;rintro e W15 ⟨rfl,hq⟩;clear hc;replace hb:=below_next hb hq;replace hl:=hl.below hq;replace hp:=hp.below hq;replace hO:=hO.below hq;clear hq;have ha:=awake_any W15;clear hl hp hO HS HO HZ;go_wp2_with fail;refine ha.mono ?_;rintro e WZ ⟨rfl,hq⟩;go_wp2;go_ret;exact ⟨rfl,below_next hb hq⟩
end Go.Proofs.YtlmckjodahbgbaaGreatDoor
namespace Go.Proofs.YtlmckjodahbgbaaGreatDoor
set_option maxRecDepth 100000
open Go.RowKit Go.ChangeShapes Go.WideShapes Go.Deep
section
variable {H : Type} {enc : TypeId × Value→H} {W : World} {base : Nat} {sp : Nat→Bool} {held : Bool}
theorem open_box {r:Reach} {b0:Nat} {v:Value} {D:DataW H} {ps:List MemPlace} (hval:Value.okWide Tryz.prog W r b0 23 v) (hd:DataW.Trod enc Tryz.prog W base sp held 23 v D ps) :
  ∃ (ad:Option Addr) (l:List SV) (n c:Nat),v=.slice ad n c∧l.length=n∧(n≤c∧(ad=none→c=0))∧SAt W ad l∧n≤maxLen∧∀ x∈l,(x.1.2.1.size≤maxLen∧(Lit.int .i64 x.1.2.2).wf=true)∧(x.2.2.1.size≤maxLen∧(Lit.int .i64 x.2.2.2).wf=true):=by
 obtain ⟨a0,len,cap,rfl⟩:=okWide_slice Tryz.underlying23 hval;obtain ⟨fuel,hf⟩:=hd
 rcases open_slice Tryz.underlying23 hf with ⟨hcs,_⟩|⟨a,len',cap',m,k,D,Pl,hcs,_,hl,hml,hmm,_,hcell⟩
 ·simp [Value.cells] at hcs;obtain ⟨rfl,rfl,rfl⟩:=hcs;exact ⟨none,[],0,0,rfl,rfl,⟨Nat.le_refl _,fun _=>rfl⟩,fun i h=>by simp at h,Nat.zero_le _,fun x h=>by simp at h⟩
 ·simp [Value.cells] at hcs;obtain ⟨rfl,rfl,rfl⟩:=hcs;have hlm:len≤m:=by rw [hmm];split <;> omega
  obtain ⟨b,off,spot⟩:=a;have each:∀ i,i<len→∃ q:SV,spot=none∧b<W.heap.size∧(W.cell? ⟨b,off+i*6,none⟩=some (.bool q.1.1)∧W.cell? ⟨b,off+i*6+1,none⟩=some (.string q.1.2.1)∧W.cell? ⟨b,off+i*6+2,none⟩=some (.int .i64 q.1.2.2)) ∧
    (W.cell? ⟨b,off+i*6+3,none⟩=some (.bool q.2.1)∧W.cell? ⟨b,off+i*6+4,none⟩=some (.string q.2.2.1)∧W.cell? ⟨b,off+i*6+5,none⟩=some (.int .i64 q.2.2.2)) ∧
    (q.1.2.1.size≤maxLen∧(Lit.int .i64 q.1.2.2).wf=true)∧(q.2.2.1.size≤maxLen∧(Lit.int .i64 q.2.2.2).wf=true):=by
   intro i hi;obtain ⟨cs',h1,h2⟩:=hcell i (by omega);rw [span_cells] at h1;obtain ⟨_,hlen,hc⟩:=World.cells?_some h1
   match cs',hlen with
   | [c0,c1,c2,c3,c4,c5],_ =>
    obtain ⟨m',s,d,n',t,e,rfl,rfl,rfl,rfl,rfl,rfl,_,hs,ht⟩:=open_span_cells h2;have e0:=hc 0 (by omega);have e1:=hc 1 (by omega);have e2:=hc 2 (by omega);have e3:=hc 3 (by omega);have e4:=hc 4 (by omega);have e5:=hc 5 (by omega);have hspot:spot=none:=by
     obtain ⟨cs0,k1,_⟩:=hcell 0 (by omega);rw [span_cells] at k1;obtain ⟨_,kl,kc⟩:=World.cells?_some k1;have k0:=kc 0 (by omega);rw [List.getElem?_eq_getElem (by omega)] at k0;simpa [Addr.add] using World.cell?_spot k0
    subst hspot;have ea:∀ j:Nat,(⟨b,off,none⟩:Addr).add j=⟨b,off+j,none⟩:=fun j=>by unfold Addr.add;split <;> simp_all
    have eb:∀ p j:Nat,(⟨b,p,none⟩:Addr).add j=⟨b,p+j,none⟩:=fun p j=>by unfold Addr.add;split <;> simp_all
    rw [ea,eb] at e0 e1 e2 e3 e4 e5;exact ⟨((m',s,d),(n',t,e)),rfl,World.block_lt_of_cell? W _ e0,⟨by simpa using e0,by simpa using e1,by simpa using e2⟩,⟨by simpa using e3,by simpa using e4,by simpa using e5⟩,hs,ht⟩
  obtain ⟨q,hq⟩:=choose_lt each;refine ⟨some ⟨b,off,spot⟩,(List.range len).map q,len,cap,rfl,by simp,⟨hl,fun h=>by cases h⟩,fun i hi=>?_,by omega,fun x hx=>?_⟩
  ·simp at hi;obtain ⟨hs0,hb,h0,h1,_⟩:=hq i hi;refine ⟨b,off,by rw [hs0],hb,?_,?_⟩
   ·simpa using h0
   ·simpa using h1
  ·obtain ⟨i,hi,rfl⟩:=List.mem_map.1 hx;exact (hq i (List.mem_range.1 hi)).2.2.2.2
theorem open_point {r:Reach} {b0:Nat} {v:Value} {d:DataW H} {ps:List MemPlace} (hval:Value.okWide Tryz.prog W r b0 25 v) (hd:DataW.Trod enc Tryz.prog W base sp held 25 v d ps) :
  ∃ (ad:Option Addr) (l:List NV) (n c:Nat),v=.slice ad n c∧l.length=n∧(n≤c∧(ad=none→c=0))∧NAt W ad l∧n≤maxLen∧∀ x∈l,x.2.1.size≤maxLen∧(Lit.int .i64 x.2.2).wf=true:=by
 obtain ⟨a0,len,cap,rfl⟩:=okWide_slice Tryz.underlying25 hval;obtain ⟨fuel,hf⟩:=hd
 rcases open_slice Tryz.underlying25 hf with ⟨hcs,_⟩|⟨a,len',cap',m,k,D,Pl,hcs,_,hl,hml,hmm,_,hcell⟩
 ·simp [Value.cells] at hcs;obtain ⟨rfl,rfl,rfl⟩:=hcs;exact ⟨none,[],0,0,rfl,rfl,⟨Nat.le_refl _,fun _=>rfl⟩,fun i h=>by simp at h,Nat.zero_le _,fun x h=>by simp at h⟩
 ·simp [Value.cells] at hcs;obtain ⟨rfl,rfl,rfl⟩:=hcs;have hlm:len≤m:=by rw [hmm];split <;> omega
  obtain ⟨b,off,spot⟩:=a;have each:∀ i,i<len→∃ q:NV,spot=none∧b<W.heap.size∧W.cell? ⟨b,off+i*3,none⟩=some (.bool q.1)∧W.cell? ⟨b,off+i*3+1,none⟩=some (.string q.2.1)∧W.cell? ⟨b,off+i*3+2,none⟩=some (.int .i64 q.2.2)∧q.2.1.size≤maxLen∧(Lit.int .i64 q.2.2).wf=true:=by
   intro i hi;obtain ⟨cs',h1,h2⟩:=hcell i (by omega);rw [num_cells] at h1;obtain ⟨_,hlen,hc⟩:=World.cells?_some h1
   match cs',hlen with
   | [c0,c1,c2],_ =>
    obtain ⟨x,s,e,rfl,rfl,rfl,_,hs,hw⟩:=open_num_cells h2;have e0:=hc 0 (by omega);have e1:=hc 1 (by omega);have e2:=hc 2 (by omega);have hspot:spot=none:=by
     obtain ⟨cs0,k1,_⟩:=hcell 0 (by omega);rw [num_cells] at k1;obtain ⟨_,kl,kc⟩:=World.cells?_some k1;have k0:=kc 0 (by omega);rw [List.getElem?_eq_getElem (by omega)] at k0;simpa [Addr.add] using World.cell?_spot k0
    subst hspot;have ea:∀ j:Nat,(⟨b,off,none⟩:Addr).add j=⟨b,off+j,none⟩:=fun j=>by unfold Addr.add;split <;> simp_all
    have eb:∀ p j:Nat,(⟨b,p,none⟩:Addr).add j=⟨b,p+j,none⟩:=fun p j=>by unfold Addr.add;split <;> simp_all
    rw [ea,eb] at e0 e1 e2;exact ⟨(x,s,e),rfl,World.block_lt_of_cell? W _ e0,by simpa using e0,by simpa using e1,by simpa using e2,hs,hw⟩
  obtain ⟨q,hq⟩:=choose_lt each;refine ⟨some ⟨b,off,spot⟩,(List.range len).map q,len,cap,rfl,by simp,⟨hl,fun h=>by cases h⟩,fun i hi=>?_,by omega,fun x hx=>?_⟩
  ·simp at hi;obtain ⟨hs0,hb,h0,h1,h2,_⟩:=hq i hi;refine ⟨b,off,by rw [hs0],hb,?_,?_,?_⟩
   ·simpa using h0
   ·simpa using h1
   ·simpa using h2
  ·obtain ⟨i,hi,rfl⟩:=List.mem_map.1 hx;exact (hq i (List.mem_range.1 hi)).2.2.2.2.2
end
end Go.Proofs.YtlmckjodahbgbaaGreatDoor
namespace Go.Proofs.YtlmckjodahbgbaaGreatDoor.boxPoints
set_option maxRecDepth 100000
open Go.ChangeShapes Go.WideShapes Go.ChangeAt Go.RowKit
open Go.ChangeMaps (open_string shut_string)
theorem laidOut:laidOutB Tryz.prog=true:=by kernel_rfl
theorem own:ownKnob Tryz.prog.godebug=none:=by kernel_rfl
theorem lifted (os:Os) (started:os.Started) (H:Type) (enc:TypeId × Value→H) :
  ReturnsInHanded {} Tryz.checked os 4 .any (fun w args=>(Rows.boxPointsSpec.pre enc Tryz.prog Tryz.f4 Rows.boxPointsRow.domain false w args∧laidMetH Tryz.prog Rows.boxPointsRow.laid w)∧sizedMet enc Tryz.prog Tryz.f4 (OpenSpec.ofChange Rows.boxPointsSpec) false w args)
   (Rows.boxPointsSpec.post enc Tryz.prog Tryz.f4 false true false false):=by
 refine returnsInHanded_of_change_and (C:=Tryz.checked) (X:=fun w _=>laidMetH Tryz.prog Rows.boxPointsRow.laid w) (fun _ _ _ hh h=>h.of_heap hh) own started (by kernel_rfl) Tryz.func4
  (ChangeSpec.witness_shaped (enc:=enc) (C:=Tryz.checked) (os:=os) (X:=fun w _=>laidMetH Tryz.prog Rows.boxPointsRow.laid w) false (World.laidAll Tryz.prog os Rows.boxPointsRow.laid) #[.slice none 0 0,.int .i64 0,.slice none 0 0] 8 (World.laidAll_os _ _ _)
   (World.shaped_of_ZipB (by kernel_rfl) (by kernel_rfl)) (by kernel_rfl) (by kernel_rfl) (by kernel_rfl)
   (by rw [MakeChecks.laidMetH_plain _ _ _ (by kernel_rfl)];exact laidMet_laidAll _ (by kernel_rfl) (by kernel_rfl))) ?_
 intro W base args ds gs before hval0 hW _ _ _ _;have hval:∀ (j:Nat) t v,Tryz.f4.params[j]?=some t→args[j]?=some v→Value.okWide Tryz.prog W .any base t v:=hval0;have hW':=hW;obtain ⟨p,q,hA0,hV,rfl,_,_⟩:=hW;have hA:DataW.TrodAll enc Tryz.prog W 0 (fun _=>true) true Tryz.f4.params.toList args.toList ds p:=hA0;rw [Tryz.params4] at hA hval;obtain ⟨v0,vs0,d0,ds0,p0,q0,hargs,rfl,rfl,h0,r0⟩:=trodAll_cons hA;obtain ⟨v1,vs1,d1,ds1,p1,q1,rfl,rfl,rfl,h1,r1⟩:=trodAll_cons r0;obtain ⟨v2,vs2,d2,ds2,p2,q2,rfl,rfl,rfl,h2,r2⟩:=trodAll_cons r1;obtain ⟨rfl,rfl,rfl⟩:=trodAll_nil r2;obtain rfl:args=#[v0,v1,v2]:=by cases args;simp_all
 obtain ⟨rfl,rfl⟩:=trodVars_none hV;have h0k:=h0;obtain ⟨ad0,l0,n0,c0,rfl,el0,ec0,hi0,em0,ew0⟩:=open_box (hval 0 23 v0 rfl rfl) h0;obtain ⟨a1,rfl,rfl,rfl,w1⟩:=open_int Tryz.underlying3 (hval 1 3 v1 rfl rfl) h1;have h2k:=h2;obtain ⟨ad2,l2,n2,c2,rfl,el2,ec2,hi2,em2,ew2⟩:=open_point (hval 2 25 v2 rfl rfl) h2;clear hA0 hval0;simp only [List.append_nil] at hW';refine (boxpoints_law W ad0 l0 n0 c0 el0 ec0 hi0 em0 ew0 a1 w1 ad2 l2 n2 c2 el2 ec2 hi2 em2 ew2).mono fun e W' ⟨he,hb⟩=>?_;subst he;exact ⟨_,rfl,_,_,_,[],_,[],hW',trodAll_cons_mk (shut_bool Tryz.underlying4 _) trodAll_mk0,(trodAll_cons_mk (Below.trod laidOut (by kernel_rfl) (of_decide_eq_true (by kernel_rfl)) h0k hb (fun x hx=>hW'.lt x (by simp_all))) (trodAll_cons_mk (shut_int Tryz.underlying3 w1) (trodAll_cons_mk (Below.trod laidOut (by kernel_rfl) (of_decide_eq_true (by kernel_rfl)) h2k hb (fun x hx=>hW'.lt x (by simp_all))) trodAll_mk0))),rfl,hb.frame _,fun h=>by cases h⟩
theorem said:Rows.BoxPointsSaid:=
 OpenClaim.holds_of_wide 4 Tryz.f4 rfl rfl rfl rfl rfl rfl rfl ⟨rfl,rfl,rfl,rfl,rfl⟩ rfl rfl rfl rfl rfl (by kernel_rfl) Tryz.func4 (by kernel_rfl)
  (of_decide_eq_true (by kernel_rfl)) (by unfold Func.isWrapper;first|(rw [if_pos (by decide +kernel)];kernel_rfl)|(rw [if_neg (by decide +kernel)];exact ⟨rfl,rfl⟩))
  (fun os started H enc _=>lifted os started H enc)
theorem plain (f:FuncId) (fn:Func) (hf:Tryz.pinned.checked.prog.funcNamed "ogee/ogeelaw11.BoxPoints"=some f) (hfn:Tryz.pinned.checked.prog.funcs[f]?=some fn) :
  false=Tryz.pinned.checked.prog.looks []∧∀ (j:Nat) t,fn.params[j]?=some t→Tryz.pinned.checked.prog.wantsStandIn t=false:=by
 obtain rfl:f=4:=Option.some.inj ((show Tryz.prog.funcNamed "ogee/ogeelaw11.BoxPoints"=some 4 by kernel_rfl).symm.trans hf) |>.symm
 obtain rfl:fn=Tryz.f4:=(Option.some.inj (Tryz.func4.symm.trans hfn)).symm;refine ⟨by kernel_rfl,fun j t ht=>?_⟩;rw [Tryz.params4] at ht;have hm:t∈[23,3,25]:=by simpa using Array.mem_of_getElem? ht
 have hall:([23,3,25].all fun u=>!Tryz.prog.wantsStandIn u)=true:=by kernel_rfl
 exact (show Tryz.prog.wantsStandIn t=false by simpa using List.all_eq_true.1 hall t hm)
theorem proved:Rows.BoxPointsCardSaid:=
 Claim7.holds_tied_plain_at .later [] _ _ _ _ said (fun _ h=>by cases h) (by kernel_rfl) (fun _ h=>by cases h) boxPoints_row_tie rfl ⟨rfl,rfl⟩ (by kernel_rfl) rfl plain (by kernel_rfl)
#print axioms proved
end Go.Proofs.YtlmckjodahbgbaaGreatDoor.boxPoints
