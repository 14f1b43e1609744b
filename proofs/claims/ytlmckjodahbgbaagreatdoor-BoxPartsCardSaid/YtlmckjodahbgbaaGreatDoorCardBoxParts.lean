/- The statement of BoxParts: for every input it answers true, and each argument reads as it read before. No condition beyond what the given card says. -/
import Derived.Test.YtlmckjodahbgbaaGreatDoorSR1
import Derived.Test.YtlmckjodahbgbaaGreatDoorBX5
import Derived.Test.YtlmckjodahbgbaaGreatDoorBX8
import Derived.Test.YtlmckjodahbgbaaGreatDoorBX9
import Derived.Test.YtlmckjodahbgbaaGreatDoorBX6
import Derived.Test.YtlmckjodahbgbaaGreatDoorBX10
import Derived.Test.YtlmckjodahbgbaaGreatDoorHI
import Derived.Test.YtlmckjodahbgbaaGreatDoorBX7
import Derived.ChangeSlices
import Derived.Carry
import Derived.ProofKit
import Derived.Deep.Slices
import Derived.Test.YtlmckjodahbgbaaGreatDoorCards
import Derived.Test.YtlmckjodahbgbaaGreatDoorTie
import Derived.OpenShut
import Derived.ShutString
import Derived.LaidMore
import Derived.Lay
import Derived.SevenTiedAt
import Derived.Stop.Joined
namespace Go.Proofs.YtlmckjodahbgbaaGreatDoor
set_option maxRecDepth 100000
set_option maxHeartbeats 6400000
open Go.RowKit Go.Shelf
theorem c_rform (w:World) (x:SV) (h:O3 x):Calls Tryz.prog 50 #[sagg x] w (Ret (sagg (fS x)) w):=
 rsform_any w _ _ _ _ _ _ h.1 h.2 _ _ _ (canonN_df _) _ _ _ (canonN_df _)
theorem c_rwidth (w:World) (x:SV) (h:O2 x):Calls Tryz.prog 59 #[sagg x] w (Ret (nagg (canonN (wS x))) w):=
 rswidth_any w _ _ _ _ _ _ h.1 h.2 _ _ _ (canonN_df _)
theorem c_rmid (w:World) (x:SV) (h:O3 x):Calls Tryz.prog 66 #[sagg x] w (Ret (nagg (canonN (mS x))) w):=
 rsmid_any w _ _ _ _ _ _ h.1 h.2 _ _ _ (canonN_df _)
def RowA (w:World) (L:List NV) (n:Nat):Ending→World→Prop:=fun e w'=>∃ od oc,e=.returned (.slice od n oc)∧NAt w' od L∧Below w.heap.size w w'
theorem rbmid_any (w:World) (ad:Option Addr) (l:List SV) (n c:Nat) (hn:l.length=n) (hmax:n≤1000) (hl:SAt w ad l) (hs:∀ x∈l,O3 x) :
  Calls Tryz.prog 26 #[.slice ad n c] w (RowA w (l.map fun x=>canonN (mS x)) n):=by
 obtain ⟨i0,hi,hz0,hsz,hbt⟩:=info_parts infoNz;have HC:=Lib.hid (And.intro hn hs);clear hn hs;go_enter Tryz.func26,Tryz.ntmps26;go_wp2
 go_loopw [3,4] (fun v iv wr=>∃ i:Nat,iv=.int .i64 i∧i≤n∧wr.ownsRow w.heap.size 36 3 v i (ncells ((l.map fun x=>canonN (mS x)).take i))∧Below w.heap.size w wr) (fun _ iv _=>n-(RowKit.intOf iv).toNat)
 case atStart=>exact ⟨0,rfl,Nat.zero_le _,World.ownsRow_nil _ _ _ _,Below.refl _ _⟩
 case round =>
  obtain ⟨i,rfl,hi2,hown,hb⟩:=hrel
  by_cases hik:i<n
  ·have hil:i<l.length:=by rw [HC.out.1];exact hik
   obtain ⟨lb,lo,rfl,hlb,⟨c0,c1,c2⟩,c3,c4,c5⟩:=hl i hil;rw [← hb.cell hlb] at c0 c1 c2 c3 c4 c5;have htk:(l.map fun x=>canonN (mS x)).take (i+1)=(l.map fun x=>canonN (mS x)).take i++[canonN (mS l[i])]:=by
    rw [List.take_succ_eq_append_getElem (by rw [List.length_map];exact hil),List.getElem_map]
   have hc:=fun W=>c_rmid W l[i] (HC.out.2 _ (List.getElem_mem hil));generalize canonN (mS l[i])=y at *;generalize l[i]=x at *;obtain ⟨⟨m1,s1,d1⟩,n1,t1,e1⟩:=x;obtain ⟨m3,s3,d3⟩:=y;simp only at c0 c1 c2 c3 c4 c5;replace hc:∀ W,Calls Tryz.prog 66 #[.agg #[.bool m1,.string s1,.int .i64 d1,.bool n1,.string t1,.int .i64 e1]] W (Ret (.agg #[.bool m3,.string s3,.int .i64 d3]) W):=hc;have HX:=Lib.hid (And.intro hc htk);clear hc htk;go_wp2_with fail;refine (HX.out.1 _).mono ?_;rintro e' V ⟨rfl,hq⟩;replace hb:=below_next hb hq;replace hown:=ownsRow_below hown hq;clear hq c0 c1 c2 c3 c4 c5;have hnew:=NAt.new V 36 [(m3,s3,d3)] _ rfl;have hown2:=hown.alloc (.cells #[.bool m3,.string s3,.int .i64 d3] 36);replace hb:=hb.alloc hb.size (.cells #[.bool m3,.string s3,.int .i64 d3] 36);go_wp2_with (first|(at_builtin;refine wpList_append_nat Tryz.underlying25 hi hz0 hsz hbt rfl (by decide) (by decide) rfl (.tmp 11) (.tmp 17) rfl (m:=1) rfl hown2 hb.size rfl hnew rfl (by omega) ?_));intro v' w' ho hg;rw [← HX.out.2] at ho;replace hb:=grown_own hb hb.size hown2 hg;clear hown hown2 hnew hg HX;go_wp2;exact ⟨⟨i+1,rfl,hik,ho,hb⟩,by simp [RowKit.intOf];omega⟩
  ·obtain rfl:i=n:=by omega
   rw [List.take_of_length_le (by rw [List.length_map,HC.out.1];exact Nat.le_refl _)] at hown;obtain ⟨od,oc,rfl,-,hq⟩:=own_nat (by rw [List.length_map,HC.out.1]) hown;clear hown hl;go_wp2;go_ret;exact ⟨od,oc,rfl,hq,hb⟩
theorem rbcorner_any (w:World) (ad:Option Addr) (l:List SV) (n c:Nat) (hn:l.length=n) (hmax:n≤60) (hl:SAt w ad l) (hs:∀ x∈l,O3 x) (z:Int) (hz:-9223372036854775808≤z∧z≤9223372036854775807) :
  Calls Tryz.prog 28 #[.slice ad n c,.int .i64 z] w (RowA w (l.zipIdx.map fun x=>cornN z.toNat x.2 (fS x.1)) n):=by
 obtain ⟨i0,hi,hz0,hsz,hbt⟩:=info_parts infoNz;obtain ⟨q,hq⟩:∃ q,z.toNat=q:=⟨_,rfl⟩;rw [hq];have hl0:(l.zipIdx.map fun x=>cornN q x.2 (fS x.1)).length=n:=by simp [hn]
 have hget:∀ i (h:i<l.length),(l.zipIdx.map fun x=>cornN q x.2 (fS x.1)).take (i+1)=(l.zipIdx.map fun x=>cornN q x.2 (fS x.1)).take i++[cornN q i (fS l[i])]:=fun i h=>by
  rw [List.take_succ_eq_append_getElem (by simpa using h),List.getElem_map,List.getElem_zipIdx];simp only [Nat.zero_add]
 have HC:=Lib.hid (And.intro hn (And.intro hs (And.intro hl0 hget)));clear hn hs hl0 hget;generalize (l.zipIdx.map fun x=>cornN q x.2 (fS x.1))=O at *;go_enter Tryz.func28,Tryz.ntmps28;go_wp2
 go_loopw [1,5,6] (fun kv v iv wr=>∃ (i:Nat) (ki:Int),kv=.int .i64 ki∧iv=.int .i64 i∧i≤n∧((0<z→ki=((q / 2 ^ i:Nat):Int))∧(z≤0→ki≤0∧-9223372036854775808≤ki))∧wr.ownsRow w.heap.size 36 3 v i (ncells (O.take i))∧Below w.heap.size w wr) (fun _ _ iv _=>n-(RowKit.intOf iv).toNat)
 case atStart=>exact ⟨0,z,rfl,rfl,Nat.zero_le _,⟨fun h=>by simp only [Nat.pow_zero,Nat.div_one];omega,fun h=>⟨h,hz.1⟩⟩,World.ownsRow_nil _ _ _ _,Below.refl _ _⟩
 case round =>
  obtain ⟨i,ki,rfl,rfl,hi2,hki,hown,hb⟩:=hrel
  by_cases hik:i<n
  ·have hil:i<l.length:=by rw [HC.out.1];exact hik
   obtain ⟨lb,lo,rfl,hlb,⟨c0,c1,c2⟩,c3,c4,c5⟩:=hl i hil;rw [← hb.cell hlb] at c0 c1 c2 c3 c4 c5;have htk:=HC.out.2.2.2 i hil;have hc:=fun W=>c_rform W l[i] (HC.out.2.1 _ (List.getElem_mem hil));generalize fS l[i]=y at *;generalize l[i]=x at *;obtain ⟨⟨m1,s1,d1⟩,n1,t1,e1⟩:=x;obtain ⟨⟨m2,s2,d2⟩,n2,t2,e2⟩:=y;simp only at c0 c1 c2 c3 c4 c5;replace hc:∀ W,Calls Tryz.prog 50 #[.agg #[.bool m1,.string s1,.int .i64 d1,.bool n1,.string t1,.int .i64 e1]] W (Ret (.agg #[.bool m2,.string s2,.int .i64 d2,.bool n2,.string t2,.int .i64 e2]) W):=hc;have hnext:(0<z→ki.tdiv 2=((q / 2 ^ (i+1):Nat):Int))∧(z≤0→ki.tdiv 2≤0∧-9223372036854775808≤ki.tdiv 2):=by
    constructor
    ·intro h;rw [hki.1 h,Nat.pow_succ,← Nat.div_div_eq_div_mul];rfl
    ·intro h;have h1:=hki.2 h;have h2:ki.tdiv 2=-((-ki).tdiv 2):=by rw [Int.neg_tdiv,Int.neg_neg]
     have h3:(-ki).tdiv 2=(-ki) / 2:=Int.tdiv_eq_ediv_of_nonneg (by omega);omega
   have hcase:(ki > 0∧(q / 2 ^ i % 2=1↔ki % 2=1))∨(ki≤0∧q / 2 ^ i % 2=0):=by
    by_cases h:0<z
    ·have h1:=hki.1 h;generalize q / 2 ^ i=kk at *
     by_cases h2:kk=0
     ·right
      rw [h2] at h1 ⊢;exact ⟨by omega,rfl⟩
     ·left
      omega
    ·right
     have h1:=hki.2 (by omega);have h2:q=0:=by omega
     rw [h2,Nat.zero_div];exact ⟨h1.1,rfl⟩
   have hbd:-9223372036854775808≤ki.tdiv 2∧ki.tdiv 2≤9223372036854775807:=by
    by_cases h:0<z
    ·have h1:=hnext.1 h;have h2:q / 2 ^ (i+1)≤q:=Nat.div_le_self _ _;rw [h1];generalize q / 2 ^ (i+1)=kk at *;omega
    ·have h1:=hnext.2 (by omega);omega
   have hwr:wrap64 (ki.tdiv 2)=ki.tdiv 2:=by
    unfold wrap64;omega
   have HW:=Lib.hid hwr;have HX:=Lib.hid hc;clear hc hki hbd hwr;go_wp2_with fail;refine (HX.out _).mono ?_;rintro e' V ⟨rfl,hq2⟩;replace hb:=below_next hb hq2;replace hown:=ownsRow_below hown hq2;clear hq2 c0 c1 c2 c3 c4 c5 HX;have hP:=Sk.new V 60 m2 s2 d2 n2 t2 e2;replace hown:=hown.alloc (.cells #[.bool m2,.string s2,.int .i64 d2,.bool n2,.string t2,.int .i64 e2] 60);replace hb:=hb.alloc hb.size (.cells #[.bool m2,.string s2,.int .i64 d2,.bool n2,.string t2,.int .i64 e2] 60)
   go_upto_region 6 with fail
   generalize (V.alloc (.cells #[.bool m2,.string s2,.int .i64 d2,.bool n2,.string t2,.int .i64 e2] 60))=W2 at *;obtain ⟨A0,A1,A2,A3,A4,A5⟩:=hP.cells;have h62:(i:Int)<62:=by omega
   have hsg:True:=trivial
   rcases hcase with ⟨h1,h2⟩|⟨h1,h2⟩
   ·have h3:ki.tmod 2=ki % 2:=Int.tmod_eq_emod_of_nonneg (by omega)
    by_cases hodd:q / 2 ^ i % 2=1
    ·have hcn:cornN q i ((m2,s2,d2),n2,t2,e2)=(n2,t2,e2):=by unfold cornN bitB;rw [decide_eq_true hodd,decide_eq_true (show i<62 by omega)];rfl
     have h4:ki % 2=1:=h2.1 hodd;have h5:ki.tmod 2=1:=by rw [h3];exact h4
     clear h2 hodd h3;rw [hcn] at htk;have HT:=Lib.hid (And.intro htk hnext);clear hcn htk hnext hP hsg;have hnew:=NAt.new W2 36 [(n2,t2,e2)] _ rfl;have hown2:=hown.alloc (.cells #[.bool n2,.string t2,.int .i64 e2] 36);replace hb:=hb.alloc hb.size (.cells #[.bool n2,.string t2,.int .i64 e2] 36);go_wp2_with (first|(at_builtin;refine wpList_append_nat Tryz.underlying25 hi hz0 hsz hbt rfl (by decide) (by decide) rfl (.tmp 30) (.tmp 33) rfl (m:=1) rfl hown2 hb.size rfl hnew rfl (by omega) ?_));intro v' w' ho hg;rw [← HT.out.1] at ho;replace hb:=grown_own hb hb.size hown2 hg;clear hown hown2 hnew hg A0 A1 A2 A3 A4 A5;go_wp2;exact ⟨⟨i+1,wrap64 (ki.tdiv 2),rfl,rfl,hik,by rw [HW.out];exact HT.out.2,ho,hb⟩,by simp [RowKit.intOf];omega⟩
    ·have hcn:cornN q i ((m2,s2,d2),n2,t2,e2)=(m2,s2,d2):=by unfold cornN bitB;rw [decide_eq_false hodd];cases decide (i<62) <;> rfl
     have h4:¬ki % 2=1:=fun h=>hodd (h2.2 h);have h5:¬ki.tmod 2=1:=by rw [h3];exact h4
     clear h2 hodd h3;rw [hcn] at htk;have HT:=Lib.hid (And.intro htk hnext);clear hcn htk hnext hP hsg;have hnew:=NAt.new W2 36 [(m2,s2,d2)] _ rfl;have hown2:=hown.alloc (.cells #[.bool m2,.string s2,.int .i64 d2] 36);replace hb:=hb.alloc hb.size (.cells #[.bool m2,.string s2,.int .i64 d2] 36);go_wp2_with (first|(at_builtin;refine wpList_append_nat Tryz.underlying25 hi hz0 hsz hbt rfl (by decide) (by decide) rfl (.tmp 35) (.tmp 38) rfl (m:=1) rfl hown2 hb.size rfl hnew rfl (by omega) ?_));intro v' w' ho hg;rw [← HT.out.1] at ho;replace hb:=grown_own hb hb.size hown2 hg;clear hown hown2 hnew hg A0 A1 A2 A3 A4 A5;go_wp2;exact ⟨⟨i+1,wrap64 (ki.tdiv 2),rfl,rfl,hik,by rw [HW.out];exact HT.out.2,ho,hb⟩,by simp [RowKit.intOf];omega⟩
   ·have hcn:cornN q i ((m2,s2,d2),n2,t2,e2)=(m2,s2,d2):=by unfold cornN bitB;rw [decide_eq_false (show ¬q / 2 ^ i % 2=1 by omega)];cases decide (i<62) <;> rfl
    have h4:¬0<ki:=by omega
    clear h2;rw [hcn] at htk;have HT:=Lib.hid (And.intro htk hnext);clear hcn htk hnext hP hsg;have hnew:=NAt.new W2 36 [(m2,s2,d2)] _ rfl;have hown2:=hown.alloc (.cells #[.bool m2,.string s2,.int .i64 d2] 36);replace hb:=hb.alloc hb.size (.cells #[.bool m2,.string s2,.int .i64 d2] 36);go_wp2_with (first|(at_builtin;refine wpList_append_nat Tryz.underlying25 hi hz0 hsz hbt rfl (by decide) (by decide) rfl (.tmp 35) (.tmp 38) rfl (m:=1) rfl hown2 hb.size rfl hnew rfl (by omega) ?_));intro v' w' ho hg;rw [← HT.out.1] at ho;replace hb:=grown_own hb hb.size hown2 hg;clear hown hown2 hnew hg A0 A1 A2 A3 A4 A5;go_wp2;exact ⟨⟨i+1,wrap64 (ki.tdiv 2),rfl,rfl,hik,by rw [HW.out];exact HT.out.2,ho,hb⟩,by simp [RowKit.intOf];omega⟩
  ·obtain rfl:i=n:=by omega
   rw [List.take_of_length_le (by rw [HC.out.2.2.1];exact Nat.le_refl _)] at hown;obtain ⟨od,oc,rfl,-,hq2⟩:=own_nat (by rw [HC.out.2.2.1]) hown;clear hown hl hki;go_wp2;go_ret;exact ⟨od,oc,rfl,hq2,hb⟩
end Go.Proofs.YtlmckjodahbgbaaGreatDoor
namespace Go.Proofs.YtlmckjodahbgbaaGreatDoor
set_option maxRecDepth 100000
set_option maxHeartbeats 6400000
open Go.RowKit Go.Shelf
theorem rbform_any (w:World) (ad:Option Addr) (l:List SV) (n c:Nat) (hn:l.length=n) (hmax:n≤1000) (hl:SAt w ad l) (hs:∀ x∈l,O3 x) :
  Calls Tryz.prog 15 #[.slice ad n c] w (fun e w'=>∃ v,e=.returned v∧w'.ownsRow w.heap.size 60 6 v n (ncells (flat (l.map fS)))∧Below w.heap.size w w'):=by
 obtain ⟨i0,hi,hz0,hsz,hbt⟩:=info_parts infoSz;have HC:=Lib.hid (And.intro hn hs);clear hn hs;go_enter Tryz.func15,Tryz.ntmps15;go_wp2
 go_loopw [3,4] (fun v iv wr=>∃ i:Nat,iv=.int .i64 i∧i≤n∧wr.ownsRow w.heap.size 60 6 v i (ncells (flat ((l.map fS).take i)))∧Below w.heap.size w wr) (fun _ iv _=>n-(RowKit.intOf iv).toNat)
 case atStart=>exact ⟨0,rfl,Nat.zero_le _,World.ownsRow_nil _ _ _ _,Below.refl _ _⟩
 case round =>
  obtain ⟨i,rfl,hi2,hown,hb⟩:=hrel
  by_cases hik:i<n
  ·have hil:i<l.length:=by rw [HC.out.1];exact hik
   obtain ⟨lb,lo,rfl,hlb,⟨c0,c1,c2⟩,c3,c4,c5⟩:=hl i hil;rw [← hb.cell hlb] at c0 c1 c2 c3 c4 c5;have htk:(l.map fS).take (i+1)=(l.map fS).take i++[fS l[i]]:=by
    rw [List.take_succ_eq_append_getElem (by rw [List.length_map];exact hil),List.getElem_map]
   have hc:=fun W=>c_rform W l[i] (HC.out.2 _ (List.getElem_mem hil));generalize fS l[i]=y at *;generalize l[i]=x at *;obtain ⟨⟨m1,s1,d1⟩,n1,t1,e1⟩:=x;obtain ⟨⟨m2,s2,d2⟩,n2,t2,e2⟩:=y;simp only at c0 c1 c2 c3 c4 c5;replace hc:∀ W,Calls Tryz.prog 50 #[.agg #[.bool m1,.string s1,.int .i64 d1,.bool n1,.string t1,.int .i64 e1]] W (Ret (.agg #[.bool m2,.string s2,.int .i64 d2,.bool n2,.string t2,.int .i64 e2]) W):=hc;have HX:=Lib.hid (And.intro hc htk);clear hc htk;go_wp2_with fail;refine (HX.out.1 _).mono ?_;rintro e' V ⟨rfl,hq⟩;replace hb:=below_next hb hq;replace hown:=ownsRow_below hown hq;clear hq c0 c1 c2 c3 c4 c5;have hnew:NAt (V.alloc (.cells #[.bool m2,.string s2,.int .i64 d2,.bool n2,.string t2,.int .i64 e2] 60)) (some ⟨V.heap.size,0,none⟩) (flat [((m2,s2,d2),n2,t2,e2)]):=NAt.new V _ _ _ rfl;have hown2:=hown.alloc (.cells #[.bool m2,.string s2,.int .i64 d2,.bool n2,.string t2,.int .i64 e2] 60);replace hb:=hb.alloc hb.size (.cells #[.bool m2,.string s2,.int .i64 d2,.bool n2,.string t2,.int .i64 e2] 60);go_wp2_with (first|(at_builtin;refine wpList_append_nat Tryz.underlying23 hi hz0 hsz hbt rfl (by decide) (by decide) rfl (.tmp 11) (.tmp 17) rfl (m:=1) rfl hown2 hb.size rfl hnew rfl (by omega) ?_));intro v' w' ho hg;rw [← flat_app,← HX.out.2] at ho;replace hb:=grown_own hb hb.size hown2 hg;clear hown hown2 hnew hg HX;go_wp2;exact ⟨⟨i+1,rfl,hik,ho,hb⟩,by simp [RowKit.intOf];omega⟩
  ·obtain rfl:i=n:=by omega
   rw [List.take_of_length_le (by rw [List.length_map,HC.out.1];exact Nat.le_refl _)] at hown;clear hl;go_wp2;go_ret;exact ⟨_,rfl,hown,hb⟩
theorem rbhalf_true (w:World) (ad:Option Addr) (l:List SV) (n c a:Nat) (hn:l.length=n) (ha:a<n) (hmax:n≤1000) (hl:SAt w ad l) (hs:∀ x∈l,O3 x) :
  Calls Tryz.prog 32 #[.slice ad n c,.int .i64 a,.bool true] w (fun e w'=>∃ g c',e=.returned (.slice (some ⟨g,0,none⟩) n c')∧w.heap.size≤g∧n≤c'∧Rp w' g (flat (halfB true (l.map fS) a))∧Below w.heap.size w w'):=by
 have hc:=rbform_any w ad l n c hn hmax hl hs;have hal:a<l.length:=by omega
 have hlen:(l.map fS).length=n:=by rw [List.length_map,hn]
 have hga:(l.map fS)[a]?=some (fS l[a]):=by rw [List.getElem?_map,List.getElem?_eq_getElem hal];rfl
 have e1:halfB true (l.map fS) a=(l.map fS).set a (upH (fS l[a])):=by unfold halfB;rw [List.getD_eq_getElem?_getD,hga];rfl
 have e2:upH (fS l[a])=(canonN (mS l[a]),(fS l[a]).2):=by unfold upH;rw [mS_fS]
 have hcm:=fun W=>c_rmid W l[a] (hs _ (List.getElem_mem hal));obtain ⟨lb,lo,rfl,hlb,⟨c0,c1,c2⟩,c3,c4,c5⟩:=hl a hal;rw [e1,e2];clear e1 e2 hs hl;generalize l.map fS=m at *;generalize fS l[a]=y at *;generalize canonN (mS l[a])=u at *;generalize l[a]=x at *;have ham:a<m.length:=by omega
 have hmx:m[a]=y:=by rw [List.getElem?_eq_getElem ham] at hga;injection hga
 clear hal hn hga;obtain ⟨⟨mx,sx,dx⟩,nx,tx,ex⟩:=x;obtain ⟨⟨m1,s1,d1⟩,n1,t1,e1⟩:=y;obtain ⟨m3,s3,d3⟩:=u;simp only at c0 c1 c2 c3 c4 c5;replace hcm:∀ W,Calls Tryz.prog 66 #[.agg #[.bool mx,.string sx,.int .i64 dx,.bool nx,.string tx,.int .i64 ex]] W (Ret (.agg #[.bool m3,.string s3,.int .i64 d3]) W):=hcm;have HM:=Lib.hid hcm;clear hcm;have ha0:(0:Int)≤(a:Int):=by omega
 have han:(a:Int)<n:=by omega
 go_enter Tryz.func32,Tryz.ntmps32;go_wp2_with fail;refine hc.mono ?_;rintro e W ⟨v,rfl,hown,hb⟩;obtain ⟨g,c',rfl,hg,hc',hR⟩:=own_rp hlen (by omega) hown;clear hc hown;rw [← hb.cell hlb] at c0 c1 c2 c3 c4 c5;go_wp2_with fail;refine (HM.out _).mono ?_;rintro e V ⟨rfl,hq⟩;replace hb:=below_next hb hq;replace hR:=hR.below hq;clear hq c0 c1 c2 c3 c4 c5;have hln:(flat m).length=2*n:=by rw [flat_len,hlen]
 obtain ⟨P0,P1,P2,P3,P4,P5⟩:=hR.facts (2*a) (by rw [hln];omega);rw [show 2*a*3=a*6 by omega] at P0 P1 P2 P3 P4 P5;go_wp2;go_ret;have hR2:=hR.set_ (2*a) (m3,s3,d3);rw [show 2*a*3=a*6 by omega] at hR2;have hset:=flat_set m a ((m3,s3,d3),n1,t1,e1);obtain ⟨hk0,hk1⟩:=flat_get m a ham;rw [hmx] at hk0 hk1;simp only at hset hk0 hk1 hR2;have hsame:flat (m.set a ((m3,s3,d3),n1,t1,e1))=(flat m).set (2*a) (m3,s3,d3):=by
  rw [hset]
  apply List.ext_getElem?
  intro j
  by_cases h1:j=2*a+1
  ·subst h1;rw [List.getElem?_set_self (by rw [List.length_set,hln];omega),List.getElem?_set_ne (by omega),hk1]
  ·rw [List.getElem?_set_ne (by omega)]
 rw [← hsame] at hR2;exact ⟨g,c',rfl,hg,hc',hR2,((hb.setCell hg _).setCell hg _).setCell hg _⟩
theorem rbhalf_false (w:World) (ad:Option Addr) (l:List SV) (n c a:Nat) (hn:l.length=n) (ha:a<n) (hmax:n≤1000) (hl:SAt w ad l) (hs:∀ x∈l,O3 x) :
  Calls Tryz.prog 32 #[.slice ad n c,.int .i64 a,.bool false] w (fun e w'=>∃ g c',e=.returned (.slice (some ⟨g,0,none⟩) n c')∧w.heap.size≤g∧n≤c'∧Rp w' g (flat (halfB false (l.map fS) a))∧Below w.heap.size w w'):=by
 have hc:=rbform_any w ad l n c hn hmax hl hs;have hal:a<l.length:=by omega
 have hlen:(l.map fS).length=n:=by rw [List.length_map,hn]
 have hga:(l.map fS)[a]?=some (fS l[a]):=by rw [List.getElem?_map,List.getElem?_eq_getElem hal];rfl
 have e1:halfB false (l.map fS) a=(l.map fS).set a (lowH (fS l[a])):=by unfold halfB;rw [List.getD_eq_getElem?_getD,hga];rfl
 have e2:lowH (fS l[a])=((fS l[a]).1,canonN (mS l[a])):=by unfold lowH;rw [mS_fS]
 have hcm:=fun W=>c_rmid W l[a] (hs _ (List.getElem_mem hal));obtain ⟨lb,lo,rfl,hlb,⟨c0,c1,c2⟩,c3,c4,c5⟩:=hl a hal;rw [e1,e2];clear e1 e2 hs hl;generalize l.map fS=m at *;generalize fS l[a]=y at *;generalize canonN (mS l[a])=u at *;generalize l[a]=x at *;have ham:a<m.length:=by omega
 have hmx:m[a]=y:=by rw [List.getElem?_eq_getElem ham] at hga;injection hga
 clear hal hn hga;obtain ⟨⟨mx,sx,dx⟩,nx,tx,ex⟩:=x;obtain ⟨⟨m1,s1,d1⟩,n1,t1,e1⟩:=y;obtain ⟨m3,s3,d3⟩:=u;simp only at c0 c1 c2 c3 c4 c5;replace hcm:∀ W,Calls Tryz.prog 66 #[.agg #[.bool mx,.string sx,.int .i64 dx,.bool nx,.string tx,.int .i64 ex]] W (Ret (.agg #[.bool m3,.string s3,.int .i64 d3]) W):=hcm;have HM:=Lib.hid hcm;clear hcm;have ha0:(0:Int)≤(a:Int):=by omega
 have han:(a:Int)<n:=by omega
 go_enter Tryz.func32,Tryz.ntmps32;go_wp2_with fail;refine hc.mono ?_;rintro e W ⟨v,rfl,hown,hb⟩;obtain ⟨g,c',rfl,hg,hc',hR⟩:=own_rp hlen (by omega) hown;clear hc hown;rw [← hb.cell hlb] at c0 c1 c2 c3 c4 c5;go_wp2_with fail;refine (HM.out _).mono ?_;rintro e V ⟨rfl,hq⟩;replace hb:=below_next hb hq;replace hR:=hR.below hq;clear hq c0 c1 c2 c3 c4 c5;have hln:(flat m).length=2*n:=by rw [flat_len,hlen]
 obtain ⟨P0,P1,P2,P3,P4,P5⟩:=hR.facts (2*a+1) (by rw [hln];omega);rw [show (2*a+1)*3=a*6+3 by omega] at P0 P1 P2 P3 P4 P5;go_wp2;go_ret;have hR2:=hR.set_ (2*a+1) (m3,s3,d3);rw [show (2*a+1)*3=a*6+3 by omega] at hR2;rw [show a*6+3+1=a*6+4 by omega,show a*6+3+2=a*6+5 by omega] at hR2;have hset:=flat_set m a ((m1,s1,d1),m3,s3,d3);obtain ⟨hk0,hk1⟩:=flat_get m a ham;rw [hmx] at hk0 hk1;simp only at hset hk0 hk1 hR2;have hsame:flat (m.set a ((m1,s1,d1),m3,s3,d3))=(flat m).set (2*a+1) (m3,s3,d3):=by
  rw [hset]
  apply List.ext_getElem?
  intro j
  by_cases h1:j=2*a+1
  ·subst h1;rw [List.getElem?_set_self (by rw [List.length_set,hln];omega),List.getElem?_set_self (by rw [hln];omega)]
  ·rw [List.getElem?_set_ne (by omega),List.getElem?_set_ne (show 2*a+1≠j by omega)]
   by_cases h2:j=2*a
   ·subst h2;rw [List.getElem?_set_self (by rw [hln];omega),hk0]
   ·rw [List.getElem?_set_ne (by omega)]
 rw [← hsame] at hR2;exact ⟨g,c',rfl,hg,hc',hR2,((hb.setCell hg _).setCell hg _).setCell hg _⟩
end Go.Proofs.YtlmckjodahbgbaaGreatDoor
namespace Go.Proofs.YtlmckjodahbgbaaGreatDoor
set_option maxRecDepth 100000
set_option maxHeartbeats 6400000
open Go.RowKit Go.Shelf
theorem SAt.drewd {w:World} {ad:Option Addr} {l:List SV} (h:SAt w ad l):SAt w.drew ad l:=h
theorem half_formed (up:Bool) {x:SV} (h:fS x=x):fS (halfS up x)=halfS up x:=by
 rw [← h];unfold halfS
 split
 ·show (canonN (loS (upH (fS x))),canonN (hiS (upH (fS x))))=_;rw [lo_upH,hi_upH];unfold upH;rw [mS_fS];rfl
 ·show (canonN (loS (lowH (fS x))),canonN (hiS (lowH (fS x))))=_;rw [lo_lowH,hi_lowH];unfold lowH;rw [mS_fS];rfl
theorem map_same {m:List SV} (h:∀ x∈m,fS x=x):m.map fS=m:=by
 conv=>rhs;rw [← List.map_id m]
 exact List.map_congr_left fun x hx=>h x hx
theorem halfB_formed (up:Bool) {m:List SV} (a:Nat) (ha:a<m.length) (h:∀ x∈m,fS x=x):∀ x∈halfB up m a,fS x=x:=by
 intro x hx;unfold halfB at hx
 rcases List.mem_or_eq_of_mem_set hx with hx|rfl
 ·exact h x hx
 ·rw [List.getD_eq_getElem?_getD,List.getElem?_eq_getElem ha];exact half_formed up (h _ (List.getElem_mem ha))
theorem rbpart_any (w:World) (ad:Option Addr) (l:List SV) (n c:Nat) (hn:l.length=n) (hmax:n≤1000) (hl:SAt w ad l) {B E:Nat} (hsm:∀ x∈l,GS B E x) (hB:B≤300) (hE:E≤2000) (bd:Option Addr) (hs:List Int) (n' c' : Nat) (hn' : hs.length=n') (hmax' : n'≤60) (hh:RI w bd hs) (hz:∀ z∈hs,z<9223372036854775808) (aw:Bool) (haw:hs.any (wrongB n)=aw) :
  Calls Tryz.prog 34 #[.slice ad n c,.slice bd n' c'] w (fun e w'=>Below w.heap.size w w'∧((aw=true∧e=.returned (.tuple #[.slice none 0 0,.bool false]))∨(aw=false∧∃ od oc,e=.returned (.tuple #[.slice od n oc,.bool true])∧SAt w' od (partB (l.map fS) hs)))):=by
 have hc:=rbform_any w ad l n c hn hmax hl (fun x h=>(hsm x h).o2.o3);have hok:∀ x∈l.map fS,GS B E x:=fun x hx=>by
  obtain ⟨y,hy,rfl⟩:=List.mem_map.1 hx;exact (hsm y hy).form (by omega) (by omega)
 have hfo:∀ x∈l.map fS,fS x=x:=fun x hx=>by
  obtain ⟨y,hy,rfl⟩:=List.mem_map.1 hx;exact fS_fS y
 have hlen:(l.map fS).length=n:=by rw [List.length_map,hn]
 have HC:=Lib.hid (And.intro hok (And.intro hfo (And.intro hlen hz)));clear hl hsm hn hok hfo hlen hz;have HA:=Lib.hid haw;clear haw;generalize l.map fS=m at *;go_enter Tryz.func34,Tryz.ntmps34;go_wp2_with fail;refine hc.mono ?_;rintro e W ⟨v,rfl,hown,hb⟩;obtain ⟨od,oc,rfl,-,hR0⟩:=own_sat HC.out.2.2.1 hown;clear hc hown;go_wp2
 go_loopw [6,7] (fun ov iv wr=>∃ (k:Nat) (od:Option Addr) (oc:Nat),iv=.int .i64 k∧k≤n'∧ov=.slice od n oc∧SAt wr od (partB m (hs.take k))∧(∀ x∈partB m (hs.take k),GS (B+k) (E+k) x)∧(∀ x∈partB m (hs.take k),fS x=x)∧(hs.take k).any (wrongB n)=false∧Below w.heap.size w wr) (fun _ iv _=>n'-intY iv)
 case atStart=>exact ⟨0,od,oc,rfl,Nat.zero_le _,rfl,hR0,HC.out.1,HC.out.2.1,rfl,hb⟩
 case round =>
  clear hR0 hb;obtain ⟨k,od,oc,rfl,hk,rfl,hR,hgs,hfm,hno,hb⟩:=hrel
  by_cases hlt:k<n'
  ·have hkl:k<hs.length:=by omega
   obtain ⟨lb,lo,rfl,hlb,c0⟩:=hh k hkl;rw [← hb.cell hlb] at c0;have hzk:=HC.out.2.2.2 _ (List.getElem_mem hkl);have hbad:wrongB n hs[k]=true→aw=true:=fun h=>by rw [← HA.out];exact List.any_eq_true.2 ⟨_,List.getElem_mem hkl,h⟩
   have hno2:wrongB n hs[k]=false→(hs.take (k+1)).any (wrongB n)=false:=fun h=>any_takeI hkl hno h;have hbl:(partB m (hs.take k)).length=n:=by rw [partB_len];exact HC.out.2.2.1
   have hnx:=partB_take (m:=m) hkl;have hz:True:=trivial;generalize partB m (hs.take k)=b at *;generalize hs[k]=z at *
   by_cases hz0:z<0
   ·have hw:wrongB n z=true:=by unfold wrongB;rw [decide_eq_true hz0];rfl
    have HB:=Lib.hid (hbad hw);clear hbad hno2 hw hnx hgs hfm hno hbl hR hh;go_wp2;go_ret2;exact ⟨hb,.inl ⟨HB.out,rfl⟩⟩
   obtain ⟨q,rfl⟩:∃ q:Nat,z=q:=⟨z.toNat,by omega⟩;simp only [Int.toNat_natCast] at hnx;obtain ⟨a,ha⟩:∃ a,q / 2=a:=⟨_,rfl⟩;have hq2:(q:Int) / 2=(a:Int):=by omega
   have hq3:(q:Int).tdiv 2=(a:Int):=by rw [← hq2];rfl
   rw [ha] at hnx
   by_cases han:n≤a
   ·have hw:wrongB n q=true:=by unfold wrongB;rw [Int.toNat_natCast,ha,decide_eq_true han];exact Bool.or_true _
    have HB:=Lib.hid (hbad hw);have han2:(n:Int)≤a:=by omega
    clear hbad hno2 hw hnx hgs hfm hno hbl hR hh ha;go_wp2;go_ret2;exact ⟨hb,.inl ⟨HB.out,rfl⟩⟩
   ·have hw:wrongB n q=false:=by unfold wrongB;rw [Int.toNat_natCast,ha,decide_eq_false han,decide_eq_false hz0];rfl
    replace hno2:=hno2 hw;have han2:¬(n:Int)≤a:=by omega
    have hw2:0≤a∧a<n:=by omega
    clear hbad hw ha
    go_upto_region 7 with fail
    by_cases hodd:q % 2=1
    ·have hr2:(q:Int) % 2=1:=by omega
     have hr3:(q:Int).tmod 2=1:=by rw [← hr2];rfl
     have hdec:decide (q % 2=1)=true:=by rw [decide_eq_true];omega
     rw [hdec] at hnx;have hc:=fun W h=>rbhalf_true W od b n oc a hbl hw2.2 (by omega) h (fun x h=>(hgs x h).o2.o3);rw [map_same hfm] at hc;have hgs2:=half_small hgs true a (by omega) (by omega) (by omega);have hfm2:=halfB_formed true a (by omega:a<b.length) hfm;rw [← hnx] at hc hgs2 hfm2;have HX:=Lib.hid (And.intro hc (And.intro hgs2 (And.intro hfm2 hno2)));have hwa:IntKind.i64.wrap (a:Int)=(a:Int):=by rw [IntKind.wrap_i64];omega
     have c0' : wr.drew.cell? ⟨lb,lo+k,none⟩=some (.int .i64 (q:Int)):=c0;have hRd:=hR.drew;have hbd:=hb.drew;clear hc hgs2 hfm2 hno2 hgs hfm hnx hdec hodd c0 hno hw2 hz hh hbl hR hb;go_wp2
     go_region_law (first
      | (go_simp;go_at_call 32;refine (HX.out.1 _ hRd).mono ?_;rintro ew V3 ⟨g3,c3',rfl,hg3,hc3,hR3,hq3⟩))
     all_goals
      have hb:=below_next hbd hq3;have hR4:=SAt.of_flat hR3.nat;clear hbd hRd hR3 hg3 hc3 hq3;go_wp2;exact ⟨⟨k+1,_,_,rfl,hlt,rfl,hR4,HX.out.2.1,HX.out.2.2.1,HX.out.2.2.2,hb⟩,by simp [intY];omega⟩
    ·have hr2:(q:Int) % 2=0:=by omega
     have hr3:(q:Int).tmod 2=0:=by rw [← hr2];rfl
     have hdec:decide (q % 2=1)=false:=by rw [decide_eq_false];omega
     rw [hdec] at hnx;have hc:=fun W h=>rbhalf_false W od b n oc a hbl hw2.2 (by omega) h (fun x h=>(hgs x h).o2.o3);rw [map_same hfm] at hc;have hgs2:=half_small hgs false a (by omega) (by omega) (by omega);have hfm2:=halfB_formed false a (by omega:a<b.length) hfm;rw [← hnx] at hc hgs2 hfm2;have HX:=Lib.hid (And.intro hc (And.intro hgs2 (And.intro hfm2 hno2)));have hwa:IntKind.i64.wrap (a:Int)=(a:Int):=by rw [IntKind.wrap_i64];omega
     have c0' : wr.drew.cell? ⟨lb,lo+k,none⟩=some (.int .i64 (q:Int)):=c0;have hRd:=hR.drew;have hbd:=hb.drew;clear hc hgs2 hfm2 hno2 hgs hfm hnx hdec hodd c0 hno hw2 hz hh hbl hR hb;go_wp2
     go_region_law (first
      | (go_simp;go_at_call 32;refine (HX.out.1 _ hRd).mono ?_;rintro ew V3 ⟨g3,c3',rfl,hg3,hc3,hR3,hq3⟩))
     all_goals
      have hb:=below_next hbd hq3;have hR4:=SAt.of_flat hR3.nat;clear hbd hRd hR3 hg3 hc3 hq3;go_wp2;exact ⟨⟨k+1,_,_,rfl,hlt,rfl,hR4,HX.out.2.1,HX.out.2.2.1,HX.out.2.2.2,hb⟩,by simp [intY];omega⟩
  ·obtain rfl:k=n':=by omega
   rw [List.take_of_length_le (by omega)] at hR hno;have HN:=Lib.hid (HA.out.symm.trans hno);clear hno hgs hfm hh;go_wp2;go_ret2;exact ⟨hb,.inr ⟨HN.out,od,oc,rfl,hR⟩⟩
end Go.Proofs.YtlmckjodahbgbaaGreatDoor
namespace Go.Proofs.YtlmckjodahbgbaaGreatDoor
open Go.RowKit Go.Shelf Go.Lib
theorem zero_one (n:Nat):∀ v∈(Builtin.zeroCells (Value.cells (.agg #[.bool false,.string ⟨#[]⟩,.int .i64 0,.bool false,.string ⟨#[]⟩,.int .i64 0])) n).toList,v.oneCell'=true:=by
 intro v hv;have hz:Value.cells (.agg #[.bool false,.string ⟨#[]⟩,.int .i64 0,.bool false,.string ⟨#[]⟩,.int .i64 0])=#[.bool false,.string ⟨#[]⟩,.int .i64 0,.bool false,.string ⟨#[]⟩,.int .i64 0]:=rfl;rw [hz] at hv;simp [Builtin.zeroCells] at hv;obtain ⟨a,-,rfl⟩:=hv
 rcases (show a % 6=0∨a % 6=1∨a % 6=2∨a % 6=3∨a % 6=4∨a % 6=5 by omega) with h|h|h|h|h|h <;> rw [h] <;> rfl
theorem run_clear (w:World) (ty:TypeId) (g n c:Nat) (l:List NV) (hl:l.length=2*n) (h:Rp w g l) :
  ∃ w',(Builtin.clear_ #[23] ty #[.slice (some ⟨g,0,none⟩) n c]).run Tryz.prog w=.ok (.tuple #[]) w'∧w.grownBy w' (some g):=by
 obtain ⟨i,hi,hz,hs,hb⟩:=info_parts infoSz;obtain ⟨T,L,hR,hk⟩:=h;have hT:=Tryz.underlying23
 cases n with
 | zero=>exact ⟨w,by simp [Builtin.clear_,run_underlying hT],grown_same _ _⟩
 | succ n =>
  have hL:(n+1)*6≤L.length:=by
   have h1:(L.take (l.length*3)).length=l.length*3:=by rw [hk,ncells_len]
   rw [List.length_take,hl] at h1;omega
  have hst:=run_storeCells_at Tryz.prog g 0 T (Builtin.zeroCells (Value.cells (.agg #[.bool false,.string ⟨#[]⟩,.int .i64 0,.bool false,.string ⟨#[]⟩,.int .i64 0])) (n+1)).toList 0 L.toArray w hR (by
   rw [Array.length_toList,size_zeroCells]
   have:(Value.cells (.agg #[.bool false,.string ⟨#[]⟩,.int .i64 0,.bool false,.string ⟨#[]⟩,.int .i64 0])).size=6:=rfl
   rw [this,List.size_toArray];omega) (zero_one _)
  simp only [Nat.add_zero] at hst;obtain ⟨cs,hst⟩:∃ cs,(storeCells ⟨g,0,none⟩ (Builtin.zeroCells (Value.cells (.agg #[.bool false,.string ⟨#[]⟩,.int .i64 0,.bool false,.string ⟨#[]⟩,.int .i64 0])) (n+1)).toList).run Tryz.prog w=.ok () (w.setRow g cs):=⟨_,hst⟩;refine ⟨w.setRow g cs,by simp [Builtin.clear_,run_underlying hT,zeroValue,typeInfo,hi,hz,hst],⟨rfl,rfl,rfl,by simp,fun k _ hk=>setRow_other w g k _ (fun e=>hk (by rw [e]))⟩⟩
theorem clear_none (W:World) (ty:TypeId):Sem.run Tryz.prog (Builtin.clear_ #[23] ty #[.slice none 0 0]) W=.ok (.tuple #[]) W:=by
 simp [Builtin.clear_,run_underlying Tryz.underlying23]
theorem wpList_clear {w:World} {ops:Array Oper} {rest:List Oper} {o:Oper} {a:Act} {Q:Exit→Act→World→Prop} (hgd:o.guard=none) (y:Operand)
  (ho:o.op=.call { callee:=.builtin .clear,args:=#[y],argTypes:=#[23] }) {g n c:Nat} {l:List NV} (hl:l.length=2*n) (hx:a.eval y=.slice (some ⟨g,0,none⟩) n c) (h:Rp w g l)
  (hk:∀ w',w.grownBy w' (some g)→wpList Tryz.prog ops Q rest (a.put o.dst (.tuple #[])) w'):wpList Tryz.prog ops Q (o::rest) a w:=by
 refine wpList_plain hgd fun K hK=>?_;obtain ⟨w',hr,hg⟩:=run_clear w o.type g n c l hl h;unfold Oper.wp execOp;simp only [ho,resolve,invoke,builtin,Sem.run_bind,Sem.run_pure,Result.andThen_ok,List.map_toArray,List.map_cons,List.map_nil,hx,hr];exact hK _ _ (hk w' hg)
end Go.Proofs.YtlmckjodahbgbaaGreatDoor
namespace Go.Proofs.YtlmckjodahbgbaaGreatDoor
set_option maxRecDepth 100000
set_option maxHeartbeats 6400000
open Go.RowKit Go.Shelf
theorem boxparts_law (w:World) (ad:Option Addr) (l:List SV) (n c:Nat) (hn:l.length=n) (_hc:n≤c∧(ad=none→c=0)) (hl:SAt w ad l) (hm:n≤maxLen) (_hw:∀ x∈l,(x.1.2.1.size≤maxLen∧(Lit.int .i64 x.1.2.2).wf=true)∧(x.2.2.1.size≤maxLen∧(Lit.int .i64 x.2.2.2).wf=true))
  (z:Int) (_hz:(Lit.int .i64 z).wf=true)
  (bd:Option Addr) (hs:List Int) (n' c' : Nat) (hn' : hs.length=n') (hh:RI w bd hs) (hwf:∀ y∈hs,y<9223372036854775808) :
  Calls Tryz.prog 5 #[.slice ad n c,.int .i64 z,.slice bd n' c'] w (Ret (.bool true) w):=by
 have hv:=vast_any w ad none l [] n c 0 0 hn rfl hm (Nat.zero_le _) hl (fun i h=>absurd h (Nat.not_lt_zero _));obtain ⟨r,hr⟩:∃ r,vastB l []=r:=⟨_,rfl⟩;obtain ⟨aw,haw⟩:∃ aw,hs.any (wrongB n)=aw:=⟨_,rfl⟩;rw [hr] at hv;have HR:=Lib.hid hr;have HA:=Lib.hid haw;have HZ:=Lib.hid hwf;clear hr haw hwf _hw hm _hc _hz;go_enter Tryz.func5,Tryz.ntmps5;go_wp2_with fail;refine hv.mono ?_;rintro e W ⟨rfl,hb⟩;clear hv
 cases r with
 | true =>
  have ha:=awake_any W;clear hl hh HR;go_wp2_with fail;refine ha.mono ?_;rintro e W2 ⟨rfl,hq⟩;go_wp2;go_ret;exact ⟨rfl,below_next hb hq⟩
 | false =>
  obtain ⟨h8,-,hsm,-⟩:=vast_no HR.out;clear HR
  by_cases h40:40<n'
  ·have h41:(40:Int)<n':=by omega
   have ha:=awake_any W;clear hl hh hsm;go_wp2_with fail;refine ha.mono ?_;rintro e W2 ⟨rfl,hq⟩;go_wp2;go_ret;exact ⟨rfl,below_next hb hq⟩
  have h41:¬(40:Int)<n':=by omega
  replace hl:=hl.below hb;replace hh:=hh.below hb;obtain ⟨i0,hi,hz0,hsz,hbt⟩:=info_parts infoSz;have hlen:(flat l).length*3=n*6:=by rw [flat_len,hn];omega
  have hn9:0+n≤1000000:=by omega
  have HS:=Lib.hid (And.intro hsm (And.intro (fun x h=>(hsm x h).o2) (fun x h=>(hsm x h).o2.o3)));clear hsm;have hown:(W.alloc (.cells #[] 60)).ownsRow w.heap.size 60 6 (.slice (some ⟨W.heap.size,0,none⟩) 0 0) 0 (ncells []):=
   ⟨rfl,.inr ⟨W.heap.size,0,#[],rfl,hb.size,Rw.new W 60 [],Nat.le_refl _,Nat.zero_le _,rfl,rfl⟩⟩
  have hb1:=hb.alloc hb.size (.cells #[] 60);have hN:=(hl.alloc (.cells #[] 60)).nums;go_wp2_with (first|(at_builtin;refine wpList_append_nat Tryz.underlying23 hi hz0 hsz hbt rfl (by decide) (by decide) rfl (.tmp 23) (.tmp 24) rfl (m:=n) rfl hown hb1.size rfl hN hlen hn9 ?_));intro v' W5 ho hg;have hWl:W.heap.size≤(W.alloc (.cells #[] 60)).heap.size:=by rw [World.size_alloc];exact Nat.le_succ _
  replace ho:W5.ownsRow w.heap.size 60 6 v' n (ncells (flat l)):=by simpa using ho
  have hq:Below W.heap.size W W5:=Below.grown ((Below.refl W.heap.size W).alloc (Nat.le_refl _) (.cells #[] 60)) hg hWl (fun k hk=>by simp only [Value.ownBlock,Option.some.injEq] at hk;omega);obtain ⟨od,oc,rfl,-,hO⟩:=own_sat hn ho;replace hb:=below_next hb hq;replace hl:=hl.below hq;replace hh:=hh.below hq;clear hq hWl hN hown hb1 ho hg hlen hn9;have hb2:=Below.refl W5.heap.size W5;have hclr:=fun W=>clear_none W 0
  by_cases hax:z<0∨(n:Int)≤z
  ·have hc:=bhalve_no W5 od n oc z hax;go_wp2_with fail;refine hc.mono ?_;rintro e W6 ⟨rfl,hq⟩;replace hb2:=below_next hb2 hq;clear hc hq
   by_cases hz1:z<0
   ·skip
    cases aw with
    | true =>
     have hc:=bpart_no W6 od n oc (by omega) bd hs n' c' hn' (by omega) (hh.below hb2) HZ.out HA.out;go_wp2_with fail;refine hc.mono ?_;rintro e W11 ⟨rfl,hq⟩;clear hc;replace hb2:=below_next hb2 hq;clear hq;have hc:=rbpart_any W11 ad l n c hn (by omega) (hl.below hb2) HS.out.1 (by decide) (by decide) bd hs n' c' hn' (by omega) (hh.below hb2) HZ.out true HA.out;go_wp2_with fail;refine hc.mono ?_;rintro e Wp ⟨hq,hor⟩;clear hc
     rcases hor with ⟨-,rfl⟩|⟨h0,-⟩
     case inr=>cases h0
     replace hb2:=below_next hb2 hq;clear hq;have hc:=sameB_any Wp none none 0 0 0 [] rfl (by decide) (fun i h=>absurd h (Nat.not_lt_zero _)) (fun i h=>absurd h (Nat.not_lt_zero _));go_wp2_with fail;refine hc.mono ?_;rintro e W12 ⟨rfl,hq⟩;clear hc;replace hb2:=below_next hb2 hq;clear hq;have hc:=sameB_any W12 od ad n oc c l hn (by omega) (hO.below hb2) (hl.below hb2);go_wp2_with fail;refine hc.mono ?_;rintro e W13 ⟨rfl,hq⟩;clear hc;replace hb2:=below_next hb2 hq;clear hq;have ha:=awake_any W13;go_wp2_with fail;refine ha.mono ?_;rintro e WZ ⟨rfl,hq⟩;go_wp2;go_ret;exact ⟨rfl,below_next (below_next hb hb2) hq⟩
    | false =>
     have hszP:=hb2.size;have hc:=bpart_any W6 od l n oc hn (by omega) (hO.below hb2) HS.out.1 (by decide) (by decide) bd hs n' c' hn' (by omega) (hh.below hb2) HZ.out HA.out;go_wp2_with fail;refine hc.mono ?_;rintro e W11 ⟨g5,c5,rfl,hg5,hc5,hP,hq⟩;clear hc;replace hb2:=below_next hb2 hq;clear hq;replace hg5:W5.heap.size≤g5:=Nat.le_trans hszP hg5;have hc:=rbpart_any W11 ad l n c hn (by omega) (hl.below hb2) HS.out.1 (by decide) (by decide) bd hs n' c' hn' (by omega) (hh.below hb2) HZ.out false HA.out;go_wp2_with fail;refine hc.mono ?_;rintro e Wp ⟨hq,hor⟩;clear hc
     rcases hor with ⟨h0,-⟩|⟨-,od3,oc3,rfl,hQ⟩
     case inl=>cases h0
     replace hb2:=below_next hb2 hq;replace hP:=hP.below hq;clear hq;have hpl:(partB (l.map fS) hs).length=n:=by rw [partB_len,List.length_map,hn]
     have hc:=sameB_any Wp (some ⟨g5,0,none⟩) od3 n c5 oc3 (partB (l.map fS) hs) hpl (by omega) (SAt.of_flat hP.nat) hQ;go_wp2_with fail;refine hc.mono ?_;rintro e W12 ⟨rfl,hq⟩;clear hc;replace hb2:=below_next hb2 hq;replace hP:=hP.below hq;clear hq;have hfl:(flat (partB (l.map fS) hs)).length=2*n:=by rw [flat_len,hpl]
     go_wp2_with (first|(refine wpList_clear rfl (.tmp 100) rfl hfl rfl hP ?_));intro Wc hgc;replace hb2:=Below.grown hb2 hgc hb2.size (fun j hj=>by injection hj with hj;omega);clear hgc hP hQ hfl hpl;have hc:=sameB_any Wc od ad n oc c l hn (by omega) (hO.below hb2) (hl.below hb2);go_wp2_with fail;refine hc.mono ?_;rintro e W13 ⟨rfl,hq⟩;clear hc;replace hb2:=below_next hb2 hq;clear hq;have ha:=awake_any W13;go_wp2_with fail;refine ha.mono ?_;rintro e WZ ⟨rfl,hq⟩;go_wp2;go_ret;exact ⟨rfl,below_next (below_next hb hb2) hq⟩
   ·have hz2:(n:Int)≤z:=by omega
    cases aw with
    | true =>
     have hc:=bpart_no W6 od n oc (by omega) bd hs n' c' hn' (by omega) (hh.below hb2) HZ.out HA.out;go_wp2_with fail;refine hc.mono ?_;rintro e W11 ⟨rfl,hq⟩;clear hc;replace hb2:=below_next hb2 hq;clear hq;have hc:=rbpart_any W11 ad l n c hn (by omega) (hl.below hb2) HS.out.1 (by decide) (by decide) bd hs n' c' hn' (by omega) (hh.below hb2) HZ.out true HA.out;go_wp2_with fail;refine hc.mono ?_;rintro e Wp ⟨hq,hor⟩;clear hc
     rcases hor with ⟨-,rfl⟩|⟨h0,-⟩
     case inr=>cases h0
     replace hb2:=below_next hb2 hq;clear hq;have hc:=sameB_any Wp none none 0 0 0 [] rfl (by decide) (fun i h=>absurd h (Nat.not_lt_zero _)) (fun i h=>absurd h (Nat.not_lt_zero _));go_wp2_with fail;refine hc.mono ?_;rintro e W12 ⟨rfl,hq⟩;clear hc;replace hb2:=below_next hb2 hq;clear hq;have hc:=sameB_any W12 od ad n oc c l hn (by omega) (hO.below hb2) (hl.below hb2);go_wp2_with fail;refine hc.mono ?_;rintro e W13 ⟨rfl,hq⟩;clear hc;replace hb2:=below_next hb2 hq;clear hq;have ha:=awake_any W13;go_wp2_with fail;refine ha.mono ?_;rintro e WZ ⟨rfl,hq⟩;go_wp2;go_ret;exact ⟨rfl,below_next (below_next hb hb2) hq⟩
    | false =>
     have hszP:=hb2.size;have hc:=bpart_any W6 od l n oc hn (by omega) (hO.below hb2) HS.out.1 (by decide) (by decide) bd hs n' c' hn' (by omega) (hh.below hb2) HZ.out HA.out;go_wp2_with fail;refine hc.mono ?_;rintro e W11 ⟨g5,c5,rfl,hg5,hc5,hP,hq⟩;clear hc;replace hb2:=below_next hb2 hq;clear hq;replace hg5:W5.heap.size≤g5:=Nat.le_trans hszP hg5;have hc:=rbpart_any W11 ad l n c hn (by omega) (hl.below hb2) HS.out.1 (by decide) (by decide) bd hs n' c' hn' (by omega) (hh.below hb2) HZ.out false HA.out;go_wp2_with fail;refine hc.mono ?_;rintro e Wp ⟨hq,hor⟩;clear hc
     rcases hor with ⟨h0,-⟩|⟨-,od3,oc3,rfl,hQ⟩
     case inl=>cases h0
     replace hb2:=below_next hb2 hq;replace hP:=hP.below hq;clear hq;have hpl:(partB (l.map fS) hs).length=n:=by rw [partB_len,List.length_map,hn]
     have hc:=sameB_any Wp (some ⟨g5,0,none⟩) od3 n c5 oc3 (partB (l.map fS) hs) hpl (by omega) (SAt.of_flat hP.nat) hQ;go_wp2_with fail;refine hc.mono ?_;rintro e W12 ⟨rfl,hq⟩;clear hc;replace hb2:=below_next hb2 hq;replace hP:=hP.below hq;clear hq;have hfl:(flat (partB (l.map fS) hs)).length=2*n:=by rw [flat_len,hpl]
     go_wp2_with (first|(refine wpList_clear rfl (.tmp 100) rfl hfl rfl hP ?_));intro Wc hgc;replace hb2:=Below.grown hb2 hgc hb2.size (fun j hj=>by injection hj with hj;omega);clear hgc hP hQ hfl hpl;have hc:=sameB_any Wc od ad n oc c l hn (by omega) (hO.below hb2) (hl.below hb2);go_wp2_with fail;refine hc.mono ?_;rintro e W13 ⟨rfl,hq⟩;clear hc;replace hb2:=below_next hb2 hq;clear hq;have ha:=awake_any W13;go_wp2_with fail;refine ha.mono ?_;rintro e WZ ⟨rfl,hq⟩;go_wp2;go_ret;exact ⟨rfl,below_next (below_next hb hb2) hq⟩
  ·obtain ⟨a,rfl⟩:∃ a:Nat,z=a:=⟨z.toNat,by omega⟩;have han:a<n:=by omega
   have hz1:¬(a:Int)<0:=by omega
   have hz2:¬(n:Int)≤a:=by omega
   clear hax;have hc:=bhalve_any W5 od l n oc a hn han (by omega) hO HS.out.2.1;go_wp2_with fail;refine hc.mono ?_;rintro e W6 ⟨g1,g2,c1,c2,rfl,hg1,hg2,hc1,hc2,hX,hY,hq⟩;replace hb2:=below_next hb2 hq;clear hc hq;have n1:(halfB false (l.map fS) a).length=n:=by rw [half_len,hn]
   have n2:(halfB true (l.map fS) a).length=n:=by rw [half_len,hn]
   have hc:=rbhalf_false W6 ad l n c a hn han (by omega) (hl.below hb2) HS.out.2.2;go_wp2_with fail;refine hc.mono ?_;rintro e W11 ⟨g3,c3,rfl,-,-,hH,hq⟩;clear hc;replace hb2:=below_next hb2 hq;replace hX:=hX.below hq;replace hY:=hY.below hq;clear hq;have hc:=sameB_any W11 (some ⟨g1,0,none⟩) (some ⟨g3,0,none⟩) n c1 c3 _ n1 (by omega) (SAt.of_flat hX.nat) (SAt.of_flat hH.nat);go_wp2_with fail;refine hc.mono ?_;rintro e W12 ⟨rfl,hq⟩;clear hc;replace hb2:=below_next hb2 hq;replace hX:=hX.below hq;replace hY:=hY.below hq;replace hH:=hH.below hq;clear hq;clear hH;have hc:=rbhalf_true W12 ad l n c a hn han (by omega) (hl.below hb2) HS.out.2.2;go_wp2_with fail;refine hc.mono ?_;rintro e W13 ⟨g3,c3,rfl,-,-,hH,hq⟩;clear hc;replace hb2:=below_next hb2 hq;replace hX:=hX.below hq;replace hY:=hY.below hq;clear hq;have hc:=sameB_any W13 (some ⟨g2,0,none⟩) (some ⟨g3,0,none⟩) n c2 c3 _ n2 (by omega) (SAt.of_flat hY.nat) (SAt.of_flat hH.nat);go_wp2_with fail;refine hc.mono ?_;rintro e W14 ⟨rfl,hq⟩;clear hc;replace hb2:=below_next hb2 hq;replace hX:=hX.below hq;replace hY:=hY.below hq;replace hH:=hH.below hq;clear hq;clear hH;have hfl:(flat (halfB false (l.map fS) a)).length=2*n:=by rw [flat_len,n1]
   go_wp2_with (first|(refine wpList_clear rfl (.tmp 69) rfl hfl rfl hX ?_));intro Wd hgd;replace hb2:=Below.grown hb2 hgd hb2.size (fun j hj=>by injection hj with hj;omega);clear hgd hX hY hfl n1 n2 hg2
   cases aw with
   | true =>
    have hc:=bpart_no Wd od n oc (by omega) bd hs n' c' hn' (by omega) (hh.below hb2) HZ.out HA.out;go_wp2_with fail;refine hc.mono ?_;rintro e W15 ⟨rfl,hq⟩;clear hc;replace hb2:=below_next hb2 hq;clear hq;have hc:=rbpart_any W15 ad l n c hn (by omega) (hl.below hb2) HS.out.1 (by decide) (by decide) bd hs n' c' hn' (by omega) (hh.below hb2) HZ.out true HA.out;go_wp2_with fail;refine hc.mono ?_;rintro e Wp ⟨hq,hor⟩;clear hc
    rcases hor with ⟨-,rfl⟩|⟨h0,-⟩
    case inr=>cases h0
    replace hb2:=below_next hb2 hq;clear hq;have hc:=sameB_any Wp none none 0 0 0 [] rfl (by decide) (fun i h=>absurd h (Nat.not_lt_zero _)) (fun i h=>absurd h (Nat.not_lt_zero _));go_wp2_with fail;refine hc.mono ?_;rintro e W16 ⟨rfl,hq⟩;clear hc;replace hb2:=below_next hb2 hq;clear hq;have hc:=sameB_any W16 od ad n oc c l hn (by omega) (hO.below hb2) (hl.below hb2);go_wp2_with fail;refine hc.mono ?_;rintro e W17 ⟨rfl,hq⟩;clear hc;replace hb2:=below_next hb2 hq;clear hq;have ha:=awake_any W17;go_wp2_with fail;refine ha.mono ?_;rintro e WZ ⟨rfl,hq⟩;go_wp2;go_ret;exact ⟨rfl,below_next (below_next hb hb2) hq⟩
   | false =>
    have hszP:=hb2.size;have hc:=bpart_any Wd od l n oc hn (by omega) (hO.below hb2) HS.out.1 (by decide) (by decide) bd hs n' c' hn' (by omega) (hh.below hb2) HZ.out HA.out;go_wp2_with fail;refine hc.mono ?_;rintro e W15 ⟨g5,c5,rfl,hg5,hc5,hP,hq⟩;clear hc;replace hb2:=below_next hb2 hq;clear hq;replace hg5:W5.heap.size≤g5:=Nat.le_trans hszP hg5;have hc:=rbpart_any W15 ad l n c hn (by omega) (hl.below hb2) HS.out.1 (by decide) (by decide) bd hs n' c' hn' (by omega) (hh.below hb2) HZ.out false HA.out;go_wp2_with fail;refine hc.mono ?_;rintro e Wp ⟨hq,hor⟩;clear hc
    rcases hor with ⟨h0,-⟩|⟨-,od3,oc3,rfl,hQ⟩
    case inl=>cases h0
    replace hb2:=below_next hb2 hq;replace hP:=hP.below hq;clear hq;have hpl:(partB (l.map fS) hs).length=n:=by rw [partB_len,List.length_map,hn]
    have hc:=sameB_any Wp (some ⟨g5,0,none⟩) od3 n c5 oc3 (partB (l.map fS) hs) hpl (by omega) (SAt.of_flat hP.nat) hQ;go_wp2_with fail;refine hc.mono ?_;rintro e W16 ⟨rfl,hq⟩;clear hc;replace hb2:=below_next hb2 hq;replace hP:=hP.below hq;clear hq;have hfl:(flat (partB (l.map fS) hs)).length=2*n:=by rw [flat_len,hpl]
    go_wp2_with (first|(refine wpList_clear rfl (.tmp 100) rfl hfl rfl hP ?_));intro Wc hgc;replace hb2:=Below.grown hb2 hgc hb2.size (fun j hj=>by injection hj with hj;omega);clear hgc hP hQ hfl hpl;have hc:=sameB_any Wc od ad n oc c l hn (by omega) (hO.below hb2) (hl.below hb2);go_wp2_with fail;refine hc.mono ?_;rintro e W17 ⟨rfl,hq⟩;clear hc;replace hb2:=below_next hb2 hq;clear hq;have ha:=awake_any W17;go_wp2_with fail;refine ha.mono ?_;rintro e WZ ⟨rfl,hq⟩;go_wp2;go_ret;exact ⟨rfl,below_next (below_next hb hb2) hq⟩
end Go.Proofs.YtlmckjodahbgbaaGreatDoor
namespace Go.Proofs.YtlmckjodahbgbaaGreatDoor
set_option maxRecDepth 100000
open Go.RowKit Go.ChangeShapes Go.WideShapes Go.Deep
section
variable {H : Type} {enc : TypeId × Value→H} {W : World} {base : Nat} {sp : Nat→Bool} {held : Bool}
theorem open_box {r:Reach} {b0:Nat} {v:Value} {D:DataW H} {ps:List MemPlace} (hval:Value.okWide Tryz.prog W r b0 23 v) (hd:DataW.Trod enc Tryz.prog W base sp held 23 v D ps) :
  ∃ (ad:Option Addr) (l:List SV) (n c:Nat),v=.slice ad n c∧l.length=n∧(n≤c∧(ad=none→c=0))∧SAt W ad l∧n≤maxLen∧∀ x∈l,(x.1.2.1.size≤maxLen∧(Lit.int .i64 x.1.2.2).wf=true)∧(x.2.2.1.size≤maxLen∧(Lit.int .i64 x.2.2.2).wf=true):=by
 obtain ⟨a0,len,cap,rfl⟩:=okWide_slice Tryz.underlying23 hval;obtain ⟨fuel,hf⟩:=hd
 rcases open_slice Tryz.underlying23 hf with ⟨hcs,_⟩|⟨a,len',cap',m,k,D,Pl,hcs,_,hl,hml,hmm,_,hcell⟩
 ·simp [Value.cells] at hcs;obtain ⟨rfl,rfl,rfl⟩:=hcs;exact ⟨none,[],0,0,rfl,rfl,⟨Nat.le_refl _,fun _=>rfl⟩,fun i h=>by simp at h,Nat.zero_le _,fun x h=>by simp at h⟩
 ·simp [Value.cells] at hcs;obtain ⟨rfl,rfl,rfl⟩:=hcs;have hlm:len≤m:=by rw [hmm];split <;> omega
  obtain ⟨b,off,spot⟩:=a;have each:∀ i,i<len→∃ q:SV,spot=none∧b<W.heap.size∧(W.cell? ⟨b,off+i*6,none⟩=some (.bool q.1.1)∧W.cell? ⟨b,off+i*6+1,none⟩=some (.string q.1.2.1)∧W.cell? ⟨b,off+i*6+2,none⟩=some (.int .i64 q.1.2.2)) ∧
    (W.cell? ⟨b,off+i*6+3,none⟩=some (.bool q.2.1)∧W.cell? ⟨b,off+i*6+4,none⟩=some (.string q.2.2.1)∧W.cell? ⟨b,off+i*6+5,none⟩=some (.int .i64 q.2.2.2)) ∧
    (q.1.2.1.size≤maxLen∧(Lit.int .i64 q.1.2.2).wf=true)∧(q.2.2.1.size≤maxLen∧(Lit.int .i64 q.2.2.2).wf=true):=by
   intro i hi;obtain ⟨cs',h1,h2⟩:=hcell i (by omega);rw [span_cells] at h1;obtain ⟨_,hlen,hc⟩:=World.cells?_some h1
   match cs',hlen with
   | [c0,c1,c2,c3,c4,c5],_ =>
    obtain ⟨m',s,d,n',t,e,rfl,rfl,rfl,rfl,rfl,rfl,_,hs,ht⟩:=open_span_cells h2;have e0:=hc 0 (by omega);have e1:=hc 1 (by omega);have e2:=hc 2 (by omega);have e3:=hc 3 (by omega);have e4:=hc 4 (by omega);have e5:=hc 5 (by omega);have hspot:spot=none:=by
     obtain ⟨cs0,k1,_⟩:=hcell 0 (by omega);rw [span_cells] at k1;obtain ⟨_,kl,kc⟩:=World.cells?_some k1;have k0:=kc 0 (by omega);rw [List.getElem?_eq_getElem (by omega)] at k0;simpa [Addr.add] using World.cell?_spot k0
    subst hspot;have ea:∀ j:Nat,(⟨b,off,none⟩:Addr).add j=⟨b,off+j,none⟩:=fun j=>by unfold Addr.add;split <;> simp_all
    have eb:∀ p j:Nat,(⟨b,p,none⟩:Addr).add j=⟨b,p+j,none⟩:=fun p j=>by unfold Addr.add;split <;> simp_all
    rw [ea,eb] at e0 e1 e2 e3 e4 e5;exact ⟨((m',s,d),(n',t,e)),rfl,World.block_lt_of_cell? W _ e0,⟨by simpa using e0,by simpa using e1,by simpa using e2⟩,⟨by simpa using e3,by simpa using e4,by simpa using e5⟩,hs,ht⟩
  obtain ⟨q,hq⟩:=choose_lt each;refine ⟨some ⟨b,off,spot⟩,(List.range len).map q,len,cap,rfl,by simp,⟨hl,fun h=>by cases h⟩,fun i hi=>?_,by omega,fun x hx=>?_⟩
  ·simp at hi;obtain ⟨hs0,hb,h0,h1,_⟩:=hq i hi;refine ⟨b,off,by rw [hs0],hb,?_,?_⟩
   ·simpa using h0
   ·simpa using h1
  ·obtain ⟨i,hi,rfl⟩:=List.mem_map.1 hx;exact (hq i (List.mem_range.1 hi)).2.2.2.2
theorem open_point {r:Reach} {b0:Nat} {v:Value} {d:DataW H} {ps:List MemPlace} (hval:Value.okWide Tryz.prog W r b0 25 v) (hd:DataW.Trod enc Tryz.prog W base sp held 25 v d ps) :
  ∃ (ad:Option Addr) (l:List NV) (n c:Nat),v=.slice ad n c∧l.length=n∧(n≤c∧(ad=none→c=0))∧NAt W ad l∧n≤maxLen∧∀ x∈l,x.2.1.size≤maxLen∧(Lit.int .i64 x.2.2).wf=true:=by
 obtain ⟨a0,len,cap,rfl⟩:=okWide_slice Tryz.underlying25 hval;obtain ⟨fuel,hf⟩:=hd
 rcases open_slice Tryz.underlying25 hf with ⟨hcs,_⟩|⟨a,len',cap',m,k,D,Pl,hcs,_,hl,hml,hmm,_,hcell⟩
 ·simp [Value.cells] at hcs;obtain ⟨rfl,rfl,rfl⟩:=hcs;exact ⟨none,[],0,0,rfl,rfl,⟨Nat.le_refl _,fun _=>rfl⟩,fun i h=>by simp at h,Nat.zero_le _,fun x h=>by simp at h⟩
 ·simp [Value.cells] at hcs;obtain ⟨rfl,rfl,rfl⟩:=hcs;have hlm:len≤m:=by rw [hmm];split <;> omega
  obtain ⟨b,off,spot⟩:=a;have each:∀ i,i<len→∃ q:NV,spot=none∧b<W.heap.size∧W.cell? ⟨b,off+i*3,none⟩=some (.bool q.1)∧W.cell? ⟨b,off+i*3+1,none⟩=some (.string q.2.1)∧W.cell? ⟨b,off+i*3+2,none⟩=some (.int .i64 q.2.2)∧q.2.1.size≤maxLen∧(Lit.int .i64 q.2.2).wf=true:=by
   intro i hi;obtain ⟨cs',h1,h2⟩:=hcell i (by omega);rw [num_cells] at h1;obtain ⟨_,hlen,hc⟩:=World.cells?_some h1
   match cs',hlen with
   | [c0,c1,c2],_ =>
    obtain ⟨x,s,e,rfl,rfl,rfl,_,hs,hw⟩:=open_num_cells h2;have e0:=hc 0 (by omega);have e1:=hc 1 (by omega);have e2:=hc 2 (by omega);have hspot:spot=none:=by
     obtain ⟨cs0,k1,_⟩:=hcell 0 (by omega);rw [num_cells] at k1;obtain ⟨_,kl,kc⟩:=World.cells?_some k1;have k0:=kc 0 (by omega);rw [List.getElem?_eq_getElem (by omega)] at k0;simpa [Addr.add] using World.cell?_spot k0
    subst hspot;have ea:∀ j:Nat,(⟨b,off,none⟩:Addr).add j=⟨b,off+j,none⟩:=fun j=>by unfold Addr.add;split <;> simp_all
    have eb:∀ p j:Nat,(⟨b,p,none⟩:Addr).add j=⟨b,p+j,none⟩:=fun p j=>by unfold Addr.add;split <;> simp_all
    rw [ea,eb] at e0 e1 e2;exact ⟨(x,s,e),rfl,World.block_lt_of_cell? W _ e0,by simpa using e0,by simpa using e1,by simpa using e2,hs,hw⟩
  obtain ⟨q,hq⟩:=choose_lt each;refine ⟨some ⟨b,off,spot⟩,(List.range len).map q,len,cap,rfl,by simp,⟨hl,fun h=>by cases h⟩,fun i hi=>?_,by omega,fun x hx=>?_⟩
  ·simp at hi;obtain ⟨hs0,hb,h0,h1,h2,_⟩:=hq i hi;refine ⟨b,off,by rw [hs0],hb,?_,?_,?_⟩
   ·simpa using h0
   ·simpa using h1
   ·simpa using h2
  ·obtain ⟨i,hi,rfl⟩:=List.mem_map.1 hx;exact (hq i (List.mem_range.1 hi)).2.2.2.2.2
end
end Go.Proofs.YtlmckjodahbgbaaGreatDoor
namespace Go.Proofs.YtlmckjodahbgbaaGreatDoor
set_option maxRecDepth 100000
open Go.RowKit Go.ChangeShapes Go.WideShapes
theorem bj64_wf {n:Int} (h:(Lit.int .i64 n).wf=true):n<9223372036854775808:=by
 simp [Lit.wf,IntKind.min,IntKind.max,IntKind.signed,IntKind.bits] at h;omega
theorem cells_intb:Tryz.prog.cellsOf 3=1:=by kernel_rfl
theorem addr0b (b off i:Nat):(⟨b,off,none⟩:Addr).add i=⟨b,off+i,none⟩:=by unfold Addr.add;split <;> simp_all
section
variable {H : Type} {enc : TypeId × Value→H} {W : World} {base : Nat} {sp : Nat→Bool} {held : Bool}
theorem row_ofb {k:IntKind} {a:Addr} {zs:List Int} {n:Nat} (hn:n≤zs.length) (hcell:∀ i,i<zs.length→W.cell? (a.add i)=some (.int k (zs.getD i 0))) :
  ∀ i (h:i<(zs.take n).length),∃ b off,(some a:Option Addr)=some ⟨b,off,none⟩∧b<W.heap.size∧W.cell? ⟨b,off+i,none⟩=some (.int k (zs.take n)[i]):=by
 intro i hi;rw [List.length_take] at hi;obtain ⟨b,off,spot⟩:=a;have hspot:spot=none:=by simpa [Addr.add] using World.cell?_spot (hcell 0 (by omega))
 subst hspot;have h:=hcell i (by omega);rw [addr0b] at h;refine ⟨b,off,rfl,World.block_lt_of_cell? W _ h,?_⟩;rw [h,List.getElem_take];simp [List.getD,show i<zs.length by omega]
theorem open_iarg {r:Reach} {b0:Nat} {v:Value} {d:DataW H} {ps:List MemPlace} (hval:Value.okWide Tryz.prog W r b0 44 v) (hd:DataW.Trod enc Tryz.prog W base sp held 44 v d ps) :
  ∃ (ad:Option Addr) (ns:List Int) (n c:Nat),v=.slice ad n c∧ns.length=n∧RI W ad ns∧∀ y∈ns,y<9223372036854775808:=by
 obtain ⟨a0,len,cap,rfl⟩:=okWide_slice Tryz.underlying44 hval;obtain ⟨fuel,hf⟩:=hd
 rcases open_ints Tryz.underlying44 Tryz.underlying3 cells_intb hf with ⟨hcs,_⟩|⟨a,len',cap',zs,hcs,_,hl,_,hzl,_,hcell,hwf⟩
 ·simp [Value.cells] at hcs;obtain ⟨rfl,rfl,rfl⟩:=hcs;exact ⟨none,[],0,0,rfl,rfl,fun i h=>absurd h (Nat.not_lt_zero _),fun y h=>by cases h⟩
 ·simp [Value.cells] at hcs;obtain ⟨rfl,rfl,rfl⟩:=hcs;have hlz:len≤zs.length:=by rw [hzl];split <;> omega
  exact ⟨some a,zs.take len,len,cap,rfl,by rw [List.length_take];omega,row_ofb hlz hcell,fun y h=>bj64_wf (hwf y (List.mem_of_mem_take h))⟩
end
end Go.Proofs.YtlmckjodahbgbaaGreatDoor
namespace Go.Proofs.YtlmckjodahbgbaaGreatDoor.boxParts
set_option maxRecDepth 100000
open Go.ChangeShapes Go.WideShapes Go.ChangeAt Go.RowKit
open Go.ChangeMaps (open_string shut_string)
theorem laidOut:laidOutB Tryz.prog=true:=by kernel_rfl
theorem own:ownKnob Tryz.prog.godebug=none:=by kernel_rfl
theorem lifted (os:Os) (started:os.Started) (H:Type) (enc:TypeId × Value→H) :
  ReturnsInHanded {} Tryz.checked os 5 .any (fun w args=>(Rows.boxPartsSpec.pre enc Tryz.prog Tryz.f5 Rows.boxPartsRow.domain false w args∧laidMetH Tryz.prog Rows.boxPartsRow.laid w)∧sizedMet enc Tryz.prog Tryz.f5 (OpenSpec.ofChange Rows.boxPartsSpec) false w args)
   (Rows.boxPartsSpec.post enc Tryz.prog Tryz.f5 false true false false):=by
 refine returnsInHanded_of_change_and (C:=Tryz.checked) (X:=fun w _=>laidMetH Tryz.prog Rows.boxPartsRow.laid w) (fun _ _ _ hh h=>h.of_heap hh) own started (by kernel_rfl) Tryz.func5
  (ChangeSpec.witness_shaped (enc:=enc) (C:=Tryz.checked) (os:=os) (X:=fun w _=>laidMetH Tryz.prog Rows.boxPartsRow.laid w) false (World.laidAll Tryz.prog os Rows.boxPartsRow.laid) #[.slice none 0 0,.int .i64 0,.slice none 0 0] 8 (World.laidAll_os _ _ _)
   (World.shaped_of_ZipB (by kernel_rfl) (by kernel_rfl)) (by kernel_rfl) (by kernel_rfl) (by kernel_rfl)
   (by rw [MakeChecks.laidMetH_plain _ _ _ (by kernel_rfl)];exact laidMet_laidAll _ (by kernel_rfl) (by kernel_rfl))) ?_
 intro W base args ds gs before hval0 hW _ _ _ _;have hval:∀ (j:Nat) t v,Tryz.f5.params[j]?=some t→args[j]?=some v→Value.okWide Tryz.prog W .any base t v:=hval0;have hW':=hW;obtain ⟨p,q,hA0,hV,rfl,_,_⟩:=hW;have hA:DataW.TrodAll enc Tryz.prog W 0 (fun _=>true) true Tryz.f5.params.toList args.toList ds p:=hA0;rw [Tryz.params5] at hA hval;obtain ⟨v0,vs0,d0,ds0,p0,q0,hargs,rfl,rfl,h0,r0⟩:=trodAll_cons hA;obtain ⟨v1,vs1,d1,ds1,p1,q1,rfl,rfl,rfl,h1,r1⟩:=trodAll_cons r0;obtain ⟨v2,vs2,d2,ds2,p2,q2,rfl,rfl,rfl,h2,r2⟩:=trodAll_cons r1;obtain ⟨rfl,rfl,rfl⟩:=trodAll_nil r2;obtain rfl:args=#[v0,v1,v2]:=by cases args;simp_all
 obtain ⟨rfl,rfl⟩:=trodVars_none hV;have h0k:=h0;obtain ⟨ad0,l0,n0,c0,rfl,el0,ec0,hi0,em0,ew0⟩:=open_box (hval 0 23 v0 rfl rfl) h0;obtain ⟨a1,rfl,rfl,rfl,w1⟩:=open_int Tryz.underlying3 (hval 1 3 v1 rfl rfl) h1;have h2k:=h2;obtain ⟨ad2,l2,n2,c2,rfl,el2,hi2,ew2⟩:=open_iarg (hval 2 44 v2 rfl rfl) h2;clear hA0 hval0;simp only [List.append_nil] at hW';refine (boxparts_law W ad0 l0 n0 c0 el0 ec0 hi0 em0 ew0 a1 w1 ad2 l2 n2 c2 el2 hi2 ew2).mono fun e W' ⟨he,hb⟩=>?_;subst he;exact ⟨_,rfl,_,_,_,[],_,[],hW',trodAll_cons_mk (shut_bool Tryz.underlying4 _) trodAll_mk0,(trodAll_cons_mk (Below.trod laidOut (by kernel_rfl) (of_decide_eq_true (by kernel_rfl)) h0k hb (fun x hx=>hW'.lt x (by simp_all))) (trodAll_cons_mk (shut_int Tryz.underlying3 w1) (trodAll_cons_mk (Below.trod laidOut (by kernel_rfl) (of_decide_eq_true (by kernel_rfl)) h2k hb (fun x hx=>hW'.lt x (by simp_all))) trodAll_mk0))),rfl,hb.frame _,fun h=>by cases h⟩
theorem said:Rows.BoxPartsSaid:=
 OpenClaim.holds_of_wide 5 Tryz.f5 rfl rfl rfl rfl rfl rfl rfl ⟨rfl,rfl,rfl,rfl,rfl⟩ rfl rfl rfl rfl rfl (by kernel_rfl) Tryz.func5 (by kernel_rfl)
  (of_decide_eq_true (by kernel_rfl)) (by unfold Func.isWrapper;first|(rw [if_pos (by decide +kernel)];kernel_rfl)|(rw [if_neg (by decide +kernel)];exact ⟨rfl,rfl⟩))
  (fun os started H enc _=>lifted os started H enc)
theorem plain (f:FuncId) (fn:Func) (hf:Tryz.pinned.checked.prog.funcNamed "ogee/ogeelaw11.BoxParts"=some f) (hfn:Tryz.pinned.checked.prog.funcs[f]?=some fn) :
  false=Tryz.pinned.checked.prog.looks []∧∀ (j:Nat) t,fn.params[j]?=some t→Tryz.pinned.checked.prog.wantsStandIn t=false:=by
 obtain rfl:f=5:=Option.some.inj ((show Tryz.prog.funcNamed "ogee/ogeelaw11.BoxParts"=some 5 by kernel_rfl).symm.trans hf) |>.symm
 obtain rfl:fn=Tryz.f5:=(Option.some.inj (Tryz.func5.symm.trans hfn)).symm;refine ⟨by kernel_rfl,fun j t ht=>?_⟩;rw [Tryz.params5] at ht;have hm:t∈[23,3,44]:=by simpa using Array.mem_of_getElem? ht
 have hall:([23,3,44].all fun u=>!Tryz.prog.wantsStandIn u)=true:=by kernel_rfl
 exact (show Tryz.prog.wantsStandIn t=false by simpa using List.all_eq_true.1 hall t hm)
theorem proved:Rows.BoxPartsCardSaid:=
 Claim7.holds_tied_plain_at .later [] _ _ _ _ said (fun _ h=>by cases h) (by kernel_rfl) (fun _ h=>by cases h) boxParts_row_tie rfl ⟨rfl,rfl⟩ (by kernel_rfl) rfl plain (by kernel_rfl)
#print axioms proved
end Go.Proofs.YtlmckjodahbgbaaGreatDoor.boxParts
