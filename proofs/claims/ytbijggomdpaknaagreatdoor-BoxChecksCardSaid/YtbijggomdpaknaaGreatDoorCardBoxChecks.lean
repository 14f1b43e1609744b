/- The statement of BoxChecks: for every input it answers true, and each argument reads as it read before. No condition beyond what the given card says. -/
import Derived.Test.YtbijggomdpaknaaGreatDoorSR1
import Derived.Test.YtbijggomdpaknaaGreatDoorBX5
import Derived.Test.YtbijggomdpaknaaGreatDoorBX8
import Derived.Deep.CutBlock
import Derived.Test.YtbijggomdpaknaaGreatDoorBX9
import Derived.Test.YtbijggomdpaknaaGreatDoorBE
import Derived.Test.YtbijggomdpaknaaGreatDoorBX4
import Derived.Test.YtbijggomdpaknaaGreatDoorYR6
import Derived.Deep.RegionLaw
import Derived.Test.YtbijggomdpaknaaGreatDoorHL
import Derived.Deep.RegionHeld3
import Derived.Test.YtbijggomdpaknaaGreatDoorBX11
import Derived.Test.YtbijggomdpaknaaGreatDoorBX3
import Derived.Test.YtbijggomdpaknaaGreatDoorBC
import Derived.Test.YtbijggomdpaknaaGreatDoorHI
import Derived.Test.YtbijggomdpaknaaGreatDoorCards
import Derived.Test.YtbijggomdpaknaaGreatDoorTie
import Derived.ProofKit
import Derived.OpenShut
import Derived.ShutString
import Derived.LaidMore
import Derived.Lay
import Derived.SevenTiedAt
import Derived.Stop.Joined
namespace Go.Proofs.YtbijggomdpaknaaGreatDoor
open Go.RowKit Go.Shelf
theorem c_rform (w:World) (x:SV) (h:O3 x):Calls Tryz.prog 34 #[sagg x] w (Ret (sagg (fS x)) w):=
 rsform_any w _ _ _ _ _ _ h.1 h.2 _ _ _ (canonN_df _) _ _ _ (canonN_df _)
theorem c_rwidth (w:World) (x:SV) (h:O2 x):Calls Tryz.prog 43 #[sagg x] w (Ret (nagg (canonN (wS x))) w):=
 rswidth_any w _ _ _ _ _ _ h.1 h.2 _ _ _ (canonN_df _)
def RowA (w:World) (L:List NV) (n:Nat):Ending→World→Prop:=fun e w'=>∃ od oc,e=.returned (.slice od n oc)∧NAt w' od L∧Below w.heap.size w w'
end Go.Proofs.YtbijggomdpaknaaGreatDoor
namespace Go.Proofs.YtbijggomdpaknaaGreatDoor
set_option maxRecDepth 100000
set_option maxHeartbeats 6400000
open Go.RowKit Go.Shelf
theorem rbform_any (w:World) (ad:Option Addr) (l:List SV) (n c:Nat) (hn:l.length=n) (hmax:n≤1000) (hl:SAt w ad l) (hs:∀ x∈l,O3 x) :
  Calls Tryz.prog 10 #[.slice ad n c] w (fun e w'=>∃ v,e=.returned v∧w'.ownsRow w.heap.size 41 6 v n (ncells (flat (l.map fS)))∧Below w.heap.size w w'):=by
 obtain ⟨i0,hi,hz0,hsz,hbt⟩:=info_parts infoSz;have HC:=Lib.hid (And.intro hn hs);clear hn hs;go_enter Tryz.func10,Tryz.ntmps10;go_wp2
 go_loopw [3,4] (fun v iv wr=>∃ i:Nat,iv=.int .i64 i∧i≤n∧wr.ownsRow w.heap.size 41 6 v i (ncells (flat ((l.map fS).take i)))∧Below w.heap.size w wr) (fun _ iv _=>n-(RowKit.intOf iv).toNat)
 case atStart=>exact ⟨0,rfl,Nat.zero_le _,World.ownsRow_nil _ _ _ _,Below.refl _ _⟩
 case round =>
  obtain ⟨i,rfl,hi2,hown,hb⟩:=hrel
  by_cases hik:i<n
  ·have hil:i<l.length:=by rw [HC.out.1];exact hik
   obtain ⟨lb,lo,rfl,hlb,⟨c0,c1,c2⟩,c3,c4,c5⟩:=hl i hil;rw [← hb.cell hlb] at c0 c1 c2 c3 c4 c5;have htk:(l.map fS).take (i+1)=(l.map fS).take i++[fS l[i]]:=by
    rw [List.take_succ_eq_append_getElem (by rw [List.length_map];exact hil),List.getElem_map]
   have hc:=fun W=>c_rform W l[i] (HC.out.2 _ (List.getElem_mem hil));generalize fS l[i]=y at *;generalize l[i]=x at *;obtain ⟨⟨m1,s1,d1⟩,n1,t1,e1⟩:=x;obtain ⟨⟨m2,s2,d2⟩,n2,t2,e2⟩:=y;simp only at c0 c1 c2 c3 c4 c5;replace hc:∀ W,Calls Tryz.prog 34 #[.agg #[.bool m1,.string s1,.int .i64 d1,.bool n1,.string t1,.int .i64 e1]] W (Ret (.agg #[.bool m2,.string s2,.int .i64 d2,.bool n2,.string t2,.int .i64 e2]) W):=hc;have HX:=Lib.hid (And.intro hc htk);clear hc htk;go_wp2_with fail;refine (HX.out.1 _).mono ?_;rintro e' V ⟨rfl,hq⟩;replace hb:=below_next hb hq;replace hown:=ownsRow_below hown hq;clear hq c0 c1 c2 c3 c4 c5;have hnew:NAt (V.alloc (.cells #[.bool m2,.string s2,.int .i64 d2,.bool n2,.string t2,.int .i64 e2] 41)) (some ⟨V.heap.size,0,none⟩) (flat [((m2,s2,d2),n2,t2,e2)]):=NAt.new V _ _ _ rfl;have hown2:=hown.alloc (.cells #[.bool m2,.string s2,.int .i64 d2,.bool n2,.string t2,.int .i64 e2] 41);replace hb:=hb.alloc hb.size (.cells #[.bool m2,.string s2,.int .i64 d2,.bool n2,.string t2,.int .i64 e2] 41);go_wp2_with (first|(at_builtin;refine wpList_append_nat Tryz.underlying23 hi hz0 hsz hbt rfl (by decide) (by decide) rfl (.tmp 11) (.tmp 17) rfl (m:=1) rfl hown2 hb.size rfl hnew rfl (by omega) ?_));intro v' w' ho hg;rw [← flat_app,← HX.out.2] at ho;replace hb:=grown_own hb hb.size hown2 hg;clear hown hown2 hnew hg HX;go_wp2;exact ⟨⟨i+1,rfl,hik,ho,hb⟩,by simp [RowKit.intOf];omega⟩
  ·obtain rfl:i=n:=by omega
   rw [List.take_of_length_le (by rw [List.length_map,HC.out.1];exact Nat.le_refl _)] at hown;clear hl;go_wp2;go_ret;exact ⟨_,rfl,hown,hb⟩
end Go.Proofs.YtbijggomdpaknaaGreatDoor
namespace Go.Proofs.YtbijggomdpaknaaGreatDoor
open Go.RowKit Go.Shelf Go.Lib
theorem zero_one (n:Nat):∀ v∈(Builtin.zeroCells (Value.cells (.agg #[.bool false,.string ⟨#[]⟩,.int .i64 0,.bool false,.string ⟨#[]⟩,.int .i64 0])) n).toList,v.oneCell'=true:=by
 intro v hv;have hz:Value.cells (.agg #[.bool false,.string ⟨#[]⟩,.int .i64 0,.bool false,.string ⟨#[]⟩,.int .i64 0])=#[.bool false,.string ⟨#[]⟩,.int .i64 0,.bool false,.string ⟨#[]⟩,.int .i64 0]:=rfl;rw [hz] at hv;simp [Builtin.zeroCells] at hv;obtain ⟨a,-,rfl⟩:=hv
 rcases (show a % 6=0∨a % 6=1∨a % 6=2∨a % 6=3∨a % 6=4∨a % 6=5 by omega) with h|h|h|h|h|h <;> rw [h] <;> rfl
theorem run_clear (w:World) (ty:TypeId) (g n c:Nat) (l:List NV) (hl:l.length=2*n) (h:Rp w g l) :
  ∃ w',(Builtin.clear_ #[23] ty #[.slice (some ⟨g,0,none⟩) n c]).run Tryz.prog w=.ok (.tuple #[]) w'∧w.grownBy w' (some g):=by
 obtain ⟨i,hi,hz,hs,hb⟩:=info_parts infoSz;obtain ⟨T,L,hR,hk⟩:=h;have hT:=Tryz.underlying23
 cases n with
 | zero=>exact ⟨w,by simp [Builtin.clear_,run_underlying hT],grown_same _ _⟩
 | succ n =>
  have hL:(n+1)*6≤L.length:=by
   have h1:(L.take (l.length*3)).length=l.length*3:=by rw [hk,ncells_len]
   rw [List.length_take,hl] at h1;omega
  have hst:=run_storeCells_at Tryz.prog g 0 T (Builtin.zeroCells (Value.cells (.agg #[.bool false,.string ⟨#[]⟩,.int .i64 0,.bool false,.string ⟨#[]⟩,.int .i64 0])) (n+1)).toList 0 L.toArray w hR (by
   rw [Array.length_toList,size_zeroCells]
   have:(Value.cells (.agg #[.bool false,.string ⟨#[]⟩,.int .i64 0,.bool false,.string ⟨#[]⟩,.int .i64 0])).size=6:=rfl
   rw [this,List.size_toArray];omega) (zero_one _)
  simp only [Nat.add_zero] at hst;obtain ⟨cs,hst⟩:∃ cs,(storeCells ⟨g,0,none⟩ (Builtin.zeroCells (Value.cells (.agg #[.bool false,.string ⟨#[]⟩,.int .i64 0,.bool false,.string ⟨#[]⟩,.int .i64 0])) (n+1)).toList).run Tryz.prog w=.ok () (w.setRow g cs):=⟨_,hst⟩;refine ⟨w.setRow g cs,by simp [Builtin.clear_,run_underlying hT,zeroValue,typeInfo,hi,hz,hst],⟨rfl,rfl,rfl,by simp,fun k _ hk=>setRow_other w g k _ (fun e=>hk (by rw [e]))⟩⟩
theorem clear_none (W:World) (ty:TypeId):Sem.run Tryz.prog (Builtin.clear_ #[23] ty #[.slice none 0 0]) W=.ok (.tuple #[]) W:=by
 simp [Builtin.clear_,run_underlying Tryz.underlying23]
theorem wpList_clear {w:World} {ops:Array Oper} {rest:List Oper} {o:Oper} {a:Act} {Q:Exit→Act→World→Prop} (hgd:o.guard=none) (y:Operand)
  (ho:o.op=.call { callee:=.builtin .clear,args:=#[y],argTypes:=#[23] }) {g n c:Nat} {l:List NV} (hl:l.length=2*n) (hx:a.eval y=.slice (some ⟨g,0,none⟩) n c) (h:Rp w g l)
  (hk:∀ w',w.grownBy w' (some g)→wpList Tryz.prog ops Q rest (a.put o.dst (.tuple #[])) w'):wpList Tryz.prog ops Q (o::rest) a w:=by
 refine wpList_plain hgd fun K hK=>?_;obtain ⟨w',hr,hg⟩:=run_clear w o.type g n c l hl h;unfold Oper.wp execOp;simp only [ho,resolve,invoke,builtin,Sem.run_bind,Sem.run_pure,Result.andThen_ok,List.map_toArray,List.map_cons,List.map_nil,hx,hr];exact hK _ _ (hk w' hg)
end Go.Proofs.YtbijggomdpaknaaGreatDoor
namespace Go.Proofs.YtbijggomdpaknaaGreatDoor
set_option maxRecDepth 100000
set_option maxHeartbeats 6400000
open Go.RowKit Go.Shelf
theorem rbcheck_any (w:World) (ad:Option Addr) (l:List SV) (n c:Nat) (hn:l.length=n) (hmax:n≤1000) (hl:SAt w ad l) (hs:∀ x∈l,O3 x) :
  Calls Tryz.prog 8 #[.slice ad n c] w (Ret (.int .i64 (checkB l)) w):=by
 by_cases h0:l=[]
 ·subst h0;obtain rfl:n=0:=hn.symm;clear hl hs;show Calls _ _ _ _ (Ret (.int .i64 1) w);go_enter Tryz.func8,Tryz.ntmps8;go_wp2;go_ret;exact ⟨rfl,Below.refl _ _⟩
 have hpos:0<n:=by
  cases l with
  | nil=>exact absurd rfl h0
  | cons x l=>rw [← hn];exact Nat.succ_pos _
 have hn0:¬(n:Int)=0:=by omega
 have hv:checkB l=if l.any flatS then 5 else 0:=by unfold checkB;rw [if_neg h0]
 obtain ⟨v,hv2⟩:∃ v,checkB l=v:=⟨_,rfl⟩;rw [hv2];obtain ⟨F,hF⟩:∃ F,F=flatS:=⟨_,rfl⟩;rw [← hF] at hv;have HF:=Lib.hid hF;clear hF;have HV:=Lib.hid (hv2.symm.trans hv);have HC:=Lib.hid (And.intro hn hs);clear hv hv2 hn hs h0;obtain ⟨Q,hQ0⟩:∃ Q:Nat→Prop,∀ i,Q i↔(l.take i).any F=false:=⟨_,fun _=>Iff.rfl⟩;have HQ:=Lib.hid hQ0;clear hQ0;go_enter Tryz.func8,Tryz.ntmps8;go_wp2
 go_loopw [3] (fun iv wr=>∃ i:Nat,iv=.int .i64 i∧i≤n∧Q i∧Below w.heap.size w wr) (fun iv _=>n-(RowKit.intOf iv).toNat)
 case atStart=>exact ⟨0,rfl,Nat.zero_le _,(HQ.out 0).2 rfl,Below.refl _ _⟩
 case round =>
  obtain ⟨i,rfl,hi,hno,hb⟩:=hrel;replace hno:=(HQ.out i).1 hno
  by_cases hik:i<n
  ·have hil:i<l.length:=by rw [HC.out.1];exact hik
   obtain ⟨la,oa,rfl,hla,⟨c0,c1,c2⟩,c3,c4,c5⟩:=hl i hil;rw [← hb.cell hla] at c0 c1 c2 c3 c4 c5;have hst:=any_snoc (f:=F) hil hno;have hyes:F l[i]=true→(5:Int)=v:=fun h=>by rw [HV.out,List.any_eq_true.2 ⟨_,List.getElem_mem hil,h⟩];rfl
   have ho:=HC.out.2 _ (List.getElem_mem hil);generalize l[i]=x at *;obtain ⟨⟨m1,s1,d1⟩,n1,t1,e1⟩:=x;simp only at c0 c1 c2 c3 c4 c5;have hc:=fun W=>rycmp_any W m1 n1 s1 t1 d1 e1 ho.1.1 ho.2.1 ho.1.2 ho.2.2 (dsg (nvl ((m1,s1,d1):NV)-nvl ((n1,t1,e1):NV))) rfl;obtain ⟨z,hz⟩:∃ z,dsg (nvl ((m1,s1,d1):NV)-nvl ((n1,t1,e1):NV))=z:=⟨_,rfl⟩;have hf:F ((m1,s1,d1),n1,t1,e1)=decide (0≤z):=by rw [HF.out,← hz];rfl
   rw [hz] at hc;rw [hf] at hst hyes;replace hc:∀ W,Calls Tryz.prog 33 #[.agg #[.bool m1,.string s1,.int .i64 d1],.agg #[.bool n1,.string t1,.int .i64 e1]] W (Ret (.int .i64 z) W):=hc;have HX:=Lib.hid (And.intro hc (And.intro hst hyes));clear hc hst hyes hf hz ho hno;have c0' : wr.drew.cell? ⟨la,oa+i*6,none⟩=some (.bool m1):=c0;have c1' : wr.drew.cell? ⟨la,oa+i*6+1,none⟩=some (.string s1):=c1;have c2' : wr.drew.cell? ⟨la,oa+i*6+2,none⟩=some (.int .i64 d1):=c2;have c3' : wr.drew.cell? ⟨la,oa+i*6+3,none⟩=some (.bool n1):=c3;have c4' : wr.drew.cell? ⟨la,oa+i*6+4,none⟩=some (.string t1):=c4;have c5' : wr.drew.cell? ⟨la,oa+i*6+5,none⟩=some (.int .i64 e1):=c5;have hbd:=hb.drew;have hi0:(0:Int)≤(i:Int):=by omega
   have hi1:(i:Int)<n:=by omega
   clear c0 c1 c2 c3 c4 c5 hb;go_wp2
   go_region_law (first
    | (go_simp;go_at_call 33;refine (HX.out.1 _).mono ?_;rintro ec V3 ⟨rfl,hq3⟩))
   all_goals
    have hb:=below_next hbd hq3;clear hbd hq3
    by_cases h0:0≤z
    ·obtain rfl:=HX.out.2.2 (decide_eq_true h0);clear HX HV;go_wp2;go_ret;exact ⟨rfl,hb⟩
    ·have HS:=Lib.hid ((HQ.out (i+1)).2 (HX.out.2.1 (decide_eq_false h0)));clear HX;go_wp2;refine ⟨⟨i+1,rfl,hik,HS.out⟩,?_⟩;simp [RowKit.intOf];omega
  ·obtain rfl:i=n:=by omega
   rw [List.take_of_length_le (by rw [HC.out.1];exact Nat.le_refl _)] at hno;obtain rfl:(0:Int)=v:=by rw [HV.out,hno];rfl
   clear hno HV hl;go_wp2;go_ret;exact ⟨rfl,hb⟩
theorem c_rhas (w:World) (x:SV) (p:NV) (h:O2 x) (hp:Ok3 p.2.1 p.2.2):Calls Tryz.prog 37 #[sagg x,nagg p] w (Ret (.bool (inS x p)) w):=
 rshas_any w _ _ _ _ _ _ _ _ _ h.1 h.2 hp _ rfl
theorem rbhas_any (w:World) (ad bd:Option Addr) (l:List SV) (p:List NV) (n c n' c' : Nat) (hn:l.length=n) (hn' : p.length=n') (hmax:n≤1000) (hmax' : n'≤1000) (hl:SAt w ad l) (hp:NAt w bd p) (hs:∀ x∈l,O2 x) (hs' : ∀ x∈p,Ok3 x.2.1 x.2.2) (r:Bool) (hr:hasB l p=r) :
  Calls Tryz.prog 12 #[.slice ad n c,.slice bd n' c'] w (Ret (.bool r) w):=by
 have hiff:r=true↔n=n'∧∀ i (h1:i<l.length) (h2:i<p.length),inS l[i] p[i]=true:=by subst hn;subst hn';rw [← hr,hasB_iff]
 have HC:=Lib.hid (And.intro hiff (And.intro hs hs'));clear hiff hr hs hs'
 by_cases hnn:n=n'
 case neg =>
  have hrf:r=false:=by
   cases r with
   | false=>rfl
   | true=>exact absurd (HC.out.1.1 rfl).1 hnn
  subst hrf;clear hl hp;have hnn2:¬((n:Int)=n'):=by omega
  go_enter Tryz.func12,Tryz.ntmps12;go_wp2;go_ret;exact ⟨rfl,Below.refl _ _⟩
 subst hnn;go_enter Tryz.func12,Tryz.ntmps12;go_wp2
 go_loopw [5] (fun i wr=>∃ k:Nat,k≤n∧i=.int .i64 k∧(∀ j (h1:j<l.length) (h2:j<p.length),j<k→inS l[j] p[j]=true)∧Below w.heap.size w wr) (fun i _=>n-intY i)
 case atStart=>exact ⟨0,Nat.zero_le _,rfl,fun j _ _ h=>by omega,Below.refl _ _⟩
 case round =>
  obtain ⟨i,hk,rfl,hall,hb⟩:=hrel
  by_cases hlt:i<n
  ·have hkl:i<l.length:=by omega
   have hkp:i<p.length:=by omega
   obtain ⟨la,oa,rfl,hla,⟨c0,c1,c2⟩,c3,c4,c5⟩:=hl i hkl;obtain ⟨kb,ko,rfl,hkb,b0,b1,b2⟩:=hp i hkp;rw [← hb.cell hla] at c0 c1 c2 c3 c4 c5;rw [← hb.cell hkb] at b0 b1 b2;have hcl:=fun W=>c_rhas W l[i] p[i] (HC.out.2.1 _ (List.getElem_mem hkl)) (HC.out.2.2 _ (List.getElem_mem hkp));have hst:inS l[i] p[i]=true→∀ j (h1:j<l.length) (h2:j<p.length),j<i+1→inS l[j] p[j]=true:=fun h j h1 h2 hj=>by
    rcases Nat.lt_or_ge j i with h3|h3
    ·exact hall j h1 h2 h3
    ·obtain rfl:j=i:=by omega
     exact h
   have hno:inS l[i] p[i]=false→r=false:=fun h=>by
    cases hr:r with
    | false=>rfl
    | true=>rw [(HC.out.1.1 hr).2 i hkl hkp] at h;cases h
   obtain ⟨v,hv⟩:∃ v,inS l[i] p[i]=v:=⟨_,rfl⟩;rw [hv] at hcl hst hno;generalize l[i]=x at *;generalize p[i]=y at *;clear hall;obtain ⟨⟨m1,s1,d1⟩,n1,t1,e1⟩:=x;obtain ⟨m2,s2,d2⟩:=y;simp only at c0 c1 c2 c3 c4 c5 b0 b1 b2;replace hcl:∀ W,Calls Tryz.prog 37 #[.agg #[.bool m1,.string s1,.int .i64 d1,.bool n1,.string t1,.int .i64 e1],.agg #[.bool m2,.string s2,.int .i64 d2]] W (Ret (.bool v) W):=hcl;have HX:=Lib.hid (And.intro hcl (And.intro hst hno));clear hcl hst hno hv;have c0' : wr.drew.cell? ⟨la,oa+i*6,none⟩=some (.bool m1):=c0;have c1' : wr.drew.cell? ⟨la,oa+i*6+1,none⟩=some (.string s1):=c1;have c2' : wr.drew.cell? ⟨la,oa+i*6+2,none⟩=some (.int .i64 d1):=c2;have c3' : wr.drew.cell? ⟨la,oa+i*6+3,none⟩=some (.bool n1):=c3;have c4' : wr.drew.cell? ⟨la,oa+i*6+4,none⟩=some (.string t1):=c4;have c5' : wr.drew.cell? ⟨la,oa+i*6+5,none⟩=some (.int .i64 e1):=c5;have b0' : wr.drew.cell? ⟨kb,ko+i*3,none⟩=some (.bool m2):=b0;have b1' : wr.drew.cell? ⟨kb,ko+i*3+1,none⟩=some (.string s2):=b1;have b2' : wr.drew.cell? ⟨kb,ko+i*3+2,none⟩=some (.int .i64 d2):=b2;have hbd:=hb.drew;have hi0:(0:Int)≤(i:Int):=by omega
   have hi1:(i:Int)<n:=by omega
   clear c0 c1 c2 c3 c4 c5 b0 b1 b2 hb;go_wp2
   go_region_law (first
    | (go_simp;go_at_call 37;refine (HX.out.1 _).mono ?_;rintro ec V3 ⟨rfl,hq3⟩))
   all_goals
    have hb:=below_next hbd hq3;clear hbd hq3
    cases v with
    | true =>
     have HS:=Lib.hid (HX.out.2.1 rfl);clear HX;go_wp2;exact ⟨⟨i+1,hlt,rfl,HS.out,hb⟩,by simp [intY];omega⟩
    | false =>
     obtain rfl:=HX.out.2.2 rfl;clear HX;go_wp2;go_ret;exact ⟨rfl,hb⟩
  ·obtain rfl:i=n:=by omega
   have hrt:r=true:=HC.out.1.2 ⟨by trivial,fun j h1 h2=>hall j h1 h2 (by omega)⟩;subst hrt;clear hall hl hp;go_wp2;go_ret;exact ⟨rfl,hb⟩
end Go.Proofs.YtbijggomdpaknaaGreatDoor
namespace Go.Proofs.YtbijggomdpaknaaGreatDoor
set_option maxRecDepth 100000
set_option maxHeartbeats 6400000
open Go.RowKit Go.Shelf
def TwoS (la oa lb ob:Nat) (m1:Bool) (s1:ByteArray) (d1:Int) (n1:Bool) (t1:ByteArray) (e1:Int) (m2:Bool) (s2:ByteArray) (d2:Int) (n2:Bool) (t2:ByteArray) (e2:Int) (W' : World):Prop:=(W'.cell? ⟨la,oa,none⟩=some (.bool m1)∧W'.cell? ⟨la,oa+1,none⟩=some (.string s1)∧W'.cell? ⟨la,oa+2,none⟩=some (.int .i64 d1)∧W'.cell? ⟨la,oa+3,none⟩=some (.bool n1)∧W'.cell? ⟨la,oa+4,none⟩=some (.string t1)∧W'.cell? ⟨la,oa+5,none⟩=some (.int .i64 e1))∧(W'.cell? ⟨lb,ob,none⟩=some (.bool m2)∧W'.cell? ⟨lb,ob+1,none⟩=some (.string s2)∧W'.cell? ⟨lb,ob+2,none⟩=some (.int .i64 d2)∧W'.cell? ⟨lb,ob+3,none⟩=some (.bool n2)∧W'.cell? ⟨lb,ob+4,none⟩=some (.string t2)∧W'.cell? ⟨lb,ob+5,none⟩=some (.int .i64 e2))∧la<W'.heap.size∧lb<W'.heap.size
theorem TwoS.drew {W:World} {la oa lb ob:Nat} {m1:Bool} {s1:ByteArray} {d1:Int} {n1:Bool} {t1:ByteArray} {e1:Int} {m2:Bool} {s2:ByteArray} {d2:Int} {n2:Bool} {t2:ByteArray} {e2:Int} (h:TwoS la oa lb ob m1 s1 d1 n1 t1 e1 m2 s2 d2 n2 t2 e2 W):TwoS la oa lb ob m1 s1 d1 n1 t1 e1 m2 s2 d2 n2 t2 e2 W.drew:=h
theorem keep12 {W V:World} {la oa lb ob:Nat} {m1:Bool} {s1:ByteArray} {d1:Int} {n1:Bool} {t1:ByteArray} {e1:Int} {m2:Bool} {s2:ByteArray} {d2:Int} {n2:Bool} {t2:ByteArray} {e2:Int} (hq:Below W.heap.size W V) (h:TwoS la oa lb ob m1 s1 d1 n1 t1 e1 m2 s2 d2 n2 t2 e2 W):TwoS la oa lb ob m1 s1 d1 n1 t1 e1 m2 s2 d2 n2 t2 e2 V:=by
 obtain ⟨⟨c0,c1,c2,c3,c4,c5⟩,⟨g0,g1,g2,g3,g4,g5⟩,ha,hb⟩:=h;exact ⟨⟨(hq.cell ha).trans c0,(hq.cell ha).trans c1,(hq.cell ha).trans c2,(hq.cell ha).trans c3,(hq.cell ha).trans c4,(hq.cell ha).trans c5⟩,⟨(hq.cell hb).trans g0,(hq.cell hb).trans g1,(hq.cell hb).trans g2,(hq.cell hb).trans g3,(hq.cell hb).trans g4,(hq.cell hb).trans g5⟩,Nat.lt_of_lt_of_le ha hq.size,Nat.lt_of_lt_of_le hb hq.size⟩
theorem TwoS.below {W V:World} {la oa lb ob:Nat} {m1:Bool} {s1:ByteArray} {d1:Int} {n1:Bool} {t1:ByteArray} {e1:Int} {m2:Bool} {s2:ByteArray} {d2:Int} {n2:Bool} {t2:ByteArray} {e2:Int} (h:TwoS la oa lb ob m1 s1 d1 n1 t1 e1 m2 s2 d2 n2 t2 e2 W) (hq:Below W.heap.size W V):TwoS la oa lb ob m1 s1 d1 n1 t1 e1 m2 s2 d2 n2 t2 e2 V:=keep12 hq h
theorem rbwithin_any (w:World) (ad bd:Option Addr) (l p:List SV) (n c n' c' : Nat) (hn:l.length=n) (hn' : p.length=n') (hmax:n≤1000) (hmax' : n'≤1000) (hl:SAt w ad l) (hp:SAt w bd p) (hs:∀ x∈l,O3 x) (hs' : ∀ x∈p,O2 x) (r:Bool) (hr:withB l p=r) :
  Calls Tryz.prog 14 #[.slice ad n c,.slice bd n' c'] w (Ret (.bool r) w):=by
 have hiff:r=true↔n=n'∧∀ i (h1:i<l.length) (h2:i<p.length),wiS l[i] p[i]=true:=by subst hn;subst hn';rw [← hr,withB_iff]
 have HC:=Lib.hid (And.intro hiff (And.intro hs hs'));clear hiff hr hs hs'
 by_cases hnn:n=n'
 case neg =>
  have hrf:r=false:=by
   cases r with
   | false=>rfl
   | true=>exact absurd (HC.out.1.1 rfl).1 hnn
  subst hrf;clear hl hp;have hnn2:¬((n:Int)=n'):=by omega
  go_enter Tryz.func14,Tryz.ntmps14;go_wp2;go_ret;exact ⟨rfl,Below.refl _ _⟩
 subst hnn;go_enter Tryz.func14,Tryz.ntmps14;go_wp2
 go_loopw [5] (fun i wr=>∃ k:Nat,k≤n∧i=.int .i64 k∧(∀ j (h1:j<l.length) (h2:j<p.length),j<k→wiS l[j] p[j]=true)∧Below w.heap.size w wr) (fun i _=>n-intY i)
 case atStart=>exact ⟨0,Nat.zero_le _,rfl,fun j _ _ h=>by omega,Below.refl _ _⟩
 case round =>
  obtain ⟨i,hk,rfl,hall,hb⟩:=hrel
  by_cases hlt:i<n
  ·have hkl:i<l.length:=by omega
   have hkp:i<p.length:=by omega
   obtain ⟨la,oa,rfl,hla,⟨c0,c1,c2⟩,c3,c4,c5⟩:=hl.below hb i hkl;obtain ⟨lb,ob,rfl,hlb,⟨g0,g1,g2⟩,g3,g4,g5⟩:=hp.below hb i hkp;have hcl1:=fun W=>c_rhas W p[i] l[i].1 (HC.out.2.2 _ (List.getElem_mem hkp)) (HC.out.2.1 _ (List.getElem_mem hkl)).1;have hcl2:=fun W=>c_rhas W p[i] l[i].2 (HC.out.2.2 _ (List.getElem_mem hkp)) (HC.out.2.1 _ (List.getElem_mem hkl)).2;have hst:inS p[i] l[i].1=true→inS p[i] l[i].2=true→∀ j (h1:j<l.length) (h2:j<p.length),j<i+1→wiS l[j] p[j]=true:=fun h h' j h1 h2 hj=>by
    rcases Nat.lt_or_ge j i with h3|h3
    ·exact hall j h1 h2 h3
    ·obtain rfl:j=i:=by omega
     exact Bool.and_eq_true_iff.2 ⟨h,h'⟩
   have hno:(inS p[i] l[i].1 && inS p[i] l[i].2)=false→r=false:=fun h=>by
    cases hr:r with
    | false=>rfl
    | true =>
     have h9:(inS p[i] l[i].1 && inS p[i] l[i].2)=true:=(HC.out.1.1 hr).2 i hkl hkp;rw [h9] at h;cases h
   obtain ⟨v1,hv1⟩:∃ v,inS p[i] l[i].1=v:=⟨_,rfl⟩;obtain ⟨v2,hv2⟩:∃ v,inS p[i] l[i].2=v:=⟨_,rfl⟩;rw [hv1,hv2] at hst hno;rw [hv1] at hcl1;rw [hv2] at hcl2;clear hv1 hv2;generalize l[i]=x at *;generalize p[i]=y at *;clear hall;obtain ⟨⟨m1,s1,d1⟩,n1,t1,e1⟩:=x;obtain ⟨⟨m2,s2,d2⟩,n2,t2,e2⟩:=y;simp only at c0 c1 c2 c3 c4 c5 g0 g1 g2 g3 g4 g5;replace hcl1:∀ W,Calls Tryz.prog 37 #[.agg #[.bool m2,.string s2,.int .i64 d2,.bool n2,.string t2,.int .i64 e2],.agg #[.bool m1,.string s1,.int .i64 d1]] W (Ret (.bool v1) W):=hcl1;replace hcl2:∀ W,Calls Tryz.prog 37 #[.agg #[.bool m2,.string s2,.int .i64 d2,.bool n2,.string t2,.int .i64 e2],.agg #[.bool n1,.string t1,.int .i64 e1]] W (Ret (.bool v2) W):=hcl2;have HX:=Lib.hid (And.intro hcl1 (And.intro hcl2 (And.intro hst hno)));clear hcl1 hcl2 hst hno;have c0' : wr.drew.cell? ⟨la,oa+i*6,none⟩=some (.bool m1):=c0;have c1' : wr.drew.cell? ⟨la,oa+i*6+1,none⟩=some (.string s1):=c1;have c2' : wr.drew.cell? ⟨la,oa+i*6+2,none⟩=some (.int .i64 d1):=c2;have c3' : wr.drew.cell? ⟨la,oa+i*6+3,none⟩=some (.bool n1):=c3;have c4' : wr.drew.cell? ⟨la,oa+i*6+4,none⟩=some (.string t1):=c4;have c5' : wr.drew.cell? ⟨la,oa+i*6+5,none⟩=some (.int .i64 e1):=c5;have g0' : wr.drew.cell? ⟨lb,ob+i*6,none⟩=some (.bool m2):=g0;have g1' : wr.drew.cell? ⟨lb,ob+i*6+1,none⟩=some (.string s2):=g1;have g2' : wr.drew.cell? ⟨lb,ob+i*6+2,none⟩=some (.int .i64 d2):=g2;have g3' : wr.drew.cell? ⟨lb,ob+i*6+3,none⟩=some (.bool n2):=g3
   have g4' : wr.drew.cell? ⟨lb,ob+i*6+4,none⟩=some (.string t2):=g4;have g5' : wr.drew.cell? ⟨lb,ob+i*6+5,none⟩=some (.int .i64 e2):=g5;have hbd:=hb.drew;have hi0:(0:Int)≤(i:Int):=by omega
   have hi1:(i:Int)<n:=by omega
   have hin:=And.intro (And.intro c0' (And.intro c1' (And.intro c2' (And.intro c3' (And.intro c4' c5'))))) (And.intro (And.intro g0' (And.intro g1' (And.intro g2' (And.intro g3' (And.intro g4' g5'))))) (And.intro (show la<wr.drew.heap.size from hla) (show lb<wr.drew.heap.size from hlb)));have hT:TwoS la (oa+i*6) lb (ob+i*6) m1 s1 d1 n1 t1 e1 m2 s2 d2 n2 t2 e2 wr:=hin;clear hin hbd c0 c1 c2 c3 c4 c5 g0 g1 g2 g3 g4 g5 c0' c1' c2' c3' c4' c5' g0' g1' g2' g3' g4' g5'
   cases v1 with
   | false =>
    obtain rfl:=HX.out.2.2.2 rfl;go_wp2;refine region_segs (n:=24) #[false,false,false,false,false,false,false,false,false,false,false,false,false,false,false,false,false,false,false,false,false,false,false,false] (by kernel_rfl) (by kernel_rfl) (by kernel_rfl) ?_;intro fu hf
    refine ls 24 [0,1,2,3,4,5,6,7,8,9,10,11] 11 (fun L ac Wn=>∃ l0 l1 l2 l3 l4 l5 l6 l7 l8 l9 l10:Bool,L=#[l0,l1,l2,l3,l4,l5,l6,l7,l8,l9,l10,false,false,false,false,false,false,false,false,false,false,false,false,false]∧ac={tmps:=#[.slice (some { block:=la,off:=oa }) n c,.slice (some { block:=lb,off:=ob }) n c',undef,undef,u4,.int .i64 ↑i,.slice (some { block:=la,off:=oa }) n c,.int .i64 ↑n,.slice (some { block:=lb,off:=ob }) n c',.int .i64 ↑n,.bool false,.int .i64 ↑i,.slice (some { block:=la,off:=oa }) n c,.int .i64 ↑n,.bool true,u15,u16,sel l0 (.slice (some { block:=lb,off:=ob }) n c') (u17),sel l1 (.int .i64 ↑i) (u18),sel l2 (.pointer (some { block:=lb,off:=ob+i*6 })) (u19),sel l3 (.agg #[.bool m2,.string s2,.int .i64 d2,.bool n2,.string t2,.int .i64 e2]) (u20),sel l4 (.slice (some { block:=la,off:=oa }) n c) (u21),sel l5 (.int .i64 ↑i) (u22),sel l6 (.pointer (some { block:=la,off:=oa+i*6 })) (u23),sel l7 (.pointer (some { block:=la,off:=oa+i*6 })) (u24),sel l8 (.agg #[.bool m1,.string s1,.int .i64 d1]) (u25),sel l9 (.bool false) (u26),sel l10 (.bool true) (u27),u28,u29,u30,u31,u32,u33,u34,u35,u36,u37,u38,u39,u40],defers:=[] }∧Below (w.heap.size) w Wn∧(TwoS la (oa+i*6) lb (ob+i*6) m1 s1 d1 n1 t1 e1 m2 s2 d2 n2 t2 e2 Wn)) hf ?_ ?_ ?_ ?_
    ·exact ⟨false,false,false,false,false,false,false,false,false,false,false,by kernel_rfl,by kernel_rfl,hb.drew,hT.drew⟩
    ·rintro L ac Wn ⟨l0,l1,l2,l3,l4,l5,l6,l7,l8,l9,l10,rfl,_⟩
     kernel_rfl
    ·refine (seg_all (b:=11) [0,1,2,3,4,5,6,7,8,9,10] ?_:∀ j∈[0,1,2,3,4,5,6,7,8,9,10,11],j≠11→_);refine lc [] [2,3,9,10] ?_ ?_
     ·rintro L ac Wn ⟨l0,l1,l2,l3,l4,l5,l6,l7,l8,l9,l10,rfl,hI⟩ rfl - ⟨rfl,rfl,rfl,rfl,-⟩ Kc hK;simp only [sel_f] at hI;obtain ⟨rfl,hb,hT⟩:=hI;refine ly (.slice (some { block:=lb,off:=ob }) n c') ?_;exact hK.out _ _ ⟨true,l1,false,false,l4,l5,l6,l7,l8,false,false,by kernel_rfl,by kernel_rfl,hb,hT⟩
     refine lc [] [2,3,9,10] ?_ ?_
     ·rintro L ac Wn ⟨l0,l1,l2,l3,l4,l5,l6,l7,l8,l9,l10,rfl,hI⟩ rfl - ⟨rfl,rfl,rfl,rfl,-⟩ Kc hK;simp only [sel_f] at hI;obtain ⟨rfl,hb,hT⟩:=hI;refine ly (.int .i64 ↑i) ?_;exact hK.out _ _ ⟨l0,true,false,false,l4,l5,l6,l7,l8,false,false,by kernel_rfl,by kernel_rfl,hb,hT⟩
     refine lc [0,1] [3,9,10] ?_ ?_
     ·rintro L ac Wn ⟨l0,l1,l2,l3,l4,l5,l6,l7,l8,l9,l10,rfl,hI⟩ rfl ⟨rfl,rfl,-⟩ ⟨rfl,rfl,rfl,-⟩ Kc hK;simp only [sel_t,sel_f] at hI;obtain ⟨rfl,hb,hT⟩:=hI;refine ly (.pointer (some { block:=lb,off:=ob+i*6 })) ?_;exact hK.out _ _ ⟨true,true,true,false,l4,l5,l6,l7,l8,false,false,by kernel_rfl,by kernel_rfl,hb,hT⟩
     refine lc [0,1,2] [9,10] ?_ ?_
     ·rintro L ac Wn ⟨l0,l1,l2,l3,l4,l5,l6,l7,l8,l9,l10,rfl,hI⟩ rfl ⟨rfl,rfl,rfl,-⟩ ⟨rfl,rfl,-⟩ Kc hK;simp only [sel_t,sel_f] at hI;obtain ⟨rfl,hb,hT⟩:=hI;have ⟨⟨c0,c1,c2,c3,c4,c5⟩,⟨g0,g1,g2,g3,g4,g5⟩,_,_⟩:=hT;refine ly (.agg #[.bool m2,.string s2,.int .i64 d2,.bool n2,.string t2,.int .i64 e2]) ?_;exact hK.out _ _ ⟨true,true,true,true,l4,l5,l6,l7,l8,false,false,by kernel_rfl,by kernel_rfl,hb,hT⟩
     refine lc [] [6,7,8,9,10] ?_ ?_
     ·rintro L ac Wn ⟨l0,l1,l2,l3,l4,l5,l6,l7,l8,l9,l10,rfl,hI⟩ rfl - ⟨rfl,rfl,rfl,rfl,rfl,-⟩ Kc hK;simp only [sel_f] at hI;obtain ⟨rfl,hb,hT⟩:=hI;refine ly (.slice (some { block:=la,off:=oa }) n c) ?_;exact hK.out _ _ ⟨l0,l1,l2,l3,true,l5,false,false,false,false,false,by kernel_rfl,by kernel_rfl,hb,hT⟩
     refine lc [] [6,7,8,9,10] ?_ ?_
     ·rintro L ac Wn ⟨l0,l1,l2,l3,l4,l5,l6,l7,l8,l9,l10,rfl,hI⟩ rfl - ⟨rfl,rfl,rfl,rfl,rfl,-⟩ Kc hK;simp only [sel_f] at hI;obtain ⟨rfl,hb,hT⟩:=hI;refine ly (.int .i64 ↑i) ?_;exact hK.out _ _ ⟨l0,l1,l2,l3,l4,true,false,false,false,false,false,by kernel_rfl,by kernel_rfl,hb,hT⟩
     refine lc [4,5] [7,8,9,10] ?_ ?_
     ·rintro L ac Wn ⟨l0,l1,l2,l3,l4,l5,l6,l7,l8,l9,l10,rfl,hI⟩ rfl ⟨rfl,rfl,-⟩ ⟨rfl,rfl,rfl,rfl,-⟩ Kc hK;simp only [sel_t,sel_f] at hI;obtain ⟨rfl,hb,hT⟩:=hI;refine ly (.pointer (some { block:=la,off:=oa+i*6 })) ?_;exact hK.out _ _ ⟨l0,l1,l2,l3,true,true,true,false,false,false,false,by kernel_rfl,by kernel_rfl,hb,hT⟩
     refine lc [4,5,6] [8,9,10] ?_ ?_
     ·rintro L ac Wn ⟨l0,l1,l2,l3,l4,l5,l6,l7,l8,l9,l10,rfl,hI⟩ rfl ⟨rfl,rfl,rfl,-⟩ ⟨rfl,rfl,rfl,-⟩ Kc hK;simp only [sel_t,sel_f] at hI;obtain ⟨rfl,hb,hT⟩:=hI;refine ly (.pointer (some { block:=la,off:=oa+i*6 })) ?_;exact hK.out _ _ ⟨l0,l1,l2,l3,true,true,true,true,false,false,false,by kernel_rfl,by kernel_rfl,hb,hT⟩
     refine lc [4,5,6,7] [9,10] ?_ ?_
     ·rintro L ac Wn ⟨l0,l1,l2,l3,l4,l5,l6,l7,l8,l9,l10,rfl,hI⟩ rfl ⟨rfl,rfl,rfl,rfl,-⟩ ⟨rfl,rfl,-⟩ Kc hK;simp only [sel_t,sel_f] at hI;obtain ⟨rfl,hb,hT⟩:=hI;have ⟨⟨c0,c1,c2,c3,c4,c5⟩,⟨g0,g1,g2,g3,g4,g5⟩,_,_⟩:=hT;refine ly (.agg #[.bool m1,.string s1,.int .i64 d1]) ?_;exact hK.out _ _ ⟨l0,l1,l2,l3,true,true,true,true,true,false,false,by kernel_rfl,by kernel_rfl,hb,hT⟩
     refine lc [0,1,2,3,4,5,6,7,8] [10] ?_ ?_
     ·rintro L ac Wn ⟨l0,l1,l2,l3,l4,l5,l6,l7,l8,l9,l10,rfl,hI⟩ rfl ⟨rfl,rfl,rfl,rfl,rfl,rfl,rfl,rfl,rfl,-⟩ ⟨rfl,-⟩ Kc hK;simp only [sel_t,sel_f] at hI;obtain ⟨rfl,hb,hT⟩:=hI;go_simp;go_fit (HX.out.1 _);rintro e V ⟨rfl,hq⟩;exact hK.out _ _ ⟨true,true,true,true,true,true,true,true,true,true,false,by kernel_rfl,by kernel_rfl,(below_next hb hq),(hT.below hq)⟩
     refine ln [0,1,2,3,4,5,6,7,8,9] [] ?_;rintro L ac Wn ⟨l0,l1,l2,l3,l4,l5,l6,l7,l8,l9,l10,rfl,hI⟩ rfl ⟨rfl,rfl,rfl,rfl,rfl,rfl,rfl,rfl,rfl,rfl,-⟩ - Kc hK;simp only [sel_t,sel_f] at hI;obtain ⟨rfl,hb,hT⟩:=hI;refine ly (.bool true) ?_;exact hK.out _ _ ⟨true,true,true,true,true,true,true,true,true,true,true,by kernel_rfl,by kernel_rfl,hb,hT⟩
    refine bo [0,1,2,3,4,5,6,7,8,9,10] ?_;rintro L ac Wn ⟨l0,l1,l2,l3,l4,l5,l6,l7,l8,l9,l10,rfl,hI⟩ ⟨rfl,rfl,rfl,rfl,rfl,rfl,rfl,rfl,rfl,rfl,rfl,-⟩ Kc hK;simp only [sel_t] at hI;obtain ⟨rfl,hb,hT⟩:=hI;refine ly (.bool true) ?_;refine hK.out _ _ (fun fu hf=>?_);clear hK Kc
    refine ls 24 [12,13,14,15,16,17,18,19,20,21,22,23] 23 (fun L ac Wn=>∃ l12 l13 l14 l15 l16 l17 l18 l19 l20 l21 l22:Bool,L=#[true,true,true,true,true,true,true,true,true,true,true,true,l12,l13,l14,l15,l16,l17,l18,l19,l20,l21,l22,false]∧ac={tmps:=#[.slice (some { block:=la,off:=oa }) n c,.slice (some { block:=lb,off:=ob }) n c',undef,undef,u4,.int .i64 ↑i,.slice (some { block:=la,off:=oa }) n c,.int .i64 ↑n,.slice (some { block:=lb,off:=ob }) n c',.int .i64 ↑n,.bool false,.int .i64 ↑i,.slice (some { block:=la,off:=oa }) n c,.int .i64 ↑n,.bool true,u15,u16,.slice (some { block:=lb,off:=ob }) n c',.int .i64 ↑i,.pointer (some { block:=lb,off:=ob+i*6 }),.agg #[.bool m2,.string s2,.int .i64 d2,.bool n2,.string t2,.int .i64 e2],.slice (some { block:=la,off:=oa }) n c,.int .i64 ↑i,.pointer (some { block:=la,off:=oa+i*6 }),.pointer (some { block:=la,off:=oa+i*6 }),.agg #[.bool m1,.string s1,.int .i64 d1],.bool false,.bool true,.bool true,sel l12 (undef) (u29),sel l13 (undef) (u30),sel l14 (undef) (u31),sel l15 (undef) (u32),sel l16 (undef) (u33),sel l17 (undef) (u34),sel l18 (undef) (u35),sel l19 (undef) (u36),sel l20 (undef) (u37),sel l21 (undef) (u38),sel l22 (undef) (u39),u40],defers:=[] }∧Below (w.heap.size) w Wn∧(TwoS la (oa+i*6) lb (ob+i*6) m1 s1 d1 n1 t1 e1 m2 s2 d2 n2 t2 e2 Wn)) hf ?_ ?_ ?_ ?_
    ·exact ⟨false,false,false,false,false,false,false,false,false,false,false,by kernel_rfl,by kernel_rfl,hb,hT⟩
    ·rintro L ac Wn ⟨l12,l13,l14,l15,l16,l17,l18,l19,l20,l21,l22,rfl,_⟩
     kernel_rfl
    ·refine (seg_all (b:=23) [12,13,14,15,16,17,18,19,20,21,22] ?_:∀ j∈[12,13,14,15,16,17,18,19,20,21,22,23],j≠23→_);refine lc [] [14,15,21,22] ?_ ?_
     ·rintro L ac Wn ⟨l12,l13,l14,l15,l16,l17,l18,l19,l20,l21,l22,rfl,hI⟩ rfl - ⟨rfl,rfl,rfl,rfl,-⟩ Kc hK;simp only [sel_f] at hI;obtain ⟨rfl,hb,hT⟩:=hI;refine lin_skip rfl ?_;exact hK.out _ _ ⟨true,l13,false,false,l16,l17,l18,l19,l20,false,false,by kernel_rfl,by kernel_rfl,hb,hT⟩
     refine lc [] [14,15,21,22] ?_ ?_
     ·rintro L ac Wn ⟨l12,l13,l14,l15,l16,l17,l18,l19,l20,l21,l22,rfl,hI⟩ rfl - ⟨rfl,rfl,rfl,rfl,-⟩ Kc hK;simp only [sel_f] at hI;obtain ⟨rfl,hb,hT⟩:=hI;refine lin_skip rfl ?_;exact hK.out _ _ ⟨l12,true,false,false,l16,l17,l18,l19,l20,false,false,by kernel_rfl,by kernel_rfl,hb,hT⟩
     refine lc [12,13] [15,21,22] ?_ ?_
     ·rintro L ac Wn ⟨l12,l13,l14,l15,l16,l17,l18,l19,l20,l21,l22,rfl,hI⟩ rfl ⟨rfl,rfl,-⟩ ⟨rfl,rfl,rfl,-⟩ Kc hK;simp only [sel_t,sel_f] at hI;obtain ⟨rfl,hb,hT⟩:=hI;refine lin_skip rfl ?_;exact hK.out _ _ ⟨true,true,true,false,l16,l17,l18,l19,l20,false,false,by kernel_rfl,by kernel_rfl,hb,hT⟩
     refine lc [12,13,14] [21,22] ?_ ?_
     ·rintro L ac Wn ⟨l12,l13,l14,l15,l16,l17,l18,l19,l20,l21,l22,rfl,hI⟩ rfl ⟨rfl,rfl,rfl,-⟩ ⟨rfl,rfl,-⟩ Kc hK;simp only [sel_t,sel_f] at hI;obtain ⟨rfl,hb,hT⟩:=hI;refine lin_skip rfl ?_;exact hK.out _ _ ⟨true,true,true,true,l16,l17,l18,l19,l20,false,false,by kernel_rfl,by kernel_rfl,hb,hT⟩
     refine lc [] [18,19,20,21,22] ?_ ?_
     ·rintro L ac Wn ⟨l12,l13,l14,l15,l16,l17,l18,l19,l20,l21,l22,rfl,hI⟩ rfl - ⟨rfl,rfl,rfl,rfl,rfl,-⟩ Kc hK;simp only [sel_f] at hI;obtain ⟨rfl,hb,hT⟩:=hI;refine lin_skip rfl ?_;exact hK.out _ _ ⟨l12,l13,l14,l15,true,l17,false,false,false,false,false,by kernel_rfl,by kernel_rfl,hb,hT⟩
     refine lc [] [18,19,20,21,22] ?_ ?_
     ·rintro L ac Wn ⟨l12,l13,l14,l15,l16,l17,l18,l19,l20,l21,l22,rfl,hI⟩ rfl - ⟨rfl,rfl,rfl,rfl,rfl,-⟩ Kc hK;simp only [sel_f] at hI;obtain ⟨rfl,hb,hT⟩:=hI;refine lin_skip rfl ?_;exact hK.out _ _ ⟨l12,l13,l14,l15,l16,true,false,false,false,false,false,by kernel_rfl,by kernel_rfl,hb,hT⟩
     refine lc [16,17] [19,20,21,22] ?_ ?_
     ·rintro L ac Wn ⟨l12,l13,l14,l15,l16,l17,l18,l19,l20,l21,l22,rfl,hI⟩ rfl ⟨rfl,rfl,-⟩ ⟨rfl,rfl,rfl,rfl,-⟩ Kc hK;simp only [sel_t,sel_f] at hI;obtain ⟨rfl,hb,hT⟩:=hI;refine lin_skip rfl ?_;exact hK.out _ _ ⟨l12,l13,l14,l15,true,true,true,false,false,false,false,by kernel_rfl,by kernel_rfl,hb,hT⟩
     refine lc [16,17,18] [20,21,22] ?_ ?_
     ·rintro L ac Wn ⟨l12,l13,l14,l15,l16,l17,l18,l19,l20,l21,l22,rfl,hI⟩ rfl ⟨rfl,rfl,rfl,-⟩ ⟨rfl,rfl,rfl,-⟩ Kc hK;simp only [sel_t,sel_f] at hI;obtain ⟨rfl,hb,hT⟩:=hI;refine lin_skip rfl ?_;exact hK.out _ _ ⟨l12,l13,l14,l15,true,true,true,true,false,false,false,by kernel_rfl,by kernel_rfl,hb,hT⟩
     refine lc [16,17,18,19] [21,22] ?_ ?_
     ·rintro L ac Wn ⟨l12,l13,l14,l15,l16,l17,l18,l19,l20,l21,l22,rfl,hI⟩ rfl ⟨rfl,rfl,rfl,rfl,-⟩ ⟨rfl,rfl,-⟩ Kc hK;simp only [sel_t,sel_f] at hI;obtain ⟨rfl,hb,hT⟩:=hI;refine lin_skip rfl ?_;exact hK.out _ _ ⟨l12,l13,l14,l15,true,true,true,true,true,false,false,by kernel_rfl,by kernel_rfl,hb,hT⟩
     refine lc [12,13,14,15,16,17,18,19,20] [22] ?_ ?_
     ·rintro L ac Wn ⟨l12,l13,l14,l15,l16,l17,l18,l19,l20,l21,l22,rfl,hI⟩ rfl ⟨rfl,rfl,rfl,rfl,rfl,rfl,rfl,rfl,rfl,-⟩ ⟨rfl,-⟩ Kc hK;simp only [sel_t,sel_f] at hI;obtain ⟨rfl,hb,hT⟩:=hI;refine lin_skip rfl ?_;exact hK.out _ _ ⟨true,true,true,true,true,true,true,true,true,true,false,by kernel_rfl,by kernel_rfl,hb,hT⟩
     refine ln [12,13,14,15,16,17,18,19,20,21] [] ?_;rintro L ac Wn ⟨l12,l13,l14,l15,l16,l17,l18,l19,l20,l21,l22,rfl,hI⟩ rfl ⟨rfl,rfl,rfl,rfl,rfl,rfl,rfl,rfl,rfl,rfl,-⟩ - Kc hK;simp only [sel_t,sel_f] at hI;obtain ⟨rfl,hb,hT⟩:=hI;refine lin_skip rfl ?_;exact hK.out _ _ ⟨true,true,true,true,true,true,true,true,true,true,true,by kernel_rfl,by kernel_rfl,hb,hT⟩
    refine bo [12,13,14,15,16,17,18,19,20,21,22] ?_;rintro L ac Wn ⟨l12,l13,l14,l15,l16,l17,l18,l19,l20,l21,l22,rfl,hI⟩ ⟨rfl,rfl,rfl,rfl,rfl,rfl,rfl,rfl,rfl,rfl,rfl,-⟩ Kc hK;simp only [sel_t] at hI;obtain ⟨rfl,hb,hT⟩:=hI;refine ly (.bool true) ?_;refine hK.out _ _ (fun fu hf=>wpAnyH_done (by kernel_rfl) ?_ _);clear hK Kc hf;go_wp2;go_ret;exact ⟨rfl,hb⟩
   | true =>
    go_wp2;refine region_segs (n:=24) #[false,false,false,false,false,false,false,false,false,false,false,false,false,false,false,false,false,false,false,false,false,false,false,false] (by kernel_rfl) (by kernel_rfl) (by kernel_rfl) ?_;intro fu hf
    refine ls 24 [0,1,2,3,4,5,6,7,8,9,10,11] 11 (fun L ac Wn=>∃ l0 l1 l2 l3 l4 l5 l6 l7 l8 l9 l10:Bool,L=#[l0,l1,l2,l3,l4,l5,l6,l7,l8,l9,l10,false,false,false,false,false,false,false,false,false,false,false,false,false]∧ac={tmps:=#[.slice (some { block:=la,off:=oa }) n c,.slice (some { block:=lb,off:=ob }) n c',undef,undef,u4,.int .i64 ↑i,.slice (some { block:=la,off:=oa }) n c,.int .i64 ↑n,.slice (some { block:=lb,off:=ob }) n c',.int .i64 ↑n,.bool false,.int .i64 ↑i,.slice (some { block:=la,off:=oa }) n c,.int .i64 ↑n,.bool true,u15,u16,sel l0 (.slice (some { block:=lb,off:=ob }) n c') (u17),sel l1 (.int .i64 ↑i) (u18),sel l2 (.pointer (some { block:=lb,off:=ob+i*6 })) (u19),sel l3 (.agg #[.bool m2,.string s2,.int .i64 d2,.bool n2,.string t2,.int .i64 e2]) (u20),sel l4 (.slice (some { block:=la,off:=oa }) n c) (u21),sel l5 (.int .i64 ↑i) (u22),sel l6 (.pointer (some { block:=la,off:=oa+i*6 })) (u23),sel l7 (.pointer (some { block:=la,off:=oa+i*6 })) (u24),sel l8 (.agg #[.bool m1,.string s1,.int .i64 d1]) (u25),sel l9 (.bool true) (u26),sel l10 (.bool false) (u27),u28,u29,u30,u31,u32,u33,u34,u35,u36,u37,u38,u39,u40],defers:=[] }∧Below (w.heap.size) w Wn∧(TwoS la (oa+i*6) lb (ob+i*6) m1 s1 d1 n1 t1 e1 m2 s2 d2 n2 t2 e2 Wn)) hf ?_ ?_ ?_ ?_
    ·exact ⟨false,false,false,false,false,false,false,false,false,false,false,by kernel_rfl,by kernel_rfl,hb.drew,hT.drew⟩
    ·rintro L ac Wn ⟨l0,l1,l2,l3,l4,l5,l6,l7,l8,l9,l10,rfl,_⟩
     kernel_rfl
    ·refine (seg_all (b:=11) [0,1,2,3,4,5,6,7,8,9,10] ?_:∀ j∈[0,1,2,3,4,5,6,7,8,9,10,11],j≠11→_);refine lc [] [2,3,9,10] ?_ ?_
     ·rintro L ac Wn ⟨l0,l1,l2,l3,l4,l5,l6,l7,l8,l9,l10,rfl,hI⟩ rfl - ⟨rfl,rfl,rfl,rfl,-⟩ Kc hK;simp only [sel_f] at hI;obtain ⟨rfl,hb,hT⟩:=hI;refine ly (.slice (some { block:=lb,off:=ob }) n c') ?_;exact hK.out _ _ ⟨true,l1,false,false,l4,l5,l6,l7,l8,false,false,by kernel_rfl,by kernel_rfl,hb,hT⟩
     refine lc [] [2,3,9,10] ?_ ?_
     ·rintro L ac Wn ⟨l0,l1,l2,l3,l4,l5,l6,l7,l8,l9,l10,rfl,hI⟩ rfl - ⟨rfl,rfl,rfl,rfl,-⟩ Kc hK;simp only [sel_f] at hI;obtain ⟨rfl,hb,hT⟩:=hI;refine ly (.int .i64 ↑i) ?_;exact hK.out _ _ ⟨l0,true,false,false,l4,l5,l6,l7,l8,false,false,by kernel_rfl,by kernel_rfl,hb,hT⟩
     refine lc [0,1] [3,9,10] ?_ ?_
     ·rintro L ac Wn ⟨l0,l1,l2,l3,l4,l5,l6,l7,l8,l9,l10,rfl,hI⟩ rfl ⟨rfl,rfl,-⟩ ⟨rfl,rfl,rfl,-⟩ Kc hK;simp only [sel_t,sel_f] at hI;obtain ⟨rfl,hb,hT⟩:=hI;refine ly (.pointer (some { block:=lb,off:=ob+i*6 })) ?_;exact hK.out _ _ ⟨true,true,true,false,l4,l5,l6,l7,l8,false,false,by kernel_rfl,by kernel_rfl,hb,hT⟩
     refine lc [0,1,2] [9,10] ?_ ?_
     ·rintro L ac Wn ⟨l0,l1,l2,l3,l4,l5,l6,l7,l8,l9,l10,rfl,hI⟩ rfl ⟨rfl,rfl,rfl,-⟩ ⟨rfl,rfl,-⟩ Kc hK;simp only [sel_t,sel_f] at hI;obtain ⟨rfl,hb,hT⟩:=hI;have ⟨⟨c0,c1,c2,c3,c4,c5⟩,⟨g0,g1,g2,g3,g4,g5⟩,_,_⟩:=hT;refine ly (.agg #[.bool m2,.string s2,.int .i64 d2,.bool n2,.string t2,.int .i64 e2]) ?_;exact hK.out _ _ ⟨true,true,true,true,l4,l5,l6,l7,l8,false,false,by kernel_rfl,by kernel_rfl,hb,hT⟩
     refine lc [] [6,7,8,9,10] ?_ ?_
     ·rintro L ac Wn ⟨l0,l1,l2,l3,l4,l5,l6,l7,l8,l9,l10,rfl,hI⟩ rfl - ⟨rfl,rfl,rfl,rfl,rfl,-⟩ Kc hK;simp only [sel_f] at hI;obtain ⟨rfl,hb,hT⟩:=hI;refine ly (.slice (some { block:=la,off:=oa }) n c) ?_;exact hK.out _ _ ⟨l0,l1,l2,l3,true,l5,false,false,false,false,false,by kernel_rfl,by kernel_rfl,hb,hT⟩
     refine lc [] [6,7,8,9,10] ?_ ?_
     ·rintro L ac Wn ⟨l0,l1,l2,l3,l4,l5,l6,l7,l8,l9,l10,rfl,hI⟩ rfl - ⟨rfl,rfl,rfl,rfl,rfl,-⟩ Kc hK;simp only [sel_f] at hI;obtain ⟨rfl,hb,hT⟩:=hI;refine ly (.int .i64 ↑i) ?_;exact hK.out _ _ ⟨l0,l1,l2,l3,l4,true,false,false,false,false,false,by kernel_rfl,by kernel_rfl,hb,hT⟩
     refine lc [4,5] [7,8,9,10] ?_ ?_
     ·rintro L ac Wn ⟨l0,l1,l2,l3,l4,l5,l6,l7,l8,l9,l10,rfl,hI⟩ rfl ⟨rfl,rfl,-⟩ ⟨rfl,rfl,rfl,rfl,-⟩ Kc hK;simp only [sel_t,sel_f] at hI;obtain ⟨rfl,hb,hT⟩:=hI;refine ly (.pointer (some { block:=la,off:=oa+i*6 })) ?_;exact hK.out _ _ ⟨l0,l1,l2,l3,true,true,true,false,false,false,false,by kernel_rfl,by kernel_rfl,hb,hT⟩
     refine lc [4,5,6] [8,9,10] ?_ ?_
     ·rintro L ac Wn ⟨l0,l1,l2,l3,l4,l5,l6,l7,l8,l9,l10,rfl,hI⟩ rfl ⟨rfl,rfl,rfl,-⟩ ⟨rfl,rfl,rfl,-⟩ Kc hK;simp only [sel_t,sel_f] at hI;obtain ⟨rfl,hb,hT⟩:=hI;refine ly (.pointer (some { block:=la,off:=oa+i*6 })) ?_;exact hK.out _ _ ⟨l0,l1,l2,l3,true,true,true,true,false,false,false,by kernel_rfl,by kernel_rfl,hb,hT⟩
     refine lc [4,5,6,7] [9,10] ?_ ?_
     ·rintro L ac Wn ⟨l0,l1,l2,l3,l4,l5,l6,l7,l8,l9,l10,rfl,hI⟩ rfl ⟨rfl,rfl,rfl,rfl,-⟩ ⟨rfl,rfl,-⟩ Kc hK;simp only [sel_t,sel_f] at hI;obtain ⟨rfl,hb,hT⟩:=hI;have ⟨⟨c0,c1,c2,c3,c4,c5⟩,⟨g0,g1,g2,g3,g4,g5⟩,_,_⟩:=hT;refine ly (.agg #[.bool m1,.string s1,.int .i64 d1]) ?_;exact hK.out _ _ ⟨l0,l1,l2,l3,true,true,true,true,true,false,false,by kernel_rfl,by kernel_rfl,hb,hT⟩
     refine lc [0,1,2,3,4,5,6,7,8] [10] ?_ ?_
     ·rintro L ac Wn ⟨l0,l1,l2,l3,l4,l5,l6,l7,l8,l9,l10,rfl,hI⟩ rfl ⟨rfl,rfl,rfl,rfl,rfl,rfl,rfl,rfl,rfl,-⟩ ⟨rfl,-⟩ Kc hK;simp only [sel_t,sel_f] at hI;obtain ⟨rfl,hb,hT⟩:=hI;go_simp;go_fit (HX.out.1 _);rintro e V ⟨rfl,hq⟩;exact hK.out _ _ ⟨true,true,true,true,true,true,true,true,true,true,false,by kernel_rfl,by kernel_rfl,(below_next hb hq),(hT.below hq)⟩
     refine ln [0,1,2,3,4,5,6,7,8,9] [] ?_;rintro L ac Wn ⟨l0,l1,l2,l3,l4,l5,l6,l7,l8,l9,l10,rfl,hI⟩ rfl ⟨rfl,rfl,rfl,rfl,rfl,rfl,rfl,rfl,rfl,rfl,-⟩ - Kc hK;simp only [sel_t,sel_f] at hI;obtain ⟨rfl,hb,hT⟩:=hI;refine ly (.bool false) ?_;exact hK.out _ _ ⟨true,true,true,true,true,true,true,true,true,true,true,by kernel_rfl,by kernel_rfl,hb,hT⟩
    refine bo [0,1,2,3,4,5,6,7,8,9,10] ?_;rintro L ac Wn ⟨l0,l1,l2,l3,l4,l5,l6,l7,l8,l9,l10,rfl,hI⟩ ⟨rfl,rfl,rfl,rfl,rfl,rfl,rfl,rfl,rfl,rfl,rfl,-⟩ Kc hK;simp only [sel_t] at hI;obtain ⟨rfl,hb,hT⟩:=hI;refine ly (.bool false) ?_;refine hK.out _ _ (fun fu hf=>?_);clear hK Kc
    refine ls 24 [12,13,14,15,16,17,18,19,20,21,22,23] 23 (fun L ac Wn=>∃ l12 l13 l14 l15 l16 l17 l18 l19 l20 l21 l22:Bool,L=#[true,true,true,true,true,true,true,true,true,true,true,true,l12,l13,l14,l15,l16,l17,l18,l19,l20,l21,l22,false]∧ac={tmps:=#[.slice (some { block:=la,off:=oa }) n c,.slice (some { block:=lb,off:=ob }) n c',undef,undef,u4,.int .i64 ↑i,.slice (some { block:=la,off:=oa }) n c,.int .i64 ↑n,.slice (some { block:=lb,off:=ob }) n c',.int .i64 ↑n,.bool false,.int .i64 ↑i,.slice (some { block:=la,off:=oa }) n c,.int .i64 ↑n,.bool true,u15,u16,.slice (some { block:=lb,off:=ob }) n c',.int .i64 ↑i,.pointer (some { block:=lb,off:=ob+i*6 }),.agg #[.bool m2,.string s2,.int .i64 d2,.bool n2,.string t2,.int .i64 e2],.slice (some { block:=la,off:=oa }) n c,.int .i64 ↑i,.pointer (some { block:=la,off:=oa+i*6 }),.pointer (some { block:=la,off:=oa+i*6 }),.agg #[.bool m1,.string s1,.int .i64 d1],.bool true,.bool false,.bool false,sel l12 (.slice (some { block:=lb,off:=ob }) n c') (u29),sel l13 (.int .i64 ↑i) (u30),sel l14 (.pointer (some { block:=lb,off:=ob+i*6 })) (u31),sel l15 (.agg #[.bool m2,.string s2,.int .i64 d2,.bool n2,.string t2,.int .i64 e2]) (u32),sel l16 (.slice (some { block:=la,off:=oa }) n c) (u33),sel l17 (.int .i64 ↑i) (u34),sel l18 (.pointer (some { block:=la,off:=oa+i*6 })) (u35),sel l19 (.pointer (some { block:=la,off:=oa+i*6+3 })) (u36),sel l20 (.agg #[.bool n1,.string t1,.int .i64 e1]) (u37),sel l21 (.bool v2) (u38),sel l22 (.bool !v2) (u39),u40],defers:=[] }∧Below (w.heap.size) w Wn∧(TwoS la (oa+i*6) lb (ob+i*6) m1 s1 d1 n1 t1 e1 m2 s2 d2 n2 t2 e2 Wn)) hf ?_ ?_ ?_ ?_
    ·exact ⟨false,false,false,false,false,false,false,false,false,false,false,by kernel_rfl,by kernel_rfl,hb,hT⟩
    ·rintro L ac Wn ⟨l12,l13,l14,l15,l16,l17,l18,l19,l20,l21,l22,rfl,_⟩
     kernel_rfl
    ·refine (seg_all (b:=23) [12,13,14,15,16,17,18,19,20,21,22] ?_:∀ j∈[12,13,14,15,16,17,18,19,20,21,22,23],j≠23→_);refine lc [] [14,15,21,22] ?_ ?_
     ·rintro L ac Wn ⟨l12,l13,l14,l15,l16,l17,l18,l19,l20,l21,l22,rfl,hI⟩ rfl - ⟨rfl,rfl,rfl,rfl,-⟩ Kc hK;simp only [sel_f] at hI;obtain ⟨rfl,hb,hT⟩:=hI;refine ly (.slice (some { block:=lb,off:=ob }) n c') ?_;exact hK.out _ _ ⟨true,l13,false,false,l16,l17,l18,l19,l20,false,false,by kernel_rfl,by kernel_rfl,hb,hT⟩
     refine lc [] [14,15,21,22] ?_ ?_
     ·rintro L ac Wn ⟨l12,l13,l14,l15,l16,l17,l18,l19,l20,l21,l22,rfl,hI⟩ rfl - ⟨rfl,rfl,rfl,rfl,-⟩ Kc hK;simp only [sel_f] at hI;obtain ⟨rfl,hb,hT⟩:=hI;refine ly (.int .i64 ↑i) ?_;exact hK.out _ _ ⟨l12,true,false,false,l16,l17,l18,l19,l20,false,false,by kernel_rfl,by kernel_rfl,hb,hT⟩
     refine lc [12,13] [15,21,22] ?_ ?_
     ·rintro L ac Wn ⟨l12,l13,l14,l15,l16,l17,l18,l19,l20,l21,l22,rfl,hI⟩ rfl ⟨rfl,rfl,-⟩ ⟨rfl,rfl,rfl,-⟩ Kc hK;simp only [sel_t,sel_f] at hI;obtain ⟨rfl,hb,hT⟩:=hI;refine ly (.pointer (some { block:=lb,off:=ob+i*6 })) ?_;exact hK.out _ _ ⟨true,true,true,false,l16,l17,l18,l19,l20,false,false,by kernel_rfl,by kernel_rfl,hb,hT⟩
     refine lc [12,13,14] [21,22] ?_ ?_
     ·rintro L ac Wn ⟨l12,l13,l14,l15,l16,l17,l18,l19,l20,l21,l22,rfl,hI⟩ rfl ⟨rfl,rfl,rfl,-⟩ ⟨rfl,rfl,-⟩ Kc hK;simp only [sel_t,sel_f] at hI;obtain ⟨rfl,hb,hT⟩:=hI;have ⟨⟨c0,c1,c2,c3,c4,c5⟩,⟨g0,g1,g2,g3,g4,g5⟩,_,_⟩:=hT;refine ly (.agg #[.bool m2,.string s2,.int .i64 d2,.bool n2,.string t2,.int .i64 e2]) ?_;exact hK.out _ _ ⟨true,true,true,true,l16,l17,l18,l19,l20,false,false,by kernel_rfl,by kernel_rfl,hb,hT⟩
     refine lc [] [18,19,20,21,22] ?_ ?_
     ·rintro L ac Wn ⟨l12,l13,l14,l15,l16,l17,l18,l19,l20,l21,l22,rfl,hI⟩ rfl - ⟨rfl,rfl,rfl,rfl,rfl,-⟩ Kc hK;simp only [sel_f] at hI;obtain ⟨rfl,hb,hT⟩:=hI;refine ly (.slice (some { block:=la,off:=oa }) n c) ?_;exact hK.out _ _ ⟨l12,l13,l14,l15,true,l17,false,false,false,false,false,by kernel_rfl,by kernel_rfl,hb,hT⟩
     refine lc [] [18,19,20,21,22] ?_ ?_
     ·rintro L ac Wn ⟨l12,l13,l14,l15,l16,l17,l18,l19,l20,l21,l22,rfl,hI⟩ rfl - ⟨rfl,rfl,rfl,rfl,rfl,-⟩ Kc hK;simp only [sel_f] at hI;obtain ⟨rfl,hb,hT⟩:=hI;refine ly (.int .i64 ↑i) ?_;exact hK.out _ _ ⟨l12,l13,l14,l15,l16,true,false,false,false,false,false,by kernel_rfl,by kernel_rfl,hb,hT⟩
     refine lc [16,17] [19,20,21,22] ?_ ?_
     ·rintro L ac Wn ⟨l12,l13,l14,l15,l16,l17,l18,l19,l20,l21,l22,rfl,hI⟩ rfl ⟨rfl,rfl,-⟩ ⟨rfl,rfl,rfl,rfl,-⟩ Kc hK;simp only [sel_t,sel_f] at hI;obtain ⟨rfl,hb,hT⟩:=hI;refine ly (.pointer (some { block:=la,off:=oa+i*6 })) ?_;exact hK.out _ _ ⟨l12,l13,l14,l15,true,true,true,false,false,false,false,by kernel_rfl,by kernel_rfl,hb,hT⟩
     refine lc [16,17,18] [20,21,22] ?_ ?_
     ·rintro L ac Wn ⟨l12,l13,l14,l15,l16,l17,l18,l19,l20,l21,l22,rfl,hI⟩ rfl ⟨rfl,rfl,rfl,-⟩ ⟨rfl,rfl,rfl,-⟩ Kc hK;simp only [sel_t,sel_f] at hI;obtain ⟨rfl,hb,hT⟩:=hI;refine ly (.pointer (some { block:=la,off:=oa+i*6+3 })) ?_;exact hK.out _ _ ⟨l12,l13,l14,l15,true,true,true,true,false,false,false,by kernel_rfl,by kernel_rfl,hb,hT⟩
     refine lc [16,17,18,19] [21,22] ?_ ?_
     ·rintro L ac Wn ⟨l12,l13,l14,l15,l16,l17,l18,l19,l20,l21,l22,rfl,hI⟩ rfl ⟨rfl,rfl,rfl,rfl,-⟩ ⟨rfl,rfl,-⟩ Kc hK;simp only [sel_t,sel_f] at hI;obtain ⟨rfl,hb,hT⟩:=hI;have ⟨⟨c0,c1,c2,c3,c4,c5⟩,⟨g0,g1,g2,g3,g4,g5⟩,_,_⟩:=hT;refine ly (.agg #[.bool n1,.string t1,.int .i64 e1]) ?_;exact hK.out _ _ ⟨l12,l13,l14,l15,true,true,true,true,true,false,false,by kernel_rfl,by kernel_rfl,hb,hT⟩
     refine lc [12,13,14,15,16,17,18,19,20] [22] ?_ ?_
     ·rintro L ac Wn ⟨l12,l13,l14,l15,l16,l17,l18,l19,l20,l21,l22,rfl,hI⟩ rfl ⟨rfl,rfl,rfl,rfl,rfl,rfl,rfl,rfl,rfl,-⟩ ⟨rfl,-⟩ Kc hK;simp only [sel_t,sel_f] at hI;obtain ⟨rfl,hb,hT⟩:=hI;go_simp;go_fit (HX.out.2.1 _);rintro e V ⟨rfl,hq⟩;exact hK.out _ _ ⟨true,true,true,true,true,true,true,true,true,true,false,by kernel_rfl,by kernel_rfl,(below_next hb hq),(hT.below hq)⟩
     refine ln [12,13,14,15,16,17,18,19,20,21] [] ?_;rintro L ac Wn ⟨l12,l13,l14,l15,l16,l17,l18,l19,l20,l21,l22,rfl,hI⟩ rfl ⟨rfl,rfl,rfl,rfl,rfl,rfl,rfl,rfl,rfl,rfl,-⟩ - Kc hK;simp only [sel_t,sel_f] at hI;obtain ⟨rfl,hb,hT⟩:=hI;refine ly (.bool !v2) ?_;exact hK.out _ _ ⟨true,true,true,true,true,true,true,true,true,true,true,by kernel_rfl,by kernel_rfl,hb,hT⟩
    refine bo [12,13,14,15,16,17,18,19,20,21,22] ?_;rintro L ac Wn ⟨l12,l13,l14,l15,l16,l17,l18,l19,l20,l21,l22,rfl,hI⟩ ⟨rfl,rfl,rfl,rfl,rfl,rfl,rfl,rfl,rfl,rfl,rfl,-⟩ Kc hK;simp only [sel_t] at hI;obtain ⟨rfl,hb,hT⟩:=hI;refine ly (.bool !v2) ?_;refine hK.out _ _ (fun fu hf=>wpAnyH_done (by kernel_rfl) ?_ _);clear hK Kc hf
    cases v2 with
    | true =>
     have HS:=Lib.hid (HX.out.2.2.1 (by trivial) (by trivial));clear HX;go_wp2;exact ⟨⟨i+1,hlt,rfl,HS.out,hb⟩,by simp [intY];omega⟩
    | false =>
     obtain rfl:=HX.out.2.2.2 (by trivial);clear HX;go_wp2;go_ret;exact ⟨rfl,hb⟩
  ·obtain rfl:i=n:=by omega
   have hrt:r=true:=HC.out.1.2 ⟨by trivial,fun j h1 h2=>hall j h1 h2 (by omega)⟩;subst hrt;clear hall hl hp;go_wp2;go_ret;exact ⟨rfl,hb⟩
end Go.Proofs.YtbijggomdpaknaaGreatDoor
namespace Go.Proofs.YtbijggomdpaknaaGreatDoor
set_option maxRecDepth 100000
set_option maxHeartbeats 6400000
open Go.RowKit Go.Shelf
theorem rbvol_any (w:World) (ad:Option Addr) (l:List SV) (n c:Nat) (hn:l.length=n) (hmax:n≤8) (hl:SAt w ad l) (hs:∀ x∈l,GS 80 200 x) :
  Calls Tryz.prog 18 #[.slice ad n c] w (Ret (nagg (canonN (volD l))) w):=by
 have hone:canonN (volD (l.take 0))=canonN (.ofIntWithPrec 1 0):=by rw [one_of];rfl
 have hof:=fun W=>ryof_any W 1 (by decide) (by decide) _ _ _ (canonN_df (.ofIntWithPrec 1 0));have hstep:∀ i (h:i<l.length),volD (l.take (i+1))=volD (l.take i)*wS l[i]:=fun i h=>by
  unfold volD;rw [List.take_succ_eq_append_getElem h,List.map_append,List.foldl_append];rfl
 have hbnd:∀ i,i≤l.length→(canonN (volD (l.take i))).2.1.size≤1000∧-10000≤(canonN (volD (l.take i))).2.2∧(canonN (volD (l.take i))).2.2≤10000:=fun i h =>
  bnd_vol (B:=80) (E:=200) (fun x hx=>hs x (List.mem_of_mem_take hx)) ⟨by rw [List.length_take];omega,by decide,by decide⟩
 have hlast:canonN (volD (l.take n))=canonN (volD l):=by rw [List.take_of_length_le (by omega)]
 rw [← hone] at hof;rw [← hlast];obtain ⟨F,hF⟩:∃ F:Nat→NV,∀ i,F i=canonN (volD (l.take i)):=⟨_,fun _=>rfl⟩;rw [← hF n];rw [← hF 0] at hof;have hmul:∀ i (h:i<l.length) W,Calls Tryz.prog 46 #[nagg (F i),nagg (canonN (wS l[i]))] W (Ret (nagg (F (i+1))) W):=fun i h W=>by
  have h1:=hbnd i (by omega);rw [← hF i] at h1;have h2:=(hs _ (List.getElem_mem h)).width.canon;refine rytimes_any W _ _ _ _ _ _ (by omega) (by omega) (by omega) (by omega) _ _ _ ?_;have q1:nv (F i).1 (F i).2.1 (F i).2.2=volD (l.take i):=by rw [hF i];exact nvl_canon _
  have q2:nv (canonN (wS l[i])).1 (canonN (wS l[i])).2.1 (canonN (wS l[i])).2.2=wS l[i]:=nvl_canon _;rw [q1,q2,← hstep i h,hF (i+1)];exact canonN_df _
 have HC:=Lib.hid (And.intro hn (And.intro hs (And.intro hmul hof)));clear hone hof hstep hbnd hlast hmul hF hn hs;obtain ⟨y0,hy0⟩:∃ y,F 0=y:=⟨_,rfl⟩;have hof:=HC.out.2.2.2;rw [hy0] at hof;obtain ⟨m0,s0,d0⟩:=y0;replace hof:∀ W,Calls Tryz.prog 45 #[.int .i64 1] W (Ret (.agg #[.bool m0,.string s0,.int .i64 d0]) W):=hof;have HO:=Lib.hid hof;have HY0:=Lib.hid hy0;clear hof hy0;go_enter Tryz.func18,Tryz.ntmps18;have hR:=Nk.new w false ⟨#[]⟩ 0;have hb:=(Below.refl w.heap.size w).alloc (Nat.le_refl _) (.cells #[.bool false,.string ⟨#[]⟩,.int .i64 0] 36);have hz:w.heap.size+1=(w.alloc (.cells #[.bool false,.string ⟨#[]⟩,.int .i64 0] 36)).heap.size:=(World.size_alloc ..).symm;go_wp2_with fail;generalize (w.alloc (.cells #[.bool false,.string ⟨#[]⟩,.int .i64 0] 36))=W0 at *;refine (HO.out _).mono ?_;rintro e V ⟨rfl,hq⟩;replace hb:=below_next hb hq;replace hR:=hR.below hq;clear hq HO;have hRV:=hR;have hN:=Nk.new V m0 s0 d0;replace hR:=hR.alloc (.cells #[.bool m0,.string s0,.int .i64 d0] 36);have hNe:V.heap.size≠w.heap.size:=fun e=>by have:=hR.lt;have:=hb.size;have:=hRV.lt;omega
 have hG:w.heap.size≤V.heap.size:=hb.size;replace hb:=hb.alloc hG (.cells #[.bool m0,.string s0,.int .i64 d0] 36);clear hRV hz;go_wp2;generalize (V.alloc (.cells #[.bool m0,.string s0,.int .i64 d0] 36))=V1 at *;generalize V.heap.size=G at *
 go_loopw [4] (fun iv wr=>∃ i:Nat,∃ y:NV,iv=.int .i64 i∧i≤n∧F i=y∧Nk wr G y.1 y.2.1 y.2.2∧Nk wr w.heap.size false ⟨#[]⟩ 0∧Below w.heap.size w wr) (fun iv _=>n-(RowKit.intOf iv).toNat)
 case atStart=>exact ⟨0,_,rfl,Nat.zero_le _,HY0.out,hN,hR,hb⟩
 case round =>
  clear hb hR hN HY0;obtain ⟨i,⟨mo,so,do_⟩,rfl,hi,hy,hN,hR,hb⟩:=hrel;simp only at hN;obtain ⟨N0,N1,N2⟩:=hN.cells
  by_cases hik:i<n
  ·have hil:i<l.length:=by rw [HC.out.1];exact hik
   obtain ⟨la,oa,rfl,hla,⟨c0,c1,c2⟩,c3,c4,c5⟩:=hl.below hb i hil;have hw:=fun W=>c_rwidth W l[i] (HC.out.2.1 _ (List.getElem_mem hil)).o2;have hm:=HC.out.2.2.1 i hil;generalize canonN (wS l[i])=y1 at *;generalize l[i]=x at *;obtain ⟨⟨m1,s1,d1⟩,n1,t1,e1⟩:=x;obtain ⟨ma,sa,da⟩:=y1;obtain ⟨y2,hy2⟩:∃ y,F (i+1)=y:=⟨_,rfl⟩;rw [hy,hy2] at hm;obtain ⟨mb,sb,db⟩:=y2;simp only at c0 c1 c2 c3 c4 c5;replace hw:∀ W,Calls Tryz.prog 43 #[.agg #[.bool m1,.string s1,.int .i64 d1,.bool n1,.string t1,.int .i64 e1]] W (Ret (.agg #[.bool ma,.string sa,.int .i64 da]) W):=hw;replace hm:∀ W,Calls Tryz.prog 46 #[.agg #[.bool mo,.string so,.int .i64 do_],.agg #[.bool ma,.string sa,.int .i64 da]] W (Ret (.agg #[.bool mb,.string sb,.int .i64 db]) W):=hm;have HX:=Lib.hid (And.intro hw (And.intro hm hy2));clear hw hm hy hy2;have c0' : wr.drew.cell? ⟨la,oa+i*6,none⟩=some (.bool m1):=c0;have c1' : wr.drew.cell? ⟨la,oa+i*6+1,none⟩=some (.string s1):=c1;have c2' : wr.drew.cell? ⟨la,oa+i*6+2,none⟩=some (.int .i64 d1):=c2;have c3' : wr.drew.cell? ⟨la,oa+i*6+3,none⟩=some (.bool n1):=c3;have c4' : wr.drew.cell? ⟨la,oa+i*6+4,none⟩=some (.string t1):=c4;have c5' : wr.drew.cell? ⟨la,oa+i*6+5,none⟩=some (.int .i64 e1):=c5;have hbd:=hb.drew;have hNd:=hN.drew;have hRd:=hR.drew;obtain ⟨M0,M1,M2⟩:=hNd.cells;have hi0:(0:Int)≤(i:Int):=by omega
   have hi1:(i:Int)<n:=by omega
   clear c0 c1 c2 c3 c4 c5 hb hN hR N0 N1 N2;go_wp2
   go_region_law (first
    | (go_simp;go_at_call 43;refine (HX.out.1 _).mono ?_;rintro ec V3 ⟨rfl,hq3⟩;obtain ⟨N3,N4,N5⟩:=(hNd.below hq3).cells)
    | (go_simp;go_at_call 46;refine (HX.out.2.1 _).mono ?_;rintro ec4 V4 ⟨rfl,hq4⟩;obtain ⟨A0,A1,A2,A3,A4,A5⟩:=((hNd.below hq3).below hq4).facts))
   all_goals
    have hb:=below_set3 (below_next (below_next hbd hq3) hq4) hG 0 1 2 (.bool mb) (.string sb) (.int .i64 db);have hR:=(((((hRd.below hq3).below hq4).fr G 0 (.bool mb)).fr G 1 (.string sb)).fr G 2 (.int .i64 db));have hN:=((hNd.below hq3).below hq4).set3 mb sb db;have HS:=Lib.hid HX.out.2.2;clear hbd hq3 hq4 hNd hRd HX;go_wp2;exact ⟨⟨i+1,_,rfl,hik,HS.out,hN,hR,hb⟩,by simp [RowKit.intOf];omega⟩
  ·obtain rfl:i=n:=by omega
   clear hl;obtain ⟨R0,R1,R2,R3,R4,R5⟩:=hR.facts;have HS:=Lib.hid hy;clear hy;go_wp2;refine ret_num rfl rfl (hR.set3 _ _ _) ⟨?_,below_set3 hb (Nat.le_refl _) _ _ _ _ _ _⟩;rw [HS.out];rfl
end Go.Proofs.YtbijggomdpaknaaGreatDoor
namespace Go.Proofs.YtbijggomdpaknaaGreatDoor
set_option maxRecDepth 100000
set_option maxHeartbeats 6400000
open Go.RowKit Go.Shelf
def wR (l:List SV) (i:Nat):Rat:=(wS (l.getD i z6)).toRat
def WQ1 (l:List SV) (i:Nat):Prop:=∀ j,j<i→∃ k,k<l.length∧wR l j<wR l k
def WQ2 (l:List SV) (i k:Nat) (m:Bool):Prop:=m=true↔∀ j,j<k→wR l j≤wR l i
theorem wR_get {l:List SV} {i:Nat} (h:i<l.length):wR l i=(wS l[i]).toRat:=by
 unfold wR;rw [List.getD_eq_getElem?_getD,List.getElem?_eq_getElem h];rfl
theorem wq2_step {l:List SV} {i k:Nat} {m b:Bool} (h:WQ2 l i k m) (hb:b=true↔m=true∧wR l k≤wR l i):WQ2 l i (k+1) b:=by
 unfold WQ2 at *;rw [hb,h]
 constructor
 ·rintro ⟨h1,h2⟩ j hj
  rcases Nat.lt_or_ge j k with h3|h3
  ·exact h1 j h3
  ·obtain rfl:j=k:=by omega
   exact h2
 ·intro h1;exact ⟨fun j hj=>h1 j (by omega),h1 k (by omega)⟩
theorem wq1_step {l:List SV} {i:Nat} (h:WQ1 l i) (h2:WQ2 l i l.length false):WQ1 l (i+1):=by
 intro j hj
 rcases Nat.lt_or_ge j i with h3|h3
 ·exact h j h3
 ·obtain rfl:j=i:=by omega
  refine Classical.byContradiction fun hn=>?_
  have:=h2.2 (fun k hk=>Rat.not_lt.1 fun hlt=>hn ⟨k,hk,hlt⟩)
  cases this
theorem wq_here {l:List SV} {i:Nat} (hi:i<l.length) (h:WQ1 l i) (h2:WQ2 l i l.length true):WidR l i:=by
 have hm:=h2.1 rfl;refine .inr ⟨i,hi,rfl,fun x hx=>?_,fun j hj=>?_⟩
 ·obtain ⟨k,hk,rfl⟩:=List.getElem_of_mem hx;rw [← wR_get hk,← wR_get hi];exact hm k hk
 ·obtain ⟨k,hk,hlt⟩:=h j hj;rw [← wR_get (Nat.lt_trans hj hi),← wR_get hi];exact Std.lt_of_lt_of_le hlt (hm k hk)
theorem wq_max (f:Nat→Rat):∀ n,0<n→∃ i,i<n∧∀ j,j<n→f j≤f i
 | 0,h=>absurd h (by omega)
 | 1,_=>⟨0,by omega,fun j hj=>(by rw [show j=0 by omega];exact Rat.le_refl)⟩
 | n+2,_=>by
  obtain ⟨i,hi,h⟩:=wq_max f (n+1) (by omega)
  by_cases hc:f i≤f (n+1)
  ·refine ⟨n+1,by omega,fun j hj=>?_⟩
   rcases Nat.lt_or_ge j (n+1) with h3|h3
   ·exact Rat.le_trans (h j h3) hc
   ·obtain rfl:j=n+1:=by omega
    exact Rat.le_refl
  ·refine ⟨i,by omega,fun j hj=>?_⟩
   rcases Nat.lt_or_ge j (n+1) with h3|h3
   ·exact h j h3
   ·obtain rfl:j=n+1:=by omega
    grind
theorem wq_none {l:List SV} (h:WQ1 l l.length):WidR l (-1):=by
 by_cases h0:l.length=0
 ·exact .inl ⟨List.eq_nil_of_length_eq_zero h0,rfl⟩
 ·obtain ⟨i,hi,hm⟩:=wq_max (wR l) l.length (by omega);obtain ⟨k,hk,hlt⟩:=h i hi
  have:=hm k hk
  exact absurd hlt (Rat.not_lt.2 this)
theorem rbwidest_any (w:World) (ad:Option Addr) (l:List SV) (n c:Nat) (hn:l.length=n) (hmax:n≤100) (hl:SAt w ad l) {B E:Nat} (hs:∀ x∈l,GS B E x) (hB:B≤375) (hE:E≤3000) :
  Calls Tryz.prog 16 #[.slice ad n c] w (fun e w'=>∃ r:Int,e=.returned (.int .i64 r)∧WidR l r∧Below w.heap.size w w'):=by
 have HC:=Lib.hid (And.intro hn (And.intro hs (And.intro hB hE)));clear hs hB hE;have hz1:WQ1 l 0:=fun j hj=>absurd hj (by omega);have hz2:∀ i,WQ2 l i 0 true:=fun i=>⟨fun _ j hj=>absurd hj (by omega),fun _=>rfl⟩;have HZ:=Lib.hid (And.intro hz1 hz2);clear hz1 hz2;go_enter Tryz.func16,Tryz.ntmps16;go_wp2
 go_loopw [3] (fun iv wr=>∃ i:Nat,iv=.int .i64 i∧i≤n∧WQ1 l i∧Below w.heap.size w wr) (fun iv _=>n-(RowKit.intOf iv).toNat)
 case atStart=>exact ⟨0,rfl,Nat.zero_le _,HZ.out.1,Below.refl _ _⟩
 case round =>
  obtain ⟨i,rfl,hi,hq,hb⟩:=hrel;have HQ:=Lib.hid hq;clear hq
  by_cases hik:i<n
  ·have hi0:(0:Int)≤(i:Int):=by omega
   have hi1:(i:Int)<n:=by omega
   go_wp2
   go_loopw [5,4] (fun kv mv wr=>∃ k:Nat,∃ m:Bool,kv=.int .i64 k∧mv=.bool m∧k≤n∧WQ2 l i k m∧Below w.heap.size w wr) (fun kv _ _=>n-(RowKit.intOf kv).toNat)
   case atStart=>exact ⟨0,true,rfl,rfl,Nat.zero_le _,HZ.out.2 i,hb⟩
   case round =>
    clear hb;obtain ⟨k,m,rfl,rfl,hk,hq2,hb⟩:=hrel
    by_cases hkk:k<n
    ·have hil:i<l.length:=by rw [HC.out.1];exact hik
     have hkl:k<l.length:=by rw [HC.out.1];exact hkk
     have hk0:(0:Int)≤(k:Int):=by omega
     have hk1:(k:Int)<n:=by omega
     have h1:=(HC.out.2.1 _ (List.getElem_mem hil));have h2:=(HC.out.2.1 _ (List.getElem_mem hkl));have hc1:=fun W=>c_rwidth W l[i] h1.o2;have hc2:=fun W=>c_rwidth W l[k] h2.o2;have hs1:=h1.width.canon;have hs2:=h2.width.canon;have hb1:=HC.out.2.2.1;have hb2:=HC.out.2.2.2;have q1:nv (canonN (wS l[i])).1 (canonN (wS l[i])).2.1 (canonN (wS l[i])).2.2=wS l[i]:=nvl_canon _;have q2:nv (canonN (wS l[k])).1 (canonN (wS l[k])).2.1 (canonN (wS l[k])).2.2=wS l[k]:=nvl_canon _;obtain ⟨z,hz⟩:∃ z,dsg (wS l[i]-wS l[k])=z:=⟨_,rfl⟩;have hc3:=fun W=>rycmp_any W (canonN (wS l[i])).1 (canonN (wS l[k])).1 (canonN (wS l[i])).2.1 (canonN (wS l[k])).2.1 (canonN (wS l[i])).2.2 (canonN (wS l[k])).2.2 (by omega) (by omega) (by omega) (by omega) z (by rw [q1,q2];exact hz);have hge:0≤z↔wR l k≤wR l i:=by
      rw [wR_get hkl,wR_get hil,← hz]
      have:=dsg_sub_neg (x:=wS l[i]) (y:=wS l[k])
      rw [← Int.not_lt,this,Rat.not_lt]
     clear h1 h2 hs1 hs2 hb1 hb2 q1 q2 hz;have hst:m=true→WQ2 l i (k+1) (decide (0≤z)):=fun h=>wq2_step hq2 (by rw [decide_eq_true_iff,hge,h];exact ⟨fun x=>⟨rfl,x⟩,fun x=>x.2⟩);have hsf:m=false→WQ2 l i (k+1) false:=fun h=>wq2_step hq2 (⟨fun x=>(by cases x),fun x=>(by rw [h] at x;cases x.1)⟩);obtain ⟨la,oa,rfl,hla,⟨c0,c1,c2⟩,c3,c4,c5⟩:=hl.below hb i hil;obtain ⟨lb,ob,e9,hlb,⟨g0,g1,g2⟩,g3,g4,g5⟩:=hl.below hb k hkl
     injection e9 with e9
     injection e9 with e8 e7
     subst e8 e7;generalize canonN (wS l[i])=y1 at *;generalize canonN (wS l[k])=y2 at *;generalize l[i]=x1 at *;generalize l[k]=x2 at *;obtain ⟨⟨m1,s1,d1⟩,n1,t1,e1⟩:=x1;obtain ⟨⟨m2,s2,d2⟩,n2,t2,e2⟩:=x2;obtain ⟨ma,sa,da⟩:=y1;obtain ⟨mb,sb,db⟩:=y2;simp only at c0 c1 c2 c3 c4 c5 g0 g1 g2 g3 g4 g5;replace hc1:∀ W,Calls Tryz.prog 43 #[.agg #[.bool m1,.string s1,.int .i64 d1,.bool n1,.string t1,.int .i64 e1]] W (Ret (.agg #[.bool ma,.string sa,.int .i64 da]) W):=hc1;replace hc2:∀ W,Calls Tryz.prog 43 #[.agg #[.bool m2,.string s2,.int .i64 d2,.bool n2,.string t2,.int .i64 e2]] W (Ret (.agg #[.bool mb,.string sb,.int .i64 db]) W):=hc2;replace hc3:∀ W,Calls Tryz.prog 33 #[.agg #[.bool ma,.string sa,.int .i64 da],.agg #[.bool mb,.string sb,.int .i64 db]] W (Ret (.int .i64 z) W):=hc3;have HX:=Lib.hid (And.intro hc1 (And.intro hc2 (And.intro hc3 (And.intro hst hsf))));have hT:TwoS la (oa+i*6) la (oa+k*6) m1 s1 d1 n1 t1 e1 m2 s2 d2 n2 t2 e2 wr:=⟨⟨c0,c1,c2,c3,c4,c5⟩,⟨g0,g1,g2,g3,g4,g5⟩,hla,hlb⟩;clear hc1 hc2 hc3 hst hsf hge hq2 c0 c1 c2 c3 c4 c5 g0 g1 g2 g3 g4 g5
     cases m with
     | false =>
      go_wp2;refine region_segs (n:=16) #[false,false,false,false,false,false,false,false,false,false,false,false,false,false,false,false] (by kernel_rfl) (by kernel_rfl) (by kernel_rfl) ?_;intro fu hf;refine ls 16 [0,1,2,3,4,5,6,7,8,9,10,11,12,13,14,15] 15 (fun L ac Wn=>∃ l0 l1 l2 l3 l4 l5 l6 l7 l8 l9 l10 l11 l12 l13 l14:Bool,L=#[l0,l1,l2,l3,l4,l5,l6,l7,l8,l9,l10,l11,l12,l13,l14,false]∧ac={tmps:=#[.slice (some { block:=la,off:=oa }) n c,undef,u2,.int .i64 ↑i,.bool false,.int .i64 ↑k,.int .i64 ↑i,.slice (some { block:=la,off:=oa }) n c,.int .i64 ↑n,.bool true,u10,u11,.int .i64 ↑k,.slice (some { block:=la,off:=oa }) n c,.int .i64 ↑n,.bool true,u16,u17,sel l0 (.bool false) (u18),sel l1 (.bool false) (u19),sel l2 (undef) (u20),sel l3 (undef) (u21),sel l4 (undef) (u22),sel l5 (undef) (u23),sel l6 (undef) (u24),sel l7 (undef) (u25),sel l8 (undef) (u26),sel l9 (undef) (u27),sel l10 (undef) (u28),sel l11 (undef) (u29),sel l12 (undef) (u30),sel l13 (undef) (u31),sel l14 (.bool false) (u32),u33,u34],defers:=[] }∧Below (w.heap.size) w Wn∧(TwoS la (oa+i*6) la (oa+k*6) m1 s1 d1 n1 t1 e1 m2 s2 d2 n2 t2 e2 Wn)) hf ?_ ?_ ?_ ?_
      ·exact ⟨false,false,false,false,false,false,false,false,false,false,false,false,false,false,false,by kernel_rfl,by kernel_rfl,hb.drew,hT.drew⟩
      ·rintro L ac Wn ⟨l0,l1,l2,l3,l4,l5,l6,l7,l8,l9,l10,l11,l12,l13,l14,rfl,_⟩
       kernel_rfl
      ·refine (seg_all (b:=15) [0,1,2,3,4,5,6,7,8,9,10,11,12,13,14] ?_:∀ j∈[0,1,2,3,4,5,6,7,8,9,10,11,12,13,14,15],j≠15→_);refine lc [] [1,2,3,4,5,6,7,8,9,10,11,12,13,14] ?_ ?_
       ·rintro L ac Wn ⟨l0,l1,l2,l3,l4,l5,l6,l7,l8,l9,l10,l11,l12,l13,l14,rfl,hI⟩ rfl - ⟨rfl,rfl,rfl,rfl,rfl,rfl,rfl,rfl,rfl,rfl,rfl,rfl,rfl,rfl,-⟩ Kc hK;simp only [sel_f] at hI;obtain ⟨rfl,hb,hT⟩:=hI;refine ly (.bool false) ?_;exact hK.out _ _ ⟨true,false,false,false,false,false,false,false,false,false,false,false,false,false,false,by kernel_rfl,by kernel_rfl,hb,hT⟩
       refine lc [0] [2,3,4,5,6,7,8,9,10,11,12,13,14] ?_ ?_
       ·rintro L ac Wn ⟨l0,l1,l2,l3,l4,l5,l6,l7,l8,l9,l10,l11,l12,l13,l14,rfl,hI⟩ rfl ⟨rfl,-⟩ ⟨rfl,rfl,rfl,rfl,rfl,rfl,rfl,rfl,rfl,rfl,rfl,rfl,rfl,-⟩ Kc hK;simp only [sel_t,sel_f] at hI;obtain ⟨rfl,hb,hT⟩:=hI;refine ly (.bool false) ?_;exact hK.out _ _ ⟨true,true,false,false,false,false,false,false,false,false,false,false,false,false,false,by kernel_rfl,by kernel_rfl,hb,hT⟩
       refine lc [0,1] [4,5,6,11,12,13,14] ?_ ?_
       ·rintro L ac Wn ⟨l0,l1,l2,l3,l4,l5,l6,l7,l8,l9,l10,l11,l12,l13,l14,rfl,hI⟩ rfl ⟨rfl,rfl,-⟩ ⟨rfl,rfl,rfl,rfl,rfl,rfl,rfl,-⟩ Kc hK;simp only [sel_t,sel_f] at hI;obtain ⟨rfl,hb,hT⟩:=hI;refine lin_skip rfl ?_;exact hK.out _ _ ⟨true,true,true,l3,false,false,false,l7,l8,l9,l10,false,false,false,false,by kernel_rfl,by kernel_rfl,hb,hT⟩
       refine lc [0,1] [4,5,6,11,12,13,14] ?_ ?_
       ·rintro L ac Wn ⟨l0,l1,l2,l3,l4,l5,l6,l7,l8,l9,l10,l11,l12,l13,l14,rfl,hI⟩ rfl ⟨rfl,rfl,-⟩ ⟨rfl,rfl,rfl,rfl,rfl,rfl,rfl,-⟩ Kc hK;simp only [sel_t,sel_f] at hI;obtain ⟨rfl,hb,hT⟩:=hI;refine lin_skip rfl ?_;exact hK.out _ _ ⟨true,true,l2,true,false,false,false,l7,l8,l9,l10,false,false,false,false,by kernel_rfl,by kernel_rfl,hb,hT⟩
       refine lc [0,1,2,3] [5,6,11,12,13,14] ?_ ?_
       ·rintro L ac Wn ⟨l0,l1,l2,l3,l4,l5,l6,l7,l8,l9,l10,l11,l12,l13,l14,rfl,hI⟩ rfl ⟨rfl,rfl,rfl,rfl,-⟩ ⟨rfl,rfl,rfl,rfl,rfl,rfl,-⟩ Kc hK;simp only [sel_t,sel_f] at hI;obtain ⟨rfl,hb,hT⟩:=hI;refine lin_skip rfl ?_;exact hK.out _ _ ⟨true,true,true,true,true,false,false,l7,l8,l9,l10,false,false,false,false,by kernel_rfl,by kernel_rfl,hb,hT⟩
       refine lc [0,1,2,3,4] [6,11,12,13,14] ?_ ?_
       ·rintro L ac Wn ⟨l0,l1,l2,l3,l4,l5,l6,l7,l8,l9,l10,l11,l12,l13,l14,rfl,hI⟩ rfl ⟨rfl,rfl,rfl,rfl,rfl,-⟩ ⟨rfl,rfl,rfl,rfl,rfl,-⟩ Kc hK;simp only [sel_t,sel_f] at hI;obtain ⟨rfl,hb,hT⟩:=hI;refine lin_skip rfl ?_;exact hK.out _ _ ⟨true,true,true,true,true,true,false,l7,l8,l9,l10,false,false,false,false,by kernel_rfl,by kernel_rfl,hb,hT⟩
       refine lc [0,1,2,3,4,5] [11,12,13,14] ?_ ?_
       ·rintro L ac Wn ⟨l0,l1,l2,l3,l4,l5,l6,l7,l8,l9,l10,l11,l12,l13,l14,rfl,hI⟩ rfl ⟨rfl,rfl,rfl,rfl,rfl,rfl,-⟩ ⟨rfl,rfl,rfl,rfl,-⟩ Kc hK;simp only [sel_t,sel_f] at hI;obtain ⟨rfl,hb,hT⟩:=hI;refine lin_skip rfl ?_;exact hK.out _ _ ⟨true,true,true,true,true,true,true,l7,l8,l9,l10,false,false,false,false,by kernel_rfl,by kernel_rfl,hb,hT⟩
       refine lc [0,1] [9,10,11,12,13,14] ?_ ?_
       ·rintro L ac Wn ⟨l0,l1,l2,l3,l4,l5,l6,l7,l8,l9,l10,l11,l12,l13,l14,rfl,hI⟩ rfl ⟨rfl,rfl,-⟩ ⟨rfl,rfl,rfl,rfl,rfl,rfl,-⟩ Kc hK;simp only [sel_t,sel_f] at hI;obtain ⟨rfl,hb,hT⟩:=hI;refine lin_skip rfl ?_;exact hK.out _ _ ⟨true,true,l2,l3,l4,l5,l6,true,l8,false,false,false,false,false,false,by kernel_rfl,by kernel_rfl,hb,hT⟩
       refine lc [0,1] [9,10,11,12,13,14] ?_ ?_
       ·rintro L ac Wn ⟨l0,l1,l2,l3,l4,l5,l6,l7,l8,l9,l10,l11,l12,l13,l14,rfl,hI⟩ rfl ⟨rfl,rfl,-⟩ ⟨rfl,rfl,rfl,rfl,rfl,rfl,-⟩ Kc hK;simp only [sel_t,sel_f] at hI;obtain ⟨rfl,hb,hT⟩:=hI;refine lin_skip rfl ?_;exact hK.out _ _ ⟨true,true,l2,l3,l4,l5,l6,l7,true,false,false,false,false,false,false,by kernel_rfl,by kernel_rfl,hb,hT⟩
       refine lc [0,1,7,8] [10,11,12,13,14] ?_ ?_
       ·rintro L ac Wn ⟨l0,l1,l2,l3,l4,l5,l6,l7,l8,l9,l10,l11,l12,l13,l14,rfl,hI⟩ rfl ⟨rfl,rfl,rfl,rfl,-⟩ ⟨rfl,rfl,rfl,rfl,rfl,-⟩ Kc hK;simp only [sel_t,sel_f] at hI;obtain ⟨rfl,hb,hT⟩:=hI;refine lin_skip rfl ?_;exact hK.out _ _ ⟨true,true,l2,l3,l4,l5,l6,true,true,true,false,false,false,false,false,by kernel_rfl,by kernel_rfl,hb,hT⟩
       refine lc [0,1,7,8,9] [11,12,13,14] ?_ ?_
       ·rintro L ac Wn ⟨l0,l1,l2,l3,l4,l5,l6,l7,l8,l9,l10,l11,l12,l13,l14,rfl,hI⟩ rfl ⟨rfl,rfl,rfl,rfl,rfl,-⟩ ⟨rfl,rfl,rfl,rfl,-⟩ Kc hK;simp only [sel_t,sel_f] at hI;obtain ⟨rfl,hb,hT⟩:=hI;refine lin_skip rfl ?_;exact hK.out _ _ ⟨true,true,l2,l3,l4,l5,l6,true,true,true,true,false,false,false,false,by kernel_rfl,by kernel_rfl,hb,hT⟩
       refine lc [0,1,2,3,4,5,6,7,8,9,10] [12,13,14] ?_ ?_
       ·rintro L ac Wn ⟨l0,l1,l2,l3,l4,l5,l6,l7,l8,l9,l10,l11,l12,l13,l14,rfl,hI⟩ rfl ⟨rfl,rfl,rfl,rfl,rfl,rfl,rfl,rfl,rfl,rfl,rfl,-⟩ ⟨rfl,rfl,rfl,-⟩ Kc hK;simp only [sel_t,sel_f] at hI;obtain ⟨rfl,hb,hT⟩:=hI;refine lin_skip rfl ?_;exact hK.out _ _ ⟨true,true,true,true,true,true,true,true,true,true,true,true,false,false,false,by kernel_rfl,by kernel_rfl,hb,hT⟩
       refine lc [0,1,2,3,4,5,6,7,8,9,10,11] [13,14] ?_ ?_
       ·rintro L ac Wn ⟨l0,l1,l2,l3,l4,l5,l6,l7,l8,l9,l10,l11,l12,l13,l14,rfl,hI⟩ rfl ⟨rfl,rfl,rfl,rfl,rfl,rfl,rfl,rfl,rfl,rfl,rfl,rfl,-⟩ ⟨rfl,rfl,-⟩ Kc hK;simp only [sel_t,sel_f] at hI;obtain ⟨rfl,hb,hT⟩:=hI;refine lin_skip rfl ?_;exact hK.out _ _ ⟨true,true,true,true,true,true,true,true,true,true,true,true,true,false,false,by kernel_rfl,by kernel_rfl,hb,hT⟩
       refine lc [0,1,2,3,4,5,6,7,8,9,10,11,12] [14] ?_ ?_
       ·rintro L ac Wn ⟨l0,l1,l2,l3,l4,l5,l6,l7,l8,l9,l10,l11,l12,l13,l14,rfl,hI⟩ rfl ⟨rfl,rfl,rfl,rfl,rfl,rfl,rfl,rfl,rfl,rfl,rfl,rfl,rfl,-⟩ ⟨rfl,-⟩ Kc hK;simp only [sel_t,sel_f] at hI;obtain ⟨rfl,hb,hT⟩:=hI;refine lin_skip rfl ?_;exact hK.out _ _ ⟨true,true,true,true,true,true,true,true,true,true,true,true,true,true,false,by kernel_rfl,by kernel_rfl,hb,hT⟩
       refine ln [0,1,2,3,4,5,6,7,8,9,10,11,12,13] [] ?_;rintro L ac Wn ⟨l0,l1,l2,l3,l4,l5,l6,l7,l8,l9,l10,l11,l12,l13,l14,rfl,hI⟩ rfl ⟨rfl,rfl,rfl,rfl,rfl,rfl,rfl,rfl,rfl,rfl,rfl,rfl,rfl,rfl,-⟩ - Kc hK;simp only [sel_t,sel_f] at hI;obtain ⟨rfl,hb,hT⟩:=hI;refine ly (.bool false) ?_;exact hK.out _ _ ⟨true,true,true,true,true,true,true,true,true,true,true,true,true,true,true,by kernel_rfl,by kernel_rfl,hb,hT⟩
      refine bo [0,1,2,3,4,5,6,7,8,9,10,11,12,13,14] ?_;rintro L ac Wn ⟨l0,l1,l2,l3,l4,l5,l6,l7,l8,l9,l10,l11,l12,l13,l14,rfl,hI⟩ ⟨rfl,rfl,rfl,rfl,rfl,rfl,rfl,rfl,rfl,rfl,rfl,rfl,rfl,rfl,rfl,-⟩ Kc hK;simp only [sel_t] at hI;obtain ⟨rfl,hb,hT⟩:=hI;refine ly (.bool false) ?_;refine hK.out _ _ (fun fu hf=>wpAnyH_done (by kernel_rfl) ?_ _);clear hK Kc hf;have HS:=Lib.hid (HX.out.2.2.2.2 (by trivial));clear HX;go_wp2;exact ⟨⟨k+1,false,rfl,rfl,hkk,HS.out,hb⟩,by simp [RowKit.intOf];omega⟩
     | true =>
      go_wp2;refine region_segs (n:=16) #[false,false,false,false,false,false,false,false,false,false,false,false,false,false,false,false] (by kernel_rfl) (by kernel_rfl) (by kernel_rfl) ?_;intro fu hf
      refine ls 16 [0,1,2,3,4,5,6,7,8,9,10,11,12,13,14,15] 15 (fun L ac Wn=>∃ l0 l1 l2 l3 l4 l5 l6 l7 l8 l9 l10 l11 l12 l13 l14:Bool,L=#[l0,l1,l2,l3,l4,l5,l6,l7,l8,l9,l10,l11,l12,l13,l14,false]∧ac={tmps:=#[.slice (some { block:=la,off:=oa }) n c,undef,u2,.int .i64 ↑i,.bool true,.int .i64 ↑k,.int .i64 ↑i,.slice (some { block:=la,off:=oa }) n c,.int .i64 ↑n,.bool true,u10,u11,.int .i64 ↑k,.slice (some { block:=la,off:=oa }) n c,.int .i64 ↑n,.bool true,u16,u17,sel l0 (.bool true) (u18),sel l1 (.bool true) (u19),sel l2 (.slice (some { block:=la,off:=oa }) n c) (u20),sel l3 (.int .i64 ↑i) (u21),sel l4 (.pointer (some { block:=la,off:=oa+i*6 })) (u22),sel l5 (.agg #[.bool m1,.string s1,.int .i64 d1,.bool n1,.string t1,.int .i64 e1]) (u23),sel l6 (.agg #[.bool ma,.string sa,.int .i64 da]) (u24),sel l7 (.slice (some { block:=la,off:=oa }) n c) (u25),sel l8 (.int .i64 ↑k) (u26),sel l9 (.pointer (some { block:=la,off:=oa+k*6 })) (u27),sel l10 (.agg #[.bool m2,.string s2,.int .i64 d2,.bool n2,.string t2,.int .i64 e2]) (u28),sel l11 (.agg #[.bool mb,.string sb,.int .i64 db]) (u29),sel l12 (.int .i64 z) (u30),sel l13 (.bool (decide (0≤z))) (u31),sel l14 (.bool (decide (0≤z))) (u32),u33,u34],defers:=[] }∧Below (w.heap.size) w Wn∧(TwoS la (oa+i*6) la (oa+k*6) m1 s1 d1 n1 t1 e1 m2 s2 d2 n2 t2 e2 Wn)) hf ?_ ?_ ?_ ?_
      ·exact ⟨false,false,false,false,false,false,false,false,false,false,false,false,false,false,false,by kernel_rfl,by kernel_rfl,hb.drew,hT.drew⟩
      ·rintro L ac Wn ⟨l0,l1,l2,l3,l4,l5,l6,l7,l8,l9,l10,l11,l12,l13,l14,rfl,_⟩
       kernel_rfl
      ·refine (seg_all (b:=15) [0,1,2,3,4,5,6,7,8,9,10,11,12,13,14] ?_:∀ j∈[0,1,2,3,4,5,6,7,8,9,10,11,12,13,14,15],j≠15→_);refine lc [] [1,2,3,4,5,6,7,8,9,10,11,12,13,14] ?_ ?_
       ·rintro L ac Wn ⟨l0,l1,l2,l3,l4,l5,l6,l7,l8,l9,l10,l11,l12,l13,l14,rfl,hI⟩ rfl - ⟨rfl,rfl,rfl,rfl,rfl,rfl,rfl,rfl,rfl,rfl,rfl,rfl,rfl,rfl,-⟩ Kc hK;simp only [sel_f] at hI;obtain ⟨rfl,hb,hT⟩:=hI;refine ly (.bool true) ?_;exact hK.out _ _ ⟨true,false,false,false,false,false,false,false,false,false,false,false,false,false,false,by kernel_rfl,by kernel_rfl,hb,hT⟩
       refine lc [0] [2,3,4,5,6,7,8,9,10,11,12,13,14] ?_ ?_
       ·rintro L ac Wn ⟨l0,l1,l2,l3,l4,l5,l6,l7,l8,l9,l10,l11,l12,l13,l14,rfl,hI⟩ rfl ⟨rfl,-⟩ ⟨rfl,rfl,rfl,rfl,rfl,rfl,rfl,rfl,rfl,rfl,rfl,rfl,rfl,-⟩ Kc hK;simp only [sel_t,sel_f] at hI;obtain ⟨rfl,hb,hT⟩:=hI;refine ly (.bool true) ?_;exact hK.out _ _ ⟨true,true,false,false,false,false,false,false,false,false,false,false,false,false,false,by kernel_rfl,by kernel_rfl,hb,hT⟩
       refine lc [0,1] [4,5,6,11,12,13,14] ?_ ?_
       ·rintro L ac Wn ⟨l0,l1,l2,l3,l4,l5,l6,l7,l8,l9,l10,l11,l12,l13,l14,rfl,hI⟩ rfl ⟨rfl,rfl,-⟩ ⟨rfl,rfl,rfl,rfl,rfl,rfl,rfl,-⟩ Kc hK;simp only [sel_t,sel_f] at hI;obtain ⟨rfl,hb,hT⟩:=hI;refine ly (.slice (some { block:=la,off:=oa }) n c) ?_;exact hK.out _ _ ⟨true,true,true,l3,false,false,false,l7,l8,l9,l10,false,false,false,false,by kernel_rfl,by kernel_rfl,hb,hT⟩
       refine lc [0,1] [4,5,6,11,12,13,14] ?_ ?_
       ·rintro L ac Wn ⟨l0,l1,l2,l3,l4,l5,l6,l7,l8,l9,l10,l11,l12,l13,l14,rfl,hI⟩ rfl ⟨rfl,rfl,-⟩ ⟨rfl,rfl,rfl,rfl,rfl,rfl,rfl,-⟩ Kc hK;simp only [sel_t,sel_f] at hI;obtain ⟨rfl,hb,hT⟩:=hI;refine ly (.int .i64 ↑i) ?_;exact hK.out _ _ ⟨true,true,l2,true,false,false,false,l7,l8,l9,l10,false,false,false,false,by kernel_rfl,by kernel_rfl,hb,hT⟩
       refine lc [0,1,2,3] [5,6,11,12,13,14] ?_ ?_
       ·rintro L ac Wn ⟨l0,l1,l2,l3,l4,l5,l6,l7,l8,l9,l10,l11,l12,l13,l14,rfl,hI⟩ rfl ⟨rfl,rfl,rfl,rfl,-⟩ ⟨rfl,rfl,rfl,rfl,rfl,rfl,-⟩ Kc hK;simp only [sel_t,sel_f] at hI;obtain ⟨rfl,hb,hT⟩:=hI;refine ly (.pointer (some { block:=la,off:=oa+i*6 })) ?_;exact hK.out _ _ ⟨true,true,true,true,true,false,false,l7,l8,l9,l10,false,false,false,false,by kernel_rfl,by kernel_rfl,hb,hT⟩
       refine lc [0,1,2,3,4] [6,11,12,13,14] ?_ ?_
       ·rintro L ac Wn ⟨l0,l1,l2,l3,l4,l5,l6,l7,l8,l9,l10,l11,l12,l13,l14,rfl,hI⟩ rfl ⟨rfl,rfl,rfl,rfl,rfl,-⟩ ⟨rfl,rfl,rfl,rfl,rfl,-⟩ Kc hK;simp only [sel_t,sel_f] at hI;obtain ⟨rfl,hb,hT⟩:=hI;have ⟨⟨c0,c1,c2,c3,c4,c5⟩,⟨g0,g1,g2,g3,g4,g5⟩,_,_⟩:=hT;refine ly (.agg #[.bool m1,.string s1,.int .i64 d1,.bool n1,.string t1,.int .i64 e1]) ?_;exact hK.out _ _ ⟨true,true,true,true,true,true,false,l7,l8,l9,l10,false,false,false,false,by kernel_rfl,by kernel_rfl,hb,hT⟩
       refine lc [0,1,2,3,4,5] [11,12,13,14] ?_ ?_
       ·rintro L ac Wn ⟨l0,l1,l2,l3,l4,l5,l6,l7,l8,l9,l10,l11,l12,l13,l14,rfl,hI⟩ rfl ⟨rfl,rfl,rfl,rfl,rfl,rfl,-⟩ ⟨rfl,rfl,rfl,rfl,-⟩ Kc hK;simp only [sel_t,sel_f] at hI;obtain ⟨rfl,hb,hT⟩:=hI;go_simp;go_fit (HX.out.1 _);rintro e V ⟨rfl,hq⟩;exact hK.out _ _ ⟨true,true,true,true,true,true,true,l7,l8,l9,l10,false,false,false,false,by kernel_rfl,by kernel_rfl,(below_next hb hq),(hT.below hq)⟩
       refine lc [0,1] [9,10,11,12,13,14] ?_ ?_
       ·rintro L ac Wn ⟨l0,l1,l2,l3,l4,l5,l6,l7,l8,l9,l10,l11,l12,l13,l14,rfl,hI⟩ rfl ⟨rfl,rfl,-⟩ ⟨rfl,rfl,rfl,rfl,rfl,rfl,-⟩ Kc hK;simp only [sel_t,sel_f] at hI;obtain ⟨rfl,hb,hT⟩:=hI;refine ly (.slice (some { block:=la,off:=oa }) n c) ?_;exact hK.out _ _ ⟨true,true,l2,l3,l4,l5,l6,true,l8,false,false,false,false,false,false,by kernel_rfl,by kernel_rfl,hb,hT⟩
       refine lc [0,1] [9,10,11,12,13,14] ?_ ?_
       ·rintro L ac Wn ⟨l0,l1,l2,l3,l4,l5,l6,l7,l8,l9,l10,l11,l12,l13,l14,rfl,hI⟩ rfl ⟨rfl,rfl,-⟩ ⟨rfl,rfl,rfl,rfl,rfl,rfl,-⟩ Kc hK;simp only [sel_t,sel_f] at hI;obtain ⟨rfl,hb,hT⟩:=hI;refine ly (.int .i64 ↑k) ?_;exact hK.out _ _ ⟨true,true,l2,l3,l4,l5,l6,l7,true,false,false,false,false,false,false,by kernel_rfl,by kernel_rfl,hb,hT⟩
       refine lc [0,1,7,8] [10,11,12,13,14] ?_ ?_
       ·rintro L ac Wn ⟨l0,l1,l2,l3,l4,l5,l6,l7,l8,l9,l10,l11,l12,l13,l14,rfl,hI⟩ rfl ⟨rfl,rfl,rfl,rfl,-⟩ ⟨rfl,rfl,rfl,rfl,rfl,-⟩ Kc hK;simp only [sel_t,sel_f] at hI;obtain ⟨rfl,hb,hT⟩:=hI;refine ly (.pointer (some { block:=la,off:=oa+k*6 })) ?_;exact hK.out _ _ ⟨true,true,l2,l3,l4,l5,l6,true,true,true,false,false,false,false,false,by kernel_rfl,by kernel_rfl,hb,hT⟩
       refine lc [0,1,7,8,9] [11,12,13,14] ?_ ?_
       ·rintro L ac Wn ⟨l0,l1,l2,l3,l4,l5,l6,l7,l8,l9,l10,l11,l12,l13,l14,rfl,hI⟩ rfl ⟨rfl,rfl,rfl,rfl,rfl,-⟩ ⟨rfl,rfl,rfl,rfl,-⟩ Kc hK;simp only [sel_t,sel_f] at hI;obtain ⟨rfl,hb,hT⟩:=hI;have ⟨⟨c0,c1,c2,c3,c4,c5⟩,⟨g0,g1,g2,g3,g4,g5⟩,_,_⟩:=hT;refine ly (.agg #[.bool m2,.string s2,.int .i64 d2,.bool n2,.string t2,.int .i64 e2]) ?_;exact hK.out _ _ ⟨true,true,l2,l3,l4,l5,l6,true,true,true,true,false,false,false,false,by kernel_rfl,by kernel_rfl,hb,hT⟩
       refine lc [0,1,2,3,4,5,6,7,8,9,10] [12,13,14] ?_ ?_
       ·rintro L ac Wn ⟨l0,l1,l2,l3,l4,l5,l6,l7,l8,l9,l10,l11,l12,l13,l14,rfl,hI⟩ rfl ⟨rfl,rfl,rfl,rfl,rfl,rfl,rfl,rfl,rfl,rfl,rfl,-⟩ ⟨rfl,rfl,rfl,-⟩ Kc hK;simp only [sel_t,sel_f] at hI;obtain ⟨rfl,hb,hT⟩:=hI;go_simp;go_fit (HX.out.2.1 _);rintro e V ⟨rfl,hq⟩;exact hK.out _ _ ⟨true,true,true,true,true,true,true,true,true,true,true,true,false,false,false,by kernel_rfl,by kernel_rfl,(below_next hb hq),(hT.below hq)⟩
       refine lc [0,1,2,3,4,5,6,7,8,9,10,11] [13,14] ?_ ?_
       ·rintro L ac Wn ⟨l0,l1,l2,l3,l4,l5,l6,l7,l8,l9,l10,l11,l12,l13,l14,rfl,hI⟩ rfl ⟨rfl,rfl,rfl,rfl,rfl,rfl,rfl,rfl,rfl,rfl,rfl,rfl,-⟩ ⟨rfl,rfl,-⟩ Kc hK;simp only [sel_t,sel_f] at hI;obtain ⟨rfl,hb,hT⟩:=hI;go_simp;go_fit (HX.out.2.2.1 _);rintro e V ⟨rfl,hq⟩;exact hK.out _ _ ⟨true,true,true,true,true,true,true,true,true,true,true,true,true,false,false,by kernel_rfl,by kernel_rfl,(below_next hb hq),(hT.below hq)⟩
       refine lc [0,1,2,3,4,5,6,7,8,9,10,11,12] [14] ?_ ?_
       ·rintro L ac Wn ⟨l0,l1,l2,l3,l4,l5,l6,l7,l8,l9,l10,l11,l12,l13,l14,rfl,hI⟩ rfl ⟨rfl,rfl,rfl,rfl,rfl,rfl,rfl,rfl,rfl,rfl,rfl,rfl,rfl,-⟩ ⟨rfl,-⟩ Kc hK;simp only [sel_t,sel_f] at hI;obtain ⟨rfl,hb,hT⟩:=hI;refine lin_yield (.bool (decide (0≤z))) rfl (by go_simp;first|done|with_reducible rfl|assumption) ?_;exact hK.out _ _ ⟨true,true,true,true,true,true,true,true,true,true,true,true,true,true,false,by kernel_rfl,by kernel_rfl,hb,hT⟩
       refine ln [0,1,2,3,4,5,6,7,8,9,10,11,12,13] [] ?_;rintro L ac Wn ⟨l0,l1,l2,l3,l4,l5,l6,l7,l8,l9,l10,l11,l12,l13,l14,rfl,hI⟩ rfl ⟨rfl,rfl,rfl,rfl,rfl,rfl,rfl,rfl,rfl,rfl,rfl,rfl,rfl,rfl,-⟩ - Kc hK;simp only [sel_t,sel_f] at hI;obtain ⟨rfl,hb,hT⟩:=hI;refine lin_yield (.bool (decide (0≤z))) rfl (by go_simp;first|done|with_reducible rfl|assumption) ?_;exact hK.out _ _ ⟨true,true,true,true,true,true,true,true,true,true,true,true,true,true,true,by kernel_rfl,by kernel_rfl,hb,hT⟩
      refine bo [0,1,2,3,4,5,6,7,8,9,10,11,12,13,14] ?_;rintro L ac Wn ⟨l0,l1,l2,l3,l4,l5,l6,l7,l8,l9,l10,l11,l12,l13,l14,rfl,hI⟩ ⟨rfl,rfl,rfl,rfl,rfl,rfl,rfl,rfl,rfl,rfl,rfl,rfl,rfl,rfl,rfl,-⟩ Kc hK;simp only [sel_t] at hI;obtain ⟨rfl,hb,hT⟩:=hI;refine lin_yield (.bool (decide (0≤z))) rfl (by go_simp;first|done|with_reducible rfl|assumption) ?_;refine hK.out _ _ (fun fu hf=>wpAnyH_done (by kernel_rfl) ?_ _);clear hK Kc hf;have HS:=Lib.hid (HX.out.2.2.2.1 (by trivial));clear HX;generalize (decide (0≤z))=bz at *;go_wp2;exact ⟨⟨k+1,bz,rfl,rfl,hkk,HS.out,hb⟩,by simp [RowKit.intOf];omega⟩
    ·obtain rfl:k=n:=by omega
     have HQ2:=Lib.hid hq2;clear hq2
     cases m with
     | true =>
      have hw:=wq_here (by rw [HC.out.1];exact hik) HQ.out (by rw [HC.out.1];exact HQ2.out);have HW:=Lib.hid hw;clear hw hl;go_wp2;go_ret;exact ⟨_,rfl,HW.out,hb⟩
     | false =>
      have HS:=Lib.hid (wq1_step HQ.out (by rw [HC.out.1];exact HQ2.out));clear hl;go_wp2;exact ⟨⟨i+1,rfl,hik,HS.out,hb⟩,by simp [RowKit.intOf];omega⟩
  ·obtain rfl:i=n:=by omega
   have hw:WidR l (-1):=wq_none (by rw [HC.out.1];exact HQ.out);have HW:=Lib.hid hw;clear hw hl;go_wp2;go_ret;exact ⟨-1,rfl,HW.out,hb⟩
end Go.Proofs.YtbijggomdpaknaaGreatDoor
namespace Go.Proofs.YtbijggomdpaknaaGreatDoor
set_option maxRecDepth 100000
set_option maxHeartbeats 6400000
open Go.RowKit Go.Shelf
theorem boxchecks_law (w:World) (ad:Option Addr) (l:List SV) (n c:Nat) (hn:l.length=n) (_hc:n≤c∧(ad=none→c=0)) (hl:SAt w ad l) (hm:n≤maxLen) (_hw:∀ x∈l,(x.1.2.1.size≤maxLen∧(Lit.int .i64 x.1.2.2).wf=true)∧(x.2.2.1.size≤maxLen∧(Lit.int .i64 x.2.2.2).wf=true))
  (ed:Option Addr) (b:List SV) (k e:Nat) (hk:b.length=k) (_hcb:k≤e∧(ed=none→e=0)) (hlb:SAt w ed b) (hmb:k≤maxLen) (_hwb:∀ x∈b,(x.1.2.1.size≤maxLen∧(Lit.int .i64 x.1.2.2).wf=true)∧(x.2.2.1.size≤maxLen∧(Lit.int .i64 x.2.2.2).wf=true))
  (bd:Option Addr) (p:List NV) (n' c' : Nat) (hn' : p.length=n') (_hc' : n'≤c'∧(bd=none→c'=0)) (hp:NAt w bd p) (hm' : n'≤maxLen) (_hw' : ∀ x∈p,x.2.1.size≤maxLen∧(Lit.int .i64 x.2.2).wf=true) :
  Calls Tryz.prog 3 #[.slice ad n c,.slice ed k e,.slice bd n' c'] w (Ret (.bool true) w):=by
 have hv:=vast_any w ad bd l p n c n' c' hn hn' hm hm' hl hp;have hv2:=fun W (h:SAt W ed b)=>vast_any W ed none b [] k e 0 0 hk rfl hmb (Nat.zero_le _) h (fun i h=>absurd h (Nat.not_lt_zero _));obtain ⟨r,hr⟩:∃ r,vastB l p=r:=⟨_,rfl⟩;obtain ⟨r2,hr2⟩:∃ r,vastB b []=r:=⟨_,rfl⟩;rw [hr] at hv;rw [hr2] at hv2;have HR:=Lib.hid (And.intro hr hr2);have HV:=Lib.hid hv2;clear hr hr2 hv2 _hw _hw' _hwb hm hm' hmb _hc _hc' _hcb;go_enter Tryz.func3,Tryz.ntmps3;go_wp2_with fail;refine hv.mono ?_;rintro e' W ⟨rfl,hb⟩;clear hv
 cases r with
 | true =>
  have ha:=awake_any W;clear hl hp hlb HR HV;go_wp2_with fail;refine ha.mono ?_;rintro e W2 ⟨rfl,hq⟩;go_wp2;go_ret;exact ⟨rfl,below_next hb hq⟩
 | false =>
  replace hl:=hl.below hb;replace hlb:=hlb.below hb;replace hp:=hp.below hb;have hv:=HV.out W hlb;clear HV;go_wp2_with fail;refine hv.mono ?_;rintro e' W4 ⟨rfl,hq⟩;clear hv;replace hb:=below_next hb hq;replace hl:=hl.below hq;replace hlb:=hlb.below hq;replace hp:=hp.below hq;clear hq
  cases r2 with
  | true =>
   have ha:=awake_any W4;clear hl hp hlb HR;go_wp2_with fail;refine ha.mono ?_;rintro e W2 ⟨rfl,hq⟩;go_wp2;go_ret;exact ⟨rfl,below_next hb hq⟩
  | false =>
  obtain ⟨h8,h8',hs,hs'⟩:=vast_no HR.out.1;obtain ⟨h9,-,hsb,-⟩:=vast_no HR.out.2;clear HR;obtain ⟨i0,hi,hz0,hsz,hbt⟩:=info_parts infoSz;have hlen:(flat l).length*3=n*6:=by rw [flat_len,hn];omega
  have hn9:0+n≤1000000:=by omega
  have HS:=Lib.hid (And.intro hs (And.intro (fun x h=>(hs x h).o2) (And.intro (fun x h=>(hs x h).o2.o3) (And.intro (fun x h=>(hsb x h).o2) (And.intro (fun x h=>(hsb x h).o2.o3) (fun y h=>(hs' y h).1.ok3))))));clear hs hs' hsb;have hown:(W4.alloc (.cells #[] 41)).ownsRow w.heap.size 41 6 (.slice (some ⟨W4.heap.size,0,none⟩) 0 0) 0 (ncells []):=
   ⟨rfl,.inr ⟨W4.heap.size,0,#[],rfl,hb.size,Rw.new W4 41 [],Nat.le_refl _,Nat.zero_le _,rfl,rfl⟩⟩
  have hb1:=hb.alloc hb.size (.cells #[] 41);have hN:=(hl.alloc (.cells #[] 41)).nums;go_wp2_with (first|(at_builtin;refine wpList_append_nat Tryz.underlying23 hi hz0 hsz hbt rfl (by decide) (by decide) rfl (.tmp 17) (.tmp 18) rfl (m:=n) rfl hown hb1.size rfl hN hlen hn9 ?_));intro v' W5 ho hg;have hWl:W4.heap.size≤(W4.alloc (.cells #[] 41)).heap.size:=by rw [World.size_alloc];exact Nat.le_succ _
  replace ho:W5.ownsRow w.heap.size 41 6 v' n (ncells (flat l)):=by simpa using ho
  have hq:Below W4.heap.size W4 W5:=Below.grown ((Below.refl W4.heap.size W4).alloc (Nat.le_refl _) (.cells #[] 41)) hg hWl (fun k hk=>by simp only [Value.ownBlock,Option.some.injEq] at hk;omega);obtain ⟨od,oc,rfl,-,hO⟩:=own_sat hn ho;replace hb:=below_next hb hq;replace hl:=hl.below hq;replace hlb:=hlb.below hq;replace hp:=hp.below hq;clear hq hWl hN hown hb1 ho hg hlen hn9;have hb0:=hb;replace hb:=Below.refl W5.heap.size W5;have hl5:=hl;have hO5:=hO;have hc:=bform_any W5 od l n oc hn (by omega) hO HS.out.2.1;go_wp2_with fail;refine hc.mono ?_;rintro e W6 ⟨g1,rfl,hg1,hR1,hq⟩;clear hc;replace hb:=below_next hb hq;replace hl:=hl.below hq;replace hlb:=hlb.below hq;replace hp:=hp.below hq;replace hO:=hO.below hq;clear hq;have hc:=bcheck_any W6 od l n oc hn (by omega) hO HS.out.2.2.1;go_wp2_with fail;refine hc.mono ?_;rintro e W7 ⟨rfl,hq⟩;clear hc;replace hb:=below_next hb hq;replace hl:=hl.below hq;replace hlb:=hlb.below hq;replace hp:=hp.below hq;replace hO:=hO.below hq;replace hR1:=hR1.below hq;clear hq;have hc:=rbcheck_any W7 ad l n c hn (by omega) hl HS.out.2.2.1;go_wp2_with fail;refine hc.mono ?_;rintro e W8 ⟨rfl,hq⟩;clear hc;replace hb:=below_next hb hq;replace hl:=hl.below hq;replace hlb:=hlb.below hq;replace hp:=hp.below hq;replace hO:=hO.below hq;replace hR1:=hR1.below hq;clear hq;generalize checkB l=ck at *;have hc:=rbform_any W8 ad l n c hn (by omega) hl HS.out.2.2.1;go_wp2_with fail;refine hc.mono ?_;rintro e W9 ⟨v5,rfl,hw5,hq⟩;clear hc;replace hb:=below_next hb hq
  replace hl:=hl.below hq;replace hlb:=hlb.below hq;replace hp:=hp.below hq;replace hO:=hO.below hq;replace hR1:=hR1.below hq;clear hq;obtain ⟨od2,oc2,rfl,-,hR2⟩:=own_sat (l:=l.map fS) (by rw [List.length_map,hn]) hw5;clear hw5;have hc:=sameB_any W9 (some ⟨g1,0,none⟩) od2 n n oc2 (l.map fS) (by rw [List.length_map,hn]) (by omega) (SAt.of_flat hR1.nat) hR2;go_wp2_with fail;refine hc.mono ?_;rintro e W10 ⟨rfl,hq⟩;clear hc;replace hb:=below_next hb hq;replace hl:=hl.below hq;replace hlb:=hlb.below hq;replace hp:=hp.below hq;replace hO:=hO.below hq;replace hR1:=hR1.below hq;replace hR2:=hR2.below hq;clear hq;clear hR2;have hc:=bhas_any W10 od bd l p n oc n' c' hn hn' (by omega) (by omega) hO hp HS.out.2.2.1 HS.out.2.2.2.2.2;go_wp2_with fail;refine hc.mono ?_;rintro e W11 ⟨rfl,hq⟩;clear hc;replace hb:=below_next hb hq;replace hl:=hl.below hq;replace hlb:=hlb.below hq;replace hp:=hp.below hq;replace hO:=hO.below hq;replace hR1:=hR1.below hq;clear hq;have hc:=rbhas_any W11 ad bd l p n c n' c' hn hn' (by omega) (by omega) hl hp HS.out.2.1 HS.out.2.2.2.2.2 _ rfl;go_wp2_with fail;refine hc.mono ?_;rintro e W12 ⟨rfl,hq⟩;clear hc;replace hb:=below_next hb hq;replace hl:=hl.below hq;replace hlb:=hlb.below hq;replace hp:=hp.below hq;replace hO:=hO.below hq;replace hR1:=hR1.below hq;clear hq;generalize hasB l p=hh at *;have hc:=bwithin_any W12 od ed l b n oc k e hn hk (by omega) (by omega) hO hlb HS.out.2.2.1 HS.out.2.2.2.2.1;go_wp2_with fail;refine hc.mono ?_;rintro e W13 ⟨rfl,hq⟩;clear hc
  replace hb:=below_next hb hq;replace hl:=hl.below hq;replace hlb:=hlb.below hq;replace hp:=hp.below hq;replace hO:=hO.below hq;replace hR1:=hR1.below hq;clear hq;have hc:=rbwithin_any W13 ad ed l b n c k e hn hk (by omega) (by omega) hl hlb HS.out.2.2.1 HS.out.2.2.2.1 _ rfl;go_wp2_with fail;refine hc.mono ?_;rintro e W14 ⟨rfl,hq⟩;clear hc;replace hb:=below_next hb hq;replace hl:=hl.below hq;replace hlb:=hlb.below hq;replace hp:=hp.below hq;replace hO:=hO.below hq;replace hR1:=hR1.below hq;clear hq;generalize withB l b=wh at *;have hfl:(flat (l.map fS)).length=2*n:=by rw [flat_len,List.length_map,hn]
  have HFL:=Lib.hid hfl;clear hfl;go_wp2_with (first|(refine wpList_clear rfl (.tmp 52) rfl HFL.out rfl hR1.rp ?_));intro Wc hgc;replace hb:=Below.grown hb hgc hb.size (fun j hj=>by injection hj with hj;omega);clear hgc hR1 hl hlb hp hO;have hl:=hl5.below hb;have hO:=hO5.below hb;clear hl5 hO5;obtain ⟨y,hy⟩:∃ y,canonN (volD l)=y:=⟨_,rfl⟩;have hV1:=fun W (h:SAt W od l)=>bvol_any W od l n oc hn (by omega) h HS.out.1 (by decide) (by decide);have hV2:=fun W (h:SAt W ad l)=>rbvol_any W ad l n c hn (by omega) h HS.out.1;rw [hy] at hV1 hV2;obtain ⟨my,sy,dy⟩:=y;replace hV1:∀ W,SAt W od l→Calls Tryz.prog 17 #[.slice od n oc] W (Ret (.agg #[.bool my,.string sy,.int .i64 dy]) W):=hV1;replace hV2:∀ W,SAt W ad l→Calls Tryz.prog 18 #[.slice ad n c] W (Ret (.agg #[.bool my,.string sy,.int .i64 dy]) W):=hV2;have HVV:=Lib.hid (And.intro hV1 hV2);clear hV1 hV2 hy;have hc:=bwidest_any Wc od l n oc hn (by omega) hO HS.out.1 (by decide) (by decide);go_wp2_with fail;refine hc.mono ?_;rintro e W15 ⟨r1,rfl,hr1,hq⟩;clear hc;replace hb:=below_next hb hq;replace hl:=hl.below hq;replace hO:=hO.below hq;clear hq;have hc:=rbwidest_any W15 ad l n c hn (by omega) hl HS.out.1 (by decide) (by decide);go_wp2_with fail;refine hc.mono ?_;rintro e W16 ⟨r2,rfl,hr2,hq⟩;clear hc;replace hb:=below_next hb hq;replace hl:=hl.below hq;replace hO:=hO.below hq;clear hq;obtain rfl:=hr1.same hr2;clear hr1 hr2;have hc:=HVV.out.1 W16 hO;go_wp2_with fail;refine hc.mono ?_;rintro e W17 ⟨rfl,hq⟩;clear hc
  replace hb:=below_next hb hq;replace hl:=hl.below hq;replace hO:=hO.below hq;clear hq;have hc:=HVV.out.2 W17 hl;go_wp2_with fail;refine hc.mono ?_;rintro e W18 ⟨rfl,hq⟩;clear hc;replace hb:=below_next hb hq;replace hl:=hl.below hq;replace hO:=hO.below hq;clear hq;have hc:=sameB_any W18 od ad n oc c l hn (by omega) hO hl;go_wp2_with fail;refine hc.mono ?_;rintro e W19 ⟨rfl,hq⟩;clear hc;replace hb:=below_next hb hq;replace hl:=hl.below hq;replace hO:=hO.below hq;clear hq;clear hl hO;have hc:=awake_any W19;go_wp2_with fail;refine hc.mono ?_;rintro e W20 ⟨rfl,hq⟩;clear hc;replace hb:=below_next hb hq;clear hq;go_wp2;go_ret;exact ⟨rfl,below_next hb0 hb⟩
end Go.Proofs.YtbijggomdpaknaaGreatDoor
namespace Go.Proofs.YtbijggomdpaknaaGreatDoor
set_option maxRecDepth 100000
open Go.RowKit Go.ChangeShapes Go.WideShapes Go.Deep
section
variable {H : Type} {enc : TypeId × Value→H} {W : World} {base : Nat} {sp : Nat→Bool} {held : Bool}
theorem open_box {r:Reach} {b0:Nat} {v:Value} {D:DataW H} {ps:List MemPlace} (hval:Value.okWide Tryz.prog W r b0 23 v) (hd:DataW.Trod enc Tryz.prog W base sp held 23 v D ps) :
  ∃ (ad:Option Addr) (l:List SV) (n c:Nat),v=.slice ad n c∧l.length=n∧(n≤c∧(ad=none→c=0))∧SAt W ad l∧n≤maxLen∧∀ x∈l,(x.1.2.1.size≤maxLen∧(Lit.int .i64 x.1.2.2).wf=true)∧(x.2.2.1.size≤maxLen∧(Lit.int .i64 x.2.2.2).wf=true):=by
 obtain ⟨a0,len,cap,rfl⟩:=okWide_slice Tryz.underlying23 hval;obtain ⟨fuel,hf⟩:=hd
 rcases open_slice Tryz.underlying23 hf with ⟨hcs,_⟩|⟨a,len',cap',m,k,D,Pl,hcs,_,hl,hml,hmm,_,hcell⟩
 ·simp [Value.cells] at hcs;obtain ⟨rfl,rfl,rfl⟩:=hcs;exact ⟨none,[],0,0,rfl,rfl,⟨Nat.le_refl _,fun _=>rfl⟩,fun i h=>by simp at h,Nat.zero_le _,fun x h=>by simp at h⟩
 ·simp [Value.cells] at hcs;obtain ⟨rfl,rfl,rfl⟩:=hcs;have hlm:len≤m:=by rw [hmm];split <;> omega
  obtain ⟨b,off,spot⟩:=a;have each:∀ i,i<len→∃ q:SV,spot=none∧b<W.heap.size∧(W.cell? ⟨b,off+i*6,none⟩=some (.bool q.1.1)∧W.cell? ⟨b,off+i*6+1,none⟩=some (.string q.1.2.1)∧W.cell? ⟨b,off+i*6+2,none⟩=some (.int .i64 q.1.2.2)) ∧
    (W.cell? ⟨b,off+i*6+3,none⟩=some (.bool q.2.1)∧W.cell? ⟨b,off+i*6+4,none⟩=some (.string q.2.2.1)∧W.cell? ⟨b,off+i*6+5,none⟩=some (.int .i64 q.2.2.2)) ∧
    (q.1.2.1.size≤maxLen∧(Lit.int .i64 q.1.2.2).wf=true)∧(q.2.2.1.size≤maxLen∧(Lit.int .i64 q.2.2.2).wf=true):=by
   intro i hi;obtain ⟨cs',h1,h2⟩:=hcell i (by omega);rw [span_cells] at h1;obtain ⟨_,hlen,hc⟩:=World.cells?_some h1
   match cs',hlen with
   | [c0,c1,c2,c3,c4,c5],_ =>
    obtain ⟨m',s,d,n',t,e,rfl,rfl,rfl,rfl,rfl,rfl,_,hs,ht⟩:=open_span_cells h2;have e0:=hc 0 (by omega);have e1:=hc 1 (by omega);have e2:=hc 2 (by omega);have e3:=hc 3 (by omega);have e4:=hc 4 (by omega);have e5:=hc 5 (by omega);have hspot:spot=none:=by
     obtain ⟨cs0,k1,_⟩:=hcell 0 (by omega);rw [span_cells] at k1;obtain ⟨_,kl,kc⟩:=World.cells?_some k1;have k0:=kc 0 (by omega);rw [List.getElem?_eq_getElem (by omega)] at k0;simpa [Addr.add] using World.cell?_spot k0
    subst hspot;have ea:∀ j:Nat,(⟨b,off,none⟩:Addr).add j=⟨b,off+j,none⟩:=fun j=>by unfold Addr.add;split <;> simp_all
    have eb:∀ p j:Nat,(⟨b,p,none⟩:Addr).add j=⟨b,p+j,none⟩:=fun p j=>by unfold Addr.add;split <;> simp_all
    rw [ea,eb] at e0 e1 e2 e3 e4 e5;exact ⟨((m',s,d),(n',t,e)),rfl,World.block_lt_of_cell? W _ e0,⟨by simpa using e0,by simpa using e1,by simpa using e2⟩,⟨by simpa using e3,by simpa using e4,by simpa using e5⟩,hs,ht⟩
  obtain ⟨q,hq⟩:=choose_lt each;refine ⟨some ⟨b,off,spot⟩,(List.range len).map q,len,cap,rfl,by simp,⟨hl,fun h=>by cases h⟩,fun i hi=>?_,by omega,fun x hx=>?_⟩
  ·simp at hi;obtain ⟨hs0,hb,h0,h1,_⟩:=hq i hi;refine ⟨b,off,by rw [hs0],hb,?_,?_⟩
   ·simpa using h0
   ·simpa using h1
  ·obtain ⟨i,hi,rfl⟩:=List.mem_map.1 hx;exact (hq i (List.mem_range.1 hi)).2.2.2.2
theorem open_point {r:Reach} {b0:Nat} {v:Value} {d:DataW H} {ps:List MemPlace} (hval:Value.okWide Tryz.prog W r b0 25 v) (hd:DataW.Trod enc Tryz.prog W base sp held 25 v d ps) :
  ∃ (ad:Option Addr) (l:List NV) (n c:Nat),v=.slice ad n c∧l.length=n∧(n≤c∧(ad=none→c=0))∧NAt W ad l∧n≤maxLen∧∀ x∈l,x.2.1.size≤maxLen∧(Lit.int .i64 x.2.2).wf=true:=by
 obtain ⟨a0,len,cap,rfl⟩:=okWide_slice Tryz.underlying25 hval;obtain ⟨fuel,hf⟩:=hd
 rcases open_slice Tryz.underlying25 hf with ⟨hcs,_⟩|⟨a,len',cap',m,k,D,Pl,hcs,_,hl,hml,hmm,_,hcell⟩
 ·simp [Value.cells] at hcs;obtain ⟨rfl,rfl,rfl⟩:=hcs;exact ⟨none,[],0,0,rfl,rfl,⟨Nat.le_refl _,fun _=>rfl⟩,fun i h=>by simp at h,Nat.zero_le _,fun x h=>by simp at h⟩
 ·simp [Value.cells] at hcs;obtain ⟨rfl,rfl,rfl⟩:=hcs;have hlm:len≤m:=by rw [hmm];split <;> omega
  obtain ⟨b,off,spot⟩:=a;have each:∀ i,i<len→∃ q:NV,spot=none∧b<W.heap.size∧W.cell? ⟨b,off+i*3,none⟩=some (.bool q.1)∧W.cell? ⟨b,off+i*3+1,none⟩=some (.string q.2.1)∧W.cell? ⟨b,off+i*3+2,none⟩=some (.int .i64 q.2.2)∧q.2.1.size≤maxLen∧(Lit.int .i64 q.2.2).wf=true:=by
   intro i hi;obtain ⟨cs',h1,h2⟩:=hcell i (by omega);rw [num_cells] at h1;obtain ⟨_,hlen,hc⟩:=World.cells?_some h1
   match cs',hlen with
   | [c0,c1,c2],_ =>
    obtain ⟨x,s,e,rfl,rfl,rfl,_,hs,hw⟩:=open_num_cells h2;have e0:=hc 0 (by omega);have e1:=hc 1 (by omega);have e2:=hc 2 (by omega);have hspot:spot=none:=by
     obtain ⟨cs0,k1,_⟩:=hcell 0 (by omega);rw [num_cells] at k1;obtain ⟨_,kl,kc⟩:=World.cells?_some k1;have k0:=kc 0 (by omega);rw [List.getElem?_eq_getElem (by omega)] at k0;simpa [Addr.add] using World.cell?_spot k0
    subst hspot;have ea:∀ j:Nat,(⟨b,off,none⟩:Addr).add j=⟨b,off+j,none⟩:=fun j=>by unfold Addr.add;split <;> simp_all
    have eb:∀ p j:Nat,(⟨b,p,none⟩:Addr).add j=⟨b,p+j,none⟩:=fun p j=>by unfold Addr.add;split <;> simp_all
    rw [ea,eb] at e0 e1 e2;exact ⟨(x,s,e),rfl,World.block_lt_of_cell? W _ e0,by simpa using e0,by simpa using e1,by simpa using e2,hs,hw⟩
  obtain ⟨q,hq⟩:=choose_lt each;refine ⟨some ⟨b,off,spot⟩,(List.range len).map q,len,cap,rfl,by simp,⟨hl,fun h=>by cases h⟩,fun i hi=>?_,by omega,fun x hx=>?_⟩
  ·simp at hi;obtain ⟨hs0,hb,h0,h1,h2,_⟩:=hq i hi;refine ⟨b,off,by rw [hs0],hb,?_,?_,?_⟩
   ·simpa using h0
   ·simpa using h1
   ·simpa using h2
  ·obtain ⟨i,hi,rfl⟩:=List.mem_map.1 hx;exact (hq i (List.mem_range.1 hi)).2.2.2.2.2
end
end Go.Proofs.YtbijggomdpaknaaGreatDoor
namespace Go.Proofs.YtbijggomdpaknaaGreatDoor.boxChecks
set_option maxRecDepth 100000
open Go.ChangeShapes Go.WideShapes Go.ChangeAt Go.RowKit
open Go.ChangeMaps (open_string shut_string)
theorem laidOut:laidOutB Tryz.prog=true:=by kernel_rfl
theorem own:ownKnob Tryz.prog.godebug=none:=by kernel_rfl
theorem lifted (os:Os) (started:os.Started) (H:Type) (enc:TypeId × Value→H) :
  ReturnsInHanded {} Tryz.checked os 3 .any (fun w args=>(Rows.boxChecksSpec.pre enc Tryz.prog Tryz.f3 Rows.boxChecksRow.domain false w args∧laidMetH Tryz.prog Rows.boxChecksRow.laid w)∧sizedMet enc Tryz.prog Tryz.f3 (OpenSpec.ofChange Rows.boxChecksSpec) false w args)
   (Rows.boxChecksSpec.post enc Tryz.prog Tryz.f3 false true false false):=by
 refine returnsInHanded_of_change_and (C:=Tryz.checked) (X:=fun w _=>laidMetH Tryz.prog Rows.boxChecksRow.laid w) (fun _ _ _ hh h=>h.of_heap hh) own started (by kernel_rfl) Tryz.func3
  (ChangeSpec.witness_shaped (enc:=enc) (C:=Tryz.checked) (os:=os) (X:=fun w _=>laidMetH Tryz.prog Rows.boxChecksRow.laid w) false (World.laidAll Tryz.prog os Rows.boxChecksRow.laid) #[.slice none 0 0,.slice none 0 0,.slice none 0 0] 8 (World.laidAll_os _ _ _)
   (World.shaped_of_ZipB (by kernel_rfl) (by kernel_rfl)) (by kernel_rfl) (by kernel_rfl) (by kernel_rfl)
   (by rw [MakeChecks.laidMetH_plain _ _ _ (by kernel_rfl)];exact laidMet_laidAll _ (by kernel_rfl) (by kernel_rfl))) ?_
 intro W base args ds gs before hval0 hW _ _ _ _;have hval:∀ (j:Nat) t v,Tryz.f3.params[j]?=some t→args[j]?=some v→Value.okWide Tryz.prog W .any base t v:=hval0;have hW':=hW;obtain ⟨p,q,hA0,hV,rfl,_,_⟩:=hW;have hA:DataW.TrodAll enc Tryz.prog W 0 (fun _=>true) true Tryz.f3.params.toList args.toList ds p:=hA0;rw [Tryz.params3] at hA hval;obtain ⟨v0,vs0,d0,ds0,p0,q0,hargs,rfl,rfl,h0,r0⟩:=trodAll_cons hA;obtain ⟨v1,vs1,d1,ds1,p1,q1,rfl,rfl,rfl,h1,r1⟩:=trodAll_cons r0;obtain ⟨v2,vs2,d2,ds2,p2,q2,rfl,rfl,rfl,h2,r2⟩:=trodAll_cons r1;obtain ⟨rfl,rfl,rfl⟩:=trodAll_nil r2;obtain rfl:args=#[v0,v1,v2]:=by cases args;simp_all
 obtain ⟨rfl,rfl⟩:=trodVars_none hV;have h0k:=h0;obtain ⟨ad0,l0,n0,c0,rfl,el0,ec0,hi0,em0,ew0⟩:=open_box (hval 0 23 v0 rfl rfl) h0;have h1k:=h1;obtain ⟨ad1,l1,n1,c1,rfl,el1,ec1,hi1,em1,ew1⟩:=open_box (hval 1 23 v1 rfl rfl) h1;have h2k:=h2;obtain ⟨ad2,l2,n2,c2,rfl,el2,ec2,hi2,em2,ew2⟩:=open_point (hval 2 25 v2 rfl rfl) h2;clear hA0 hval0;simp only [List.append_nil] at hW';refine (boxchecks_law W ad0 l0 n0 c0 el0 ec0 hi0 em0 ew0 ad1 l1 n1 c1 el1 ec1 hi1 em1 ew1 ad2 l2 n2 c2 el2 ec2 hi2 em2 ew2).mono fun e W' ⟨he,hb⟩=>?_;subst he;exact ⟨_,rfl,_,_,_,[],_,[],hW',trodAll_cons_mk (shut_bool Tryz.underlying4 _) trodAll_mk0,(trodAll_cons_mk (Below.trod laidOut (by kernel_rfl) (of_decide_eq_true (by kernel_rfl)) h0k hb (fun x hx=>hW'.lt x (by simp_all))) (trodAll_cons_mk (Below.trod laidOut (by kernel_rfl) (of_decide_eq_true (by kernel_rfl)) h1k hb (fun x hx=>hW'.lt x (by simp_all))) (trodAll_cons_mk (Below.trod laidOut (by kernel_rfl) (of_decide_eq_true (by kernel_rfl)) h2k hb (fun x hx=>hW'.lt x (by simp_all))) trodAll_mk0))),rfl,hb.frame _,fun h=>by cases h⟩
theorem said:Rows.BoxChecksSaid:=
 OpenClaim.holds_of_wide 3 Tryz.f3 rfl rfl rfl rfl rfl rfl rfl ⟨rfl,rfl,rfl,rfl,rfl⟩ rfl rfl rfl rfl rfl (by kernel_rfl) Tryz.func3 (by kernel_rfl)
  (of_decide_eq_true (by kernel_rfl)) (by unfold Func.isWrapper;first|(rw [if_pos (by decide +kernel)];kernel_rfl)|(rw [if_neg (by decide +kernel)];exact ⟨rfl,rfl⟩))
  (fun os started H enc _=>lifted os started H enc)
theorem plain (f:FuncId) (fn:Func) (hf:Tryz.pinned.checked.prog.funcNamed "ogee/ogeelaw11.BoxChecks"=some f) (hfn:Tryz.pinned.checked.prog.funcs[f]?=some fn) :
  false=Tryz.pinned.checked.prog.looks []∧∀ (j:Nat) t,fn.params[j]?=some t→Tryz.pinned.checked.prog.wantsStandIn t=false:=by
 obtain rfl:f=3:=Option.some.inj ((show Tryz.prog.funcNamed "ogee/ogeelaw11.BoxChecks"=some 3 by kernel_rfl).symm.trans hf) |>.symm
 obtain rfl:fn=Tryz.f3:=(Option.some.inj (Tryz.func3.symm.trans hfn)).symm;refine ⟨by kernel_rfl,fun j t ht=>?_⟩;rw [Tryz.params3] at ht;have hm:t∈[23,23,25]:=by simpa using Array.mem_of_getElem? ht
 have hall:([23,23,25].all fun u=>!Tryz.prog.wantsStandIn u)=true:=by kernel_rfl
 exact (show Tryz.prog.wantsStandIn t=false by simpa using List.all_eq_true.1 hall t hm)
theorem proved:Rows.BoxChecksCardSaid:=
 Claim7.holds_tied_plain_at .later [] _ _ _ _ said (fun _ h=>by cases h) (by kernel_rfl) (fun _ h=>by cases h) boxChecks_row_tie rfl ⟨rfl,rfl⟩ (by kernel_rfl) rfl plain (by kernel_rfl)
#print axioms proved
end Go.Proofs.YtbijggomdpaknaaGreatDoor.boxChecks
