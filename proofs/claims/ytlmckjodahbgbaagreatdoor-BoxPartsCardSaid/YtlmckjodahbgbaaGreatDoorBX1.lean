/- Package box: each; walked. -/
import Derived.Test.YtlmckjodahbgbaaGreatDoorS5
import Derived.Test.YtlmckjodahbgbaaGreatDoorBX0
import Derived.Test.YtlmckjodahbgbaaGreatDoorBXApp
namespace Go.Proofs.YtlmckjodahbgbaaGreatDoor
set_option maxRecDepth 100000
set_option maxHeartbeats 3200000
open Go.RowKit Go.Shelf
theorem infoSz:(Tryz.prog.info? 60).map (fun i=>(i.zero,i.size,i.bytes))=some (some (.agg #[.bool false,.string ⟨#[]⟩,.int .i64 0,.bool false,.string ⟨#[]⟩,.int .i64 0]),6,64):=by kernel_rfl
theorem made_spans (n:Nat):madeCells (Value.cells (.agg #[.bool false,.string ⟨#[]⟩,.int .i64 0,.bool false,.string ⟨#[]⟩,.int .i64 0])) (n*6)=(ncells (noughts (2*n))).toArray:=by
 have hz:Value.cells (.agg #[.bool false,.string ⟨#[]⟩,.int .i64 0,.bool false,.string ⟨#[]⟩,.int .i64 0])=#[.bool false,.string ⟨#[]⟩,.int .i64 0,.bool false,.string ⟨#[]⟩,.int .i64 0]:=rfl;rw [hz]
 apply Array.toList_inj.1
 unfold madeCells noughts;rw [Array.toList_map,Array.toList_range,List.toList_toArray]
 induction n with
 | zero=>rfl
 | succ n ih =>
  have h1:(List.replicate (2*(n+1)) ((false,⟨#[]⟩,0):NV))=List.replicate (2*n) (false,⟨#[]⟩,0)++[(false,⟨#[]⟩,0),(false,⟨#[]⟩,0)]:=by
   rw [show 2*(n+1)=2*n+1+1 by omega,List.replicate_succ',List.replicate_succ',List.append_assoc];rfl
  rw [h1,ncells_app,← ih];rw [show (n+1)*6=n*6+1+1+1+1+1+1 by omega];simp only [List.range_succ,List.map_append,List.append_assoc]
  congr 1
  simp [ncells,Nat.add_mod]
theorem make_spans (n:Nat) (hmax:n≤1000000):∀ w:World,
  (Instr.makeSlice 22 (.int .i64 n) (.int .i64 n)).run Tryz.prog w=.ok (.slice (some ⟨w.heap.size,0,none⟩) n n) (w.alloc (.cells (ncells (noughts (2*n))).toArray 60)):=by
 intro w;obtain ⟨i,hi,hz,hs,hb⟩:=info_parts infoSz;have h:=run_make (P:=Tryz.prog) w 22 60 i _ Tryz.underlying22 hi hz .i64 .i64 (n:Int) (n:Int) (by omega) (by omega) (by rw [hb];omega) (by omega);rw [h,hs];simp only [Int.toNat_natCast];rw [made_spans]
def fillO (O:List NV) (k:Nat):List NV:=O.take k++noughts (O.length-k)
theorem fillO_len {O:List NV} {k:Nat} (hk:k≤O.length):(fillO O k).length=O.length:=by
 unfold fillO noughts;rw [List.length_append,List.length_take,List.length_replicate];omega
theorem fillO_set {O:List NV} {k:Nat} (hk:k<O.length):(fillO O k).set k O[k]=fillO O (k+1):=by
 unfold fillO noughts;obtain ⟨j,hj⟩:∃ j,O.length-k=j+1:=⟨O.length-k-1,by omega⟩;rw [List.set_append_right _ _ (by rw [List.length_take];omega),List.length_take,show k-min k O.length=0 by omega,hj,List.replicate_succ,List.set_cons_zero,show O.length-(k+1)=j by omega,List.take_succ_eq_append_getElem hk,List.append_assoc];rfl
theorem fillO_all {O:List NV}:fillO O O.length=O:=by
 unfold fillO noughts;rw [List.take_of_length_le (Nat.le_refl _),Nat.sub_self];simp
def RowN (w:World) (O:List NV) (n:Nat):Ending→World→Prop:=fun e w'=>∃ g,e=.returned (.slice (some ⟨g,0,none⟩) n n)∧w.heap.size≤g∧Rn w' g O∧Below w.heap.size w w'
theorem eachN_any (w:World) (f:Nat) (caps:Array Value) (hgo:∀ (aa:Array Value) (W:World),Sem.run Tryz.prog (callFunc f aa) W=.ok (.enter f aa) W) (ad:Option Addr) (l:List SV) (n c:Nat) (hn:l.length=n) (hmax:n≤1000) (hl:SAt w ad l) (hs:∀ x∈l,O2 x)
  (O:List NV) (ho:O.length=n) (hcall:∀ i (h:i<l.length) (h2:i<O.length) W,Below w.heap.size w W→Calls Tryz.prog f (#[.int .i64 i,sagg (fS l[i])]++caps) W (Ret (nagg O[i]) W)) :
  Calls Tryz.prog 63 #[.slice ad n c,.func (.func f) #[] caps] w (RowN w O n):=by
 have HC:=Lib.hid (And.intro hn (And.intro hs (And.intro ho hcall)));clear hn hs ho hcall;have hmk:=make_nums n (by omega) w;have hb:=(Below.refl w.heap.size w).alloc (Nat.le_refl _) (Obj.cells (ncells (noughts n)).toArray 36);have hP0:Rn (w.alloc (Obj.cells (ncells (noughts n)).toArray 36)) w.heap.size (fillO O 0):=by
  unfold fillO;rw [HC.out.2.2.1];exact Rn.new _ _ _ _ rfl
 go_enter Tryz.func63,Tryz.ntmps63;go_wp2;clear hmk;generalize (w.alloc (Obj.cells (ncells (noughts n)).toArray 36))=W0 at *
 go_loopw [13] (fun i wr=>∃ k:Nat,k≤n∧i=.int .i64 k∧Rn wr w.heap.size (fillO O k)∧Below w.heap.size w wr) (fun i _=>n-intY i)
 case atStart=>exact ⟨0,Nat.zero_le _,rfl,hP0,hb⟩
 case round =>
  clear hP0 hb;obtain ⟨k,hk,rfl,hP,hb⟩:=hrel
  by_cases hlt:k<n
  ·have hkl:k<l.length:=by rw [HC.out.1];exact hlt
   have hkO:k<O.length:=by rw [HC.out.2.2.1];exact hlt
   obtain ⟨lb,lo,rfl,hlb,⟨c0,c1,c2⟩,c3,c4,c5⟩:=hl k hkl;have hok:=HC.out.2.1 _ (List.getElem_mem hkl);have hcall:=HC.out.2.2.2 k hkl hkO;have hf:=fillO_set hkO;have hPn:k<(fillO O k).length:=by rw [fillO_len (Nat.le_of_lt hkO)];exact hkO
   generalize O[k]=y at *;generalize l[k]=x at *;have hcf:=fun W=>c_form W x hok;generalize fS x=u at *;obtain ⟨⟨m1,s1,d1⟩,n1,t1,e1⟩:=x;obtain ⟨⟨m2,s2,d2⟩,n2,t2,e2⟩:=u;obtain ⟨m3,s3,d3⟩:=y;simp only at c0 c1 c2 c3 c4 c5;replace c0:wr.cell? ⟨lb,lo+k*6,none⟩=some (.bool m1):=by rw [hb.cell hlb];exact c0
   replace c1:wr.cell? ⟨lb,lo+k*6+1,none⟩=some (.string s1):=by rw [hb.cell hlb];exact c1
   replace c2:wr.cell? ⟨lb,lo+k*6+2,none⟩=some (.int .i64 d1):=by rw [hb.cell hlb];exact c2
   replace c3:wr.cell? ⟨lb,lo+k*6+3,none⟩=some (.bool n1):=by rw [hb.cell hlb];exact c3
   replace c4:wr.cell? ⟨lb,lo+k*6+4,none⟩=some (.string t1):=by rw [hb.cell hlb];exact c4
   replace c5:wr.cell? ⟨lb,lo+k*6+5,none⟩=some (.int .i64 e1):=by rw [hb.cell hlb];exact c5
   replace hcf:∀ W,Calls Tryz.prog 93 #[.agg #[.bool m1,.string s1,.int .i64 d1,.bool n1,.string t1,.int .i64 e1]] W (Ret (.agg #[.bool m2,.string s2,.int .i64 d2,.bool n2,.string t2,.int .i64 e2]) W):=hcf;replace hcall:∀ W,Below w.heap.size w W→Calls Tryz.prog f (#[.int .i64 k,.agg #[.bool m2,.string s2,.int .i64 d2,.bool n2,.string t2,.int .i64 e2]]++caps) W (Ret (.agg #[.bool m3,.string s3,.int .i64 d3]) W):=hcall;have HX:=Lib.hid (And.intro hcall (And.intro hcf hf));clear hok hcall hcf hf;have hS:=Sk.new wr 60 m1 s1 d1 n1 t1 e1;replace hb:=hb.alloc hb.size (.cells #[.bool m1,.string s1,.int .i64 d1,.bool n1,.string t1,.int .i64 e1] 60);replace hP:=hP.alloc (.cells #[.bool m1,.string s1,.int .i64 d1,.bool n1,.string t1,.int .i64 e1] 60);obtain ⟨S0,S1,S2,S3,S4,S5⟩:=hS.cells;go_wp2_with fail;clear c0 c1 c2 c3 c4 c5 S0 S1 S2 S3 S4 S5 hS;generalize (wr.alloc (.cells #[.bool m1,.string s1,.int .i64 d1,.bool n1,.string t1,.int .i64 e1] 60))=W1 at *;refine (HX.out.2.1 _).mono ?_;rintro e' V ⟨rfl,hq⟩;replace hb:=below_next hb hq;replace hP:=hP.below hq;clear hq;go_wp2_with fail;refine (HX.out.1 _ hb).mono ?_;rintro e' V2 ⟨rfl,hq⟩;replace hb:=below_next hb hq;replace hP:=hP.below hq;clear hq;obtain ⟨P0,P1,P2,P3,P4,P5⟩:=hP.facts k hPn;go_wp2_with fail;clear P0 P1 P2 P3 P4 P5;have hP2:=hP.set_ k (m3,s3,d3);rw [HX.out.2.2] at hP2;exact ⟨⟨k+1,hlt,rfl,hP2,((hb.setCell (Nat.le_refl _) _).setCell (Nat.le_refl _) _).setCell (Nat.le_refl _) _⟩,by simp [intY];omega⟩
  ·obtain rfl:k=n:=by omega
   go_wp2;go_ret;refine ⟨w.heap.size,rfl,Nat.le_refl _,?_,hb⟩;have hn:=HC.out.2.2.1;rw [← hn,fillO_all] at hP;exact hP
theorem eachS_any (w:World) (f:Nat) (caps:Array Value) (hgo:∀ (aa:Array Value) (W:World),Sem.run Tryz.prog (callFunc f aa) W=.ok (.enter f aa) W) (ad:Option Addr) (l:List SV) (n c:Nat) (hn:l.length=n) (hmax:n≤1000) (hl:SAt w ad l) (hs:∀ x∈l,O2 x)
  (O:List SV) (ho:O.length=n) (hcall:∀ i (h:i<l.length) (h2:i<O.length) W,Below w.heap.size w W→Calls Tryz.prog f (#[.int .i64 i,sagg (fS l[i])]++caps) W (Ret (sagg O[i]) W)) :
  Calls Tryz.prog 45 #[.slice ad n c,.func (.func f) #[] caps] w (RowN w (flat O) n):=by
 have HC:=Lib.hid (And.intro hn (And.intro hs (And.intro ho hcall)));clear hn hs ho hcall;have hmk:=make_spans n (by omega) w;have hb:=(Below.refl w.heap.size w).alloc (Nat.le_refl _) (Obj.cells (ncells (noughts (2*n))).toArray 60);have hP0:Rn (w.alloc (Obj.cells (ncells (noughts (2*n))).toArray 60)) w.heap.size (fillO (flat O) 0):=by
  unfold fillO;rw [flat_len,HC.out.2.2.1];exact Rn.new _ _ _ _ rfl
 go_enter Tryz.func45,Tryz.ntmps45;go_wp2;clear hmk;generalize (w.alloc (Obj.cells (ncells (noughts (2*n))).toArray 60))=W0 at *
 go_loopw [13] (fun i wr=>∃ k:Nat,k≤n∧i=.int .i64 k∧Rn wr w.heap.size (fillO (flat O) (2*k))∧Below w.heap.size w wr) (fun i _=>n-intY i)
 case atStart=>exact ⟨0,Nat.zero_le _,rfl,hP0,hb⟩
 case round =>
  clear hP0 hb;obtain ⟨k,hk,rfl,hP,hb⟩:=hrel
  by_cases hlt:k<n
  ·have hkl:k<l.length:=by rw [HC.out.1];exact hlt
   have hkO:k<O.length:=by rw [HC.out.2.2.1];exact hlt
   obtain ⟨lb,lo,rfl,hlb,⟨c0,c1,c2⟩,c3,c4,c5⟩:=hl k hkl;have hok:=HC.out.2.1 _ (List.getElem_mem hkl);have hcall:=HC.out.2.2.2 k hkl hkO;obtain ⟨hk0,hk1⟩:2*k<(flat O).length∧2*k+1<(flat O).length:=by rw [flat_len];omega
   have hfa:=fillO_set hk0;have hf:=fillO_set hk1;obtain ⟨hy0,hy1⟩:=flat_get O k hkO;rw [List.getElem?_eq_getElem hk0,Option.some.injEq] at hy0;rw [List.getElem?_eq_getElem hk1,Option.some.injEq] at hy1;rw [hy0] at hfa;rw [hy1,← hfa] at hf;clear hfa hy0 hy1;have hPn:2*k<(fillO (flat O) (2*k)).length:=by rw [fillO_len (Nat.le_of_lt hk0)];exact hk0
   have hPm:2*k+1<(fillO (flat O) (2*k)).length:=by rw [fillO_len (Nat.le_of_lt hk0)];exact hk1
   generalize O[k]=y at *;generalize l[k]=x at *;have hcf:=fun W=>c_form W x hok;generalize fS x=u at *;obtain ⟨⟨m1,s1,d1⟩,n1,t1,e1⟩:=x;obtain ⟨⟨m2,s2,d2⟩,n2,t2,e2⟩:=u;obtain ⟨⟨m3,s3,d3⟩,n3,t3,e3⟩:=y;simp only at c0 c1 c2 c3 c4 c5;replace c0:wr.cell? ⟨lb,lo+k*6,none⟩=some (.bool m1):=by rw [hb.cell hlb];exact c0
   replace c1:wr.cell? ⟨lb,lo+k*6+1,none⟩=some (.string s1):=by rw [hb.cell hlb];exact c1
   replace c2:wr.cell? ⟨lb,lo+k*6+2,none⟩=some (.int .i64 d1):=by rw [hb.cell hlb];exact c2
   replace c3:wr.cell? ⟨lb,lo+k*6+3,none⟩=some (.bool n1):=by rw [hb.cell hlb];exact c3
   replace c4:wr.cell? ⟨lb,lo+k*6+4,none⟩=some (.string t1):=by rw [hb.cell hlb];exact c4
   replace c5:wr.cell? ⟨lb,lo+k*6+5,none⟩=some (.int .i64 e1):=by rw [hb.cell hlb];exact c5
   replace hcf:∀ W,Calls Tryz.prog 93 #[.agg #[.bool m1,.string s1,.int .i64 d1,.bool n1,.string t1,.int .i64 e1]] W (Ret (.agg #[.bool m2,.string s2,.int .i64 d2,.bool n2,.string t2,.int .i64 e2]) W):=hcf;replace hcall:∀ W,Below w.heap.size w W→Calls Tryz.prog f (#[.int .i64 k,.agg #[.bool m2,.string s2,.int .i64 d2,.bool n2,.string t2,.int .i64 e2]]++caps) W (Ret (.agg #[.bool m3,.string s3,.int .i64 d3,.bool n3,.string t3,.int .i64 e3]) W):=hcall;have HX:=Lib.hid (And.intro hcall (And.intro hcf hf));clear hok hcall hcf hf;have hS:=Sk.new wr 60 m1 s1 d1 n1 t1 e1;replace hb:=hb.alloc hb.size (.cells #[.bool m1,.string s1,.int .i64 d1,.bool n1,.string t1,.int .i64 e1] 60);replace hP:=hP.alloc (.cells #[.bool m1,.string s1,.int .i64 d1,.bool n1,.string t1,.int .i64 e1] 60);obtain ⟨S0,S1,S2,S3,S4,S5⟩:=hS.cells;go_wp2_with fail;clear c0 c1 c2 c3 c4 c5 S0 S1 S2 S3 S4 S5 hS;generalize (wr.alloc (.cells #[.bool m1,.string s1,.int .i64 d1,.bool n1,.string t1,.int .i64 e1] 60))=W1 at *;refine (HX.out.2.1 _).mono ?_;rintro e' V ⟨rfl,hq⟩;replace hb:=below_next hb hq;replace hP:=hP.below hq;clear hq;go_wp2_with fail;refine (HX.out.1 _ hb).mono ?_;rintro e' V2 ⟨rfl,hq⟩;replace hb:=below_next hb hq;replace hP:=hP.below hq;clear hq;obtain ⟨P0,P1,P2,P3,P4,P5⟩:=hP.facts (2*k) hPn;obtain ⟨R0,R1,R2,R3,R4,R5⟩:=hP.facts (2*k+1) hPm;rw [show 2*k*3=k*6 by omega] at P0 P1 P2 P3 P4 P5;rw [show (2*k+1)*3=k*6+3 by omega] at R0 R1 R2 R3 R4 R5;go_wp2_with fail;clear P0 P1 P2 P3 P4 P5 R0 R1 R2 R3 R4 R5
   have hP2:=(hP.set_ (2*k) (m3,s3,d3)).set_ (2*k+1) (n3,t3,e3);rw [HX.out.2.2] at hP2;rw [show 2*k*3=k*6 by omega,show (2*k+1)*3=k*6+3 by omega] at hP2;exact ⟨⟨k+1,hlt,rfl,hP2,(((((hb.setCell (Nat.le_refl _) _).setCell (Nat.le_refl _) _).setCell (Nat.le_refl _) _).setCell (Nat.le_refl _) _).setCell (Nat.le_refl _) _).setCell (Nat.le_refl _) _⟩,by simp [intY];omega⟩
  ·obtain rfl:k=n:=by omega
   go_wp2;go_ret;refine ⟨w.heap.size,rfl,Nat.le_refl _,?_,hb⟩;have hn:=HC.out.2.2.1;rw [← hn,← flat_len,fillO_all] at hP;exact hP
end Go.Proofs.YtlmckjodahbgbaaGreatDoor
