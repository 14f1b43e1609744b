/- Two rows of terms that rise, put together (package poly): merged, walked. -/
import Derived.Test.YtemedphcafgolaaGreatDoorPF
namespace Go.Proofs.YtemedphcafgolaaGreatDoor
set_option maxRecDepth 100000
set_option maxHeartbeats 3200000
open Go.RowKit Go.Shelf Go.Lib
def fitsN (k:Nat) (x:NV):Prop:=x.2.1.size≤k∧-2000≤x.2.2∧x.2.2≤8*k
theorem make_terms (W:World) (B n:Nat) (c:Int) (hc:c=(n:Int)) (hmax:n≤100000) (hB:B≤W.heap.size) :
  ∃ w',(Instr.makeSlice 22 (.int .i64 0) (.int .i64 c)).run Tryz.prog W=.ok (.slice (some ⟨W.heap.size,0,none⟩) 0 n) w'∧w'.ownsRow B 58 4 (.slice (some ⟨W.heap.size,0,none⟩) 0 n) 0 []∧W.grownBy w' none:=by
 subst hc;obtain ⟨i,hi,hz,hs,hb⟩:=info_parts infoT4;exact run_make_own (P:=Tryz.prog) W B 22 58 i _ 4 Tryz.underlying22 hi hz hs .i64 .i64 n (by rw [hb];omega) (by unfold maxLen;omega) hB
theorem goes_lower (aa:Array Value) (W:World):Sem.run Tryz.prog (callFunc 61 aa) W=.ok (.enter 61 aa) W:=by kernel_rfl
theorem goes_together (aa:Array Value) (W:World):Sem.run Tryz.prog (callFunc 62 aa) W=.ok (.enter 62 aa) W:=by kernel_rfl
def RowOut (w w' : World) (k:Nat) (e:Ending) (r:List TD):Prop:=
 ∃ (od:Option Addr) (oc:Nat) (L:List TV),e=.returned (.slice od L.length oc)∧L.length≤oc∧TAt w' od L∧L.map tdv=r∧(∀ x∈L,fitsN k x.2)∧Below w.heap.size w w'
def tagg (x:TV):Value:=.agg #[.string x.1,.bool x.2.1,.string x.2.2.1,.int .i64 x.2.2.2]
def TogC (k:Nat):Prop:=∀ (W:World) (a b:TV),fitsN k a.2→fitsN k b.2→∀ (m:Bool) (s:ByteArray) (d:Int),df (nvl a.2+nvl b.2)=nu m s d →
 Calls Tryz.prog 62 #[.agg #[.string a.1,.bool a.2.1,.string a.2.2.1,.int .i64 a.2.2.2],.agg #[.string b.1,.bool b.2.1,.string b.2.2.1,.int .i64 b.2.2.2]] W (Ret (.agg #[.string a.1,.bool m,.string s,.int .i64 d]) W)
def MgP (k:Nat) (A B L a b:List TV):Prop:=
 L.length+a.length+b.length≤A.length+B.length∧L.map tdv++merge2 (a.map tdv) (b.map tdv)=merge2 (A.map tdv) (B.map tdv)∧(∀ x∈L,fitsN k x.2)∧(∀ x∈a,x∈A)∧(∀ x∈b,x∈B)
theorem fits_snoc {k:Nat} {L:List TV} {x:TV} (h:∀ z∈L,fitsN k z.2) (hx:fitsN k x.2):∀ z∈L++[x],fitsN k z.2:=by
 intro z hz
 rcases List.mem_append.1 hz with hz|hz
 ·exact h z hz
 ·obtain rfl:=List.mem_singleton.1 hz;exact hx
section
variable {k : Nat} {A B L a b : List TV} {x y : TV}
theorem MgP.left (h:MgP k A B L (x::a) (y::b)) (hA:∀ x∈A,fitsN k x.2) (hl:Op.bytesLess x.1.data.toList y.1.data.toList=true):MgP k A B (L++[x]) a (y::b):=by
 obtain ⟨h1,h2,h3,h4,h5⟩:=h;refine ⟨by simp at h1 ⊢;omega,?_,fits_snoc h3 (hA _ (h4 _ List.mem_cons_self)),fun z hz=>h4 z (List.mem_cons_of_mem _ hz),h5⟩;rw [← h2,List.map_append,List.append_assoc]
 congr 1
 show [tdv x]++merge2 (a.map tdv) (tdv y::b.map tdv)=merge2 (tdv x::a.map tdv) (tdv y::b.map tdv)
 conv=>rhs;rw [merge2,if_pos (show Op.bytesLess (tdv x).1 (tdv y).1=true from hl)]
 rfl
theorem MgP.right (h:MgP k A B L (x::a) (y::b)) (hB:∀ x∈B,fitsN k x.2) (hl:Op.bytesLess x.1.data.toList y.1.data.toList=false) (hr:Op.bytesLess y.1.data.toList x.1.data.toList=true):MgP k A B (L++[y]) (x::a) b:=by
 obtain ⟨h1,h2,h3,h4,h5⟩:=h;refine ⟨by simp at h1 ⊢;omega,?_,fits_snoc h3 (hB _ (h5 _ List.mem_cons_self)),h4,fun z hz=>h5 z (List.mem_cons_of_mem _ hz)⟩;rw [← h2,List.map_append,List.append_assoc]
 congr 1
 show [tdv y]++merge2 (tdv x::a.map tdv) (b.map tdv)=merge2 (tdv x::a.map tdv) (tdv y::b.map tdv)
 conv=>rhs;rw [merge2,if_neg (show ¬ Op.bytesLess (tdv x).1 (tdv y).1=true by rw [show Op.bytesLess (tdv x).1 (tdv y).1=false from hl];decide),if_pos (show Op.bytesLess (tdv y).1 (tdv x).1=true from hr)]
 rfl
theorem MgP.both (h:MgP k A B L (x::a) (y::b)) (hs:∀ x∈A,∀ y∈B,fitsN k (canonN (nvl x.2+nvl y.2))) (hl:Op.bytesLess x.1.data.toList y.1.data.toList=false) (hr:Op.bytesLess y.1.data.toList x.1.data.toList=false):MgP k A B (L++[(x.1,canonN (nvl x.2+nvl y.2))]) a b:=by
 obtain ⟨h1,h2,h3,h4,h5⟩:=h;refine ⟨by simp at h1 ⊢;omega,?_,fits_snoc h3 (hs _ (h4 _ List.mem_cons_self) _ (h5 _ List.mem_cons_self)),fun z hz=>h4 z (List.mem_cons_of_mem _ hz),fun z hz=>h5 z (List.mem_cons_of_mem _ hz)⟩;rw [← h2,List.map_append,List.append_assoc]
 congr 1
 show [tdv (x.1,canonN (nvl x.2+nvl y.2))]++merge2 (a.map tdv) (b.map tdv)=merge2 (tdv x::a.map tdv) (tdv y::b.map tdv)
 conv=>rhs;rw [merge2,if_neg (show ¬ Op.bytesLess (tdv x).1 (tdv y).1=true by rw [show Op.bytesLess (tdv x).1 (tdv y).1=false from hl];decide),if_neg (show ¬ Op.bytesLess (tdv y).1 (tdv x).1=true by rw [show Op.bytesLess (tdv y).1 (tdv x).1=false from hr];decide)]
 show (x.1.data.toList,nvl (canonN (nvl x.2+nvl y.2)))::_=_;rw [nvl_canon];rfl
theorem MgP.doneA (h:MgP k A B L [] b) (hB:∀ x∈B,fitsN k x.2):(L++b).map tdv=merge2 (A.map tdv) (B.map tdv)∧∀ x∈L++b,fitsN k x.2:=by
 obtain ⟨-,h2,h3,-,h5⟩:=h;refine ⟨?_,fun z hz=>?_⟩
 ·rw [← h2,List.map_append]
  congr 1
  rw [List.map_nil,merge2]
 ·rcases List.mem_append.1 hz with hz|hz
  ·exact h3 z hz
  ·exact hB z (h5 z hz)
theorem MgP.doneB (h:MgP k A B L a []) (hA:∀ x∈A,fitsN k x.2):(L++a).map tdv=merge2 (A.map tdv) (B.map tdv)∧∀ x∈L++a,fitsN k x.2:=by
 obtain ⟨-,h2,h3,h4,-⟩:=h;refine ⟨?_,fun z hz=>?_⟩
 ·rw [← h2,List.map_append]
  congr 1
  rw [List.map_nil,merge2_nil]
 ·rcases List.mem_append.1 hz with hz|hz
  ·exact h3 z hz
  ·exact hA z (h4 z hz)
end
section
variable {w w' : World} {p0 p1 p2 p3 p4 p5 p6 p7 : Addr} {x0 x1 x2 x3 x4 x5 x6 x7 : Value}
theorem h_c8 (h:(w.cell? p0=some x0∧w.cell? p1=some x1∧w.cell? p2=some x2∧w.cell? p3=some x3)∧(w.cell? p4=some x4∧w.cell? p5=some x5∧w.cell? p6=some x6∧w.cell? p7=some x7)) (hq:Below w.heap.size w w'):(w'.cell? p0=some x0∧w'.cell? p1=some x1∧w'.cell? p2=some x2∧w'.cell? p3=some x3)∧(w'.cell? p4=some x4∧w'.cell? p5=some x5∧w'.cell? p6=some x6∧w'.cell? p7=some x7):=
 ⟨⟨cell_keep hq h.1.1,cell_keep hq h.1.2.1,cell_keep hq h.1.2.2.1,cell_keep hq h.1.2.2.2⟩,cell_keep hq h.2.1,cell_keep hq h.2.2.1,cell_keep hq h.2.2.2.1,cell_keep hq h.2.2.2.2⟩
theorem a_c8 {o:Obj} (h:(w.cell? p0=some x0∧w.cell? p1=some x1∧w.cell? p2=some x2∧w.cell? p3=some x3)∧(w.cell? p4=some x4∧w.cell? p5=some x5∧w.cell? p6=some x6∧w.cell? p7=some x7)):((w.alloc o).cell? p0=some x0∧(w.alloc o).cell? p1=some x1∧(w.alloc o).cell? p2=some x2∧(w.alloc o).cell? p3=some x3)∧((w.alloc o).cell? p4=some x4∧(w.alloc o).cell? p5=some x5∧(w.alloc o).cell? p6=some x6∧(w.alloc o).cell? p7=some x7):=h_c8 h ((Below.refl _ _).alloc (Nat.le_refl _) _)
end
theorem tat_none {w:World} {q:Option Addr} {n:Nat} {l:List TV} (hl:l.length=n-1) (hc:n≤1):TAt w q l:=by
 have e:l=[]:=List.eq_nil_of_length_eq_zero (by omega);rw [e];exact TAt.nil _ _
def MgI (w wr:World) (k:Nat) (A B:List TV) (va vb vl:Value) (n m:Nat):Prop:=
 ∃ (a b L:List TV) (ad bd:Option Addr) (ca cb:Nat),va=.slice ad n ca∧vb=.slice bd m cb∧a.length=n∧b.length=m∧n≤ca∧m≤cb∧TAt w ad a∧TAt w bd b∧wr.ownsRow w.heap.size 58 4 vl L.length (tcells L)∧Below w.heap.size w wr∧MgP k A B L a b
theorem merged_any (w:World) (k:Nat) (_hk2:k≤5000) (ad bd:Option Addr) (ca cb n m:Nat) (A B:List TV) (hA:A.length=n) (hB:B.length=m) (hca:n≤ca) (hcb:m≤cb) (hmax:n+m≤10000) (hAt:TAt w ad A) (hBt:TAt w bd B) (hAf:∀ x∈A,fitsN k x.2) (hBf:∀ x∈B,fitsN k x.2)
  (hs:∀ x∈A,∀ y∈B,fitsN k (canonN (nvl x.2+nvl y.2)))
  (hT:TogC k) :
  Calls Tryz.prog 88 #[.slice ad n ca,.slice bd m cb,.func (.func 61) #[] #[],.func (.func 62) #[] #[]] w
   (fun e w'=>RowOut w w' k e (merge2 (A.map tdv) (B.map tdv))):=by
 obtain ⟨W1,hmk,hown,hgr⟩:=make_terms w w.heap.size (n+m) ((n:Int)+m) (by omega) (by omega) (Nat.le_refl _);have hb1:Below w.heap.size w W1:=Below.grown (Below.refl _ _) hgr (Nat.le_refl _) (by simp);have hI:MgI w W1 k A B (.slice ad n ca) (.slice bd m cb) (.slice (some ⟨w.heap.size,0,none⟩) 0 (n+m)) n m:=⟨A,B,[],ad,bd,ca,cb,rfl,rfl,hA,hB,hca,hcb,hAt,hBt,hown,hb1,by simp,rfl,fun x h=>by simp at h,fun _ h=>h,fun _ h=>h⟩;have HH:=Lib.hid (And.intro hAf (And.intro hBf (And.intro hs (And.intro hT (show A.length+B.length≤10000 by omega)))));clear hAf hBf hs hT hA hB hAt hBt;go_enter Tryz.func88,Tryz.ntmps88;go_wp2
 go_loopw [0,1,9] (fun va vb vl wr=>∃ n m:Nat,MgI w wr k A B va vb vl n m) (fun va vb _ _=>lenOf va+lenOf vb)
 case atStart=>exact ⟨n,m,hI⟩
 case round =>
  clear hI hb1 hown hmk hgr hmax hca hcb;obtain ⟨n,m,a,b,L,ad',bd',ca',cb',rfl,rfl,hna,hmb,hca',hcb',hAa,hBb,hown',hbw,hp⟩:=hrel;have hlen:=hp.1;have hAB:=HH.out.2.2.2.2;have hLn:L.length+n+m≤10000:=by rw [← hna,← hmb];omega
  cases a with
  | nil =>
   obtain rfl:n=0:=hna.symm;have hfin:=Lib.hid (hp.doneA HH.out.2.1);clear hp;go_wp2_with (first|(at_builtin;refine wpList_append_tat rfl (.tmp 73) (.tmp 74) rfl rfl hown' hbw.size rfl (TAt.nil _ _) rfl (by omega) ?_));intro v1 X1 ho1 hg1;have hb2:Below w.heap.size w X1:=hbw.grown hg1 hbw.size (fun g hg=>(hown'.lt g hg).1);go_wp2_with (first|(at_builtin;refine wpList_append_tat rfl (.tmp 75) (.tmp 76) rfl rfl ho1 hb2.size rfl (hBb.below hb2) hmb (by omega) ?_));intro v2 X2 ho2 hg2;have hb3:Below w.heap.size w X2:=hb2.grown hg2 hb2.size (fun g hg=>(ho1.lt g hg).1);have ho3:X2.ownsRow w.heap.size 58 4 v2 (L++b).length (tcells (L++b)):=by
    rw [tcells_app,List.length_append,hmb];simpa [tcells] using ho2
   obtain ⟨od,oc,rfl,hoc,hot⟩:=own_tat rfl ho3;clear ho1 ho2 ho3 hg1 hg2 hown' hbw;go_wp2;go_ret;exact ⟨_,_,L++b,rfl,hoc,hot,hfin.out.1,hfin.out.2,hb3⟩
  | cons x a =>
   have hn0:0<n:=by rw [← hna];simp
   cases b with
   | nil =>
    obtain rfl:m=0:=hmb.symm;have hfin:=Lib.hid (hp.doneB HH.out.1);clear hp;go_wp2_with (first|(at_builtin;refine wpList_append_tat rfl (.tmp 73) (.tmp 74) rfl rfl hown' hbw.size rfl (hAa.below hbw) hna (by omega) ?_));intro v1 X1 ho1 hg1;have hb2:Below w.heap.size w X1:=hbw.grown hg1 hbw.size (fun g hg=>(hown'.lt g hg).1);go_wp2_with (first|(at_builtin;refine wpList_append_tat rfl (.tmp 75) (.tmp 76) rfl rfl ho1 hb2.size rfl (TAt.nil _ _) rfl (by omega) ?_));intro v2 X2 ho2 hg2;have hb3:Below w.heap.size w X2:=hb2.grown hg2 hb2.size (fun g hg=>(ho1.lt g hg).1);have ho3:X2.ownsRow w.heap.size 58 4 v2 (L++x::a).length (tcells (L++x::a)):=by
     rw [tcells_app,List.length_append,hna];simpa [tcells] using ho2
    obtain ⟨od,oc,rfl,hoc,hot⟩:=own_tat rfl ho3;clear ho1 ho2 ho3 hg1 hg2 hown' hbw;go_wp2;go_ret;exact ⟨_,_,L++x::a,rfl,hoc,hot,hfin.out.1,hfin.out.2,hb3⟩
   | cons y b =>
    have hm0:0<m:=by rw [← hmb];simp
    have hn1:(1:Int)≤n:=by omega
    have hm1:(1:Int)≤m:=by omega
    have hla1:a.length=n-1:=by rw [← hna];simp
    have hlb1:b.length=m-1:=by rw [← hmb];simp
    obtain ⟨la,oa,rfl,hla,c0,c1,c2,c3⟩:=hAa 0 (by simp);obtain ⟨lb,ob,rfl,hlb,d0,d1,d2,d3⟩:=hBb 0 (by simp);simp only [List.getElem_cons_zero,Nat.zero_mul,Nat.add_zero] at c0 c1 c2 c3 d0 d1 d2 d3;have hA1:=hAa.drop 1;have hB1:=hBb.drop 1;obtain ⟨xt,xm,xs,xd⟩:=x;obtain ⟨yt,ym,ys,yd⟩:=y;simp only [List.drop_succ_cons,List.drop_zero,Nat.one_mul] at c0 c1 c2 c3 d0 d1 d2 d3 hA1 hB1;have hin:(wr.drew.cell? ⟨la,oa,none⟩=some (.string xt)∧wr.drew.cell? ⟨la,oa+1,none⟩=some (.bool xm)∧wr.drew.cell? ⟨la,oa+2,none⟩=some (.string xs)∧wr.drew.cell? ⟨la,oa+3,none⟩=some (.int .i64 xd))∧(wr.drew.cell? ⟨lb,ob,none⟩=some (.string yt)∧wr.drew.cell? ⟨lb,ob+1,none⟩=some (.bool ym)∧wr.drew.cell? ⟨lb,ob+2,none⟩=some (.string ys)∧wr.drew.cell? ⟨lb,ob+3,none⟩=some (.int .i64 yd)):=⟨⟨cell_keep hbw.drew c0,cell_keep hbw.drew c1,cell_keep hbw.drew c2,cell_keep hbw.drew c3⟩,cell_keep hbw.drew d0,cell_keep hbw.drew d1,cell_keep hbw.drew d2,cell_keep hbw.drew d3⟩;have hbd:Below w.heap.size w wr.drew:=hbw.drew;have hlow:=lower_any wr.drew (xt,xm,xs,xd) (yt,ym,ys,yd);simp only at hlow;go_wp2
    go_region_held3 (fun w'=>(w'.cell? ⟨la,oa,none⟩=some (.string xt)∧w'.cell? ⟨la,oa+1,none⟩=some (.bool xm)∧w'.cell? ⟨la,oa+2,none⟩=some (.string xs)∧w'.cell? ⟨la,oa+3,none⟩=some (.int .i64 xd))∧(w'.cell? ⟨lb,ob,none⟩=some (.string yt)∧w'.cell? ⟨lb,ob+1,none⟩=some (.bool ym)∧w'.cell? ⟨lb,ob+2,none⟩=some (.string ys)∧w'.cell? ⟨lb,ob+3,none⟩=some (.int .i64 yd)))
     (first|assumption|exact h_c8 (by assumption) (by assumption))
     (first|(go_at_call 61;refine hlow.mono ?_;rintro e V ⟨rfl,hq⟩;have hb2:=below_next hbd hq))
    have hown2:V.drew.ownsRow w.heap.size 58 4 u9 L.length (tcells L):=ownsRow_below hown' (below_next (Below.refl _ _).drew hq).drew;have hbV:Below w.heap.size w V.drew:=hb2.drew;have hin2:=h_c8 (h_c8 hin hq) (Below.refl _ _).drew;clear hlow hq hown' hbw hbd hin hb2
    cases hl:Op.bytesLess xt.data.toList yt.data.toList with
    | true =>
     have hp2:=hp.left HH.out.1 hl;obtain ⟨⟨e0,e1,e2,e3⟩,-⟩:=hin2;have hown3:=hown2.alloc (.cells #[.string xt,.bool xm,.string xs,.int .i64 xd] 58);have hnew:=TAt.new V.drew 58 [(xt,xm,xs,xd)] _ rfl;have hsz:w.heap.size≤(V.drew.alloc (.cells #[.string xt,.bool xm,.string xs,.int .i64 xd] 58)).heap.size:=(hbV.alloc hbV.size _).size;clear hp hown2;go_wp2
     go_region_law (refine step_append_tat rfl (.tmp 48) (.tmp 52) rfl rfl hown3 hsz rfl hnew rfl (by omega) ?_;intro v' W4 hV4 hg4)
     all_goals
      have hb4:Below w.heap.size w W4:=(hbV.alloc hbV.size _).grown hg4 hsz (fun g hg=>(hown3.lt g hg).1);have hI:∀ (q:Option Addr) (c' : Nat),TAt w q a→n-1≤c'→MgI w W4 k A B (.slice q (n-1) c') (.slice (some ⟨lb,ob,none⟩) m cb') v' (n-1) m:=fun q c' hq hc' =>
       ⟨a,(yt,ym,ys,yd)::b,L++[(xt,xm,xs,xd)],_,_,_,_,rfl,rfl,hla1,hmb,hc',hcb',hq,hBb,by rw [tcells_app,List.length_append];exact hV4,hb4,hp2⟩
      clear hV4 hg4 hown3 hnew e0 e1 e2 e3 hsz;go_wp2
      all_goals
       refine ⟨⟨_,_,_,⟨n-1,m,hI _ _ ?_ ?_⟩,rfl,rfl,rfl⟩,?_⟩
       ·first|exact hA1|exact tat_none hla1 (by omega)
       ·omega
       ·simp [lenOf];omega
    | false =>
     have hlow2:=lower_any V.drew (yt,ym,ys,yd) (xt,xm,xs,xd);simp only at hlow2;go_wp2
     go_region_held3 (fun w'=>(w'.cell? ⟨la,oa,none⟩=some (.string xt)∧w'.cell? ⟨la,oa+1,none⟩=some (.bool xm)∧w'.cell? ⟨la,oa+2,none⟩=some (.string xs)∧w'.cell? ⟨la,oa+3,none⟩=some (.int .i64 xd))∧(w'.cell? ⟨lb,ob,none⟩=some (.string yt)∧w'.cell? ⟨lb,ob+1,none⟩=some (.bool ym)∧w'.cell? ⟨lb,ob+2,none⟩=some (.string ys)∧w'.cell? ⟨lb,ob+3,none⟩=some (.int .i64 yd)))
      (first|assumption|exact h_c8 (by assumption) (by assumption))
      (first|(go_at_call 61;refine hlow2.mono ?_;rintro e V2 ⟨rfl,hq⟩;have hb2:=below_next hbV hq))
     have hown4:V2.drew.ownsRow w.heap.size 58 4 u9 L.length (tcells L):=ownsRow_below hown2 (hq.drew);have hbV2:Below w.heap.size w V2.drew:=hb2.drew;have hin3:=h_c8 (h_c8 hin2 hq) (Below.refl _ _).drew;clear hlow2 hq hown2 hbV hin2 hb2
     cases hr:Op.bytesLess yt.data.toList xt.data.toList with
     | true =>
      have hp2:=hp.right HH.out.2.1 hl hr;obtain ⟨-,⟨e0,e1,e2,e3⟩⟩:=hin3;have hown3:=hown4.alloc (.cells #[.string yt,.bool ym,.string ys,.int .i64 yd] 58);have hnew:=TAt.new V2.drew 58 [(yt,ym,ys,yd)] _ rfl;have hsz:w.heap.size≤(V2.drew.alloc (.cells #[.string yt,.bool ym,.string ys,.int .i64 yd] 58)).heap.size:=(hbV2.alloc hbV2.size _).size;clear hp hown4;go_wp2
      go_region_law (refine step_append_tat rfl (.tmp 65) (.tmp 69) rfl rfl hown3 hsz rfl hnew rfl (by omega) ?_;intro v' W4 hV4 hg4)
      all_goals
       have hb4:Below w.heap.size w W4:=(hbV2.alloc hbV2.size _).grown hg4 hsz (fun g hg=>(hown3.lt g hg).1);have hI:∀ (q:Option Addr) (c' : Nat),TAt w q b→m-1≤c'→MgI w W4 k A B (.slice (some ⟨la,oa,none⟩) n ca') (.slice q (m-1) c') v' n (m-1):=fun q c' hq hc' =>
        ⟨(xt,xm,xs,xd)::a,b,L++[(yt,ym,ys,yd)],_,_,_,_,rfl,rfl,hna,hlb1,hca',hc',hAa,hq,by rw [tcells_app,List.length_append];exact hV4,hb4,hp2⟩
       clear hV4 hg4 hown3 hnew e0 e1 e2 e3 hsz;go_wp2
       all_goals
        refine ⟨⟨_,_,_,⟨n,m-1,hI _ _ ?_ ?_⟩,rfl,rfl,rfl⟩,?_⟩
        ·first|exact hB1|exact tat_none hlb1 (by omega)
        ·omega
        ·simp [lenOf];omega
     | false =>
      have hp2:=hp.both HH.out.2.2.1 hl hr;have hxA:fitsN k (xm,xs,xd):=HH.out.1 _ (hp.2.2.2.1 _ List.mem_cons_self);have hyB:fitsN k (ym,ys,yd):=HH.out.2.1 _ (hp.2.2.2.2 _ List.mem_cons_self);have htog:=HH.out.2.2.2.1 V2.drew (xt,xm,xs,xd) (yt,ym,ys,yd) hxA hyB _ _ _ (canonN_df _);generalize canonN (nvl (xt,xm,xs,xd).2+nvl (yt,ym,ys,yd).2)=zz at *;obtain ⟨zm,zs,zd⟩:=zz;simp only at htog hp2;have hcell:=hin3.1.1;obtain ⟨⟨e0,e1,e2,e3⟩,⟨e4,e5,e6,e7⟩⟩:=hin3;clear hp hcell;go_wp2
      go_region_law (first
       | (refine step_append_tat rfl (.tmp 24) (.tmp 33) rfl rfl hown5 hsz rfl hnew rfl (by omega) ?_;intro v' W4 hV4 hg4)
       | (go_simp;go_at_call 62;refine htog.mono ?_;rintro e V3 ⟨rfl,hq3⟩;have hbV3:=below_next hbV2 hq3;have hown5:=(ownsRow_below hown4 hq3).alloc (.cells #[.string xt,.bool zm,.string zs,.int .i64 zd] 58);have hnew:=TAt.new V3 58 [(xt,zm,zs,zd)] _ rfl;have hsz:w.heap.size≤(V3.alloc (.cells #[.string xt,.bool zm,.string zs,.int .i64 zd] 58)).heap.size:=(hbV3.alloc hbV3.size _).size))
      all_goals
       have hb4:Below w.heap.size w W4:=(hbV3.alloc hbV3.size _).grown hg4 hsz (fun g hg=>(hown5.lt g hg).1);have hI:∀ (q r:Option Addr) (c' d' : Nat),TAt w q a→TAt w r b→n-1≤c'→m-1≤d'→MgI w W4 k A B (.slice q (n-1) c') (.slice r (m-1) d') v' (n-1) (m-1):=fun q r c' d' hq hr hc' hd' =>
        ⟨a,b,L++[(xt,zm,zs,zd)],_,_,_,_,rfl,rfl,hla1,hlb1,hc',hd',hq,hr,by rw [tcells_app,List.length_append];exact hV4,hb4,hp2⟩
       clear hV4 hg4 hown5 hnew e0 e1 e2 e3 e4 e5 e6 e7 hsz hbV3 hq3;go_wp2
       all_goals
        refine ⟨⟨_,_,_,⟨n-1,m-1,hI _ _ _ _ ?_ ?_ ?_ ?_⟩,rfl,rfl,rfl⟩,?_⟩
        ·first|exact hA1|exact tat_none hla1 (by omega)
        ·first|exact hB1|exact tat_none hlb1 (by omega)
        ·omega
        ·omega
        ·simp [lenOf];omega
end Go.Proofs.YtemedphcafgolaaGreatDoor
