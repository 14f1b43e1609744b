/- Package digits: spread, walked. -/
import Derived.Test.YtiddgplapodleaaGreatDoorAb
import Derived.Test.YtiddgplapodleaaGreatDoorDScale
import Derived.Test.YtiddgplapodleaaGreatDoorDRef1
import Derived.Test.YtiddgplapodleaaGreatDoorWSmall
import Derived.Test.YtiddgplapodleaaGreatDoorShelf2
import Derived.Lib.AppendStr
import Derived.Lib.AppendIntMem
namespace Go.Proofs.YtiddgplapodleaaGreatDoor
set_option maxRecDepth 100000
set_option maxHeartbeats 4000000
open Go.RowKit Go.Shelf Go.Lib
theorem tab_below {w0 w:World} {nm:String} {k:IntKind} {zs:List Int} (h:TabIs Tryz.prog w0 nm k zs) (hB:Below w0.heap.size w0 w):TabIs Tryz.prog w nm k zs:=by
 unfold TabIs World.var? at *
 cases hg:Tryz.prog.globalNamed nm with
 | none=>rw [hg] at h;cases h
 | some g =>
  rw [hg] at h;simp only [Option.bind_some] at h ⊢;have hlt:g<w0.heap.size:=by
   rcases Nat.lt_or_ge g w0.heap.size with h1|h1
   ·exact h1
   ·rw [Array.getElem?_eq_none h1] at h
    cases h
  rw [hB.block g hlt];exact h
def bc (l:List UInt8):List Value:=l.map fun b=>.int .u8 b.toNat
theorem bc_app (l m:List UInt8):bc (l++m)=bc l++bc m:=by simp [bc]
theorem kept_below {w w' : World} (h:Below w.heap.size w w'):OthersKept 5 none w w':=by
 intro k o hk _ _;have hlt:k<w.heap.size:=(Array.getElem?_eq_some_iff.1 hk).1;rw [h.block k hlt];exact hk
theorem full_text (m:Nat) (h:m<10 ^ 18):∃ t p:ByteArray,(⟨(itoa (1000000000000000000+(m:Int))).toArray⟩:ByteArray)=t∧t.size=19∧t.extract 1 19=p∧p.size=18∧strCells p=bc (decP 18 m):=by
 have e:itoa (1000000000000000000+(m:Int))=decDigits (10 ^ 18+m):=by
  unfold itoa;rw [if_neg (by omega)]
  congr 1 <;> omega
 have hl:=decP_length 18 m;refine ⟨_,⟨(decP 18 m).toArray⟩,rfl,?_,?_,?_,rfl⟩
 ·rw [e,decDigits_full 18 m h];show (49::decP 18 m).toArray.size=19;rw [List.size_toArray,List.length_cons,hl]
 ·rw [e,decDigits_full 18 m h];refine ba_ext ?_;rw [ByteArray.data_extract];simp;exact List.take_of_length_le (by omega)
 ·show (decP 18 m).toArray.size=18;rw [List.size_toArray,hl]
def SPR (w0 w:World) (out:List UInt8) (e:Ending) (w' : World):Prop:=
 ∃ v',e=.returned v'∧w'.ownsRow w0.heap.size 5 1 v' out.length (bc out)∧Below w0.heap.size w0 w'∧OthersKept 5 none w w'
theorem spread_none (w0 w:World) (htab:TabIs Tryz.prog w0 "internal/strconv.uint64pow10" .u64 pow10Tab) (hw:Below w0.heap.size w0 w) (v:Value) (bs:List UInt8) (hmax:bs.length≤1000000) (hrow:w.ownsRow w0.heap.size 5 1 v bs.length (bc bs))
  (s:ByteArray) (hs:s.size≤1000) (hlt:num s<10 ^ 18) (ad:Option Addr) (c:Nat) :
  Calls Tryz.prog 36 #[v,wi false s,.slice ad 0 c] w (SPR w0 w (bs++decP 18 (num s))):=by
 obtain ⟨i0,hi0,hz0,hz1,hz2⟩:=info_parts info8;obtain ⟨m,hm⟩:∃ m,num s=m:=⟨_,rfl⟩;rw [hm] at hlt ⊢;obtain ⟨t,p,ht,hts,hex,hps,hcp⟩:=full_text m hlt;have n1:bs.length+p.size≤maxLen:=by rw [hps];unfold maxLen;omega
 have n2:bs.length+p.size≤140737488355328:=by rw [hps];omega
 have hm2:(m:Int)<1000000000000000000:=by omega
 obtain ⟨hx,hok⟩:=small_is (z:=wv false s) (by rw [wv_false];omega);rw [wv_false,hm] at hx;rw [wv_false,hm] at hok;have hwr:IntKind.i64.wrap (1000000000000000000+(m:Int))=1000000000000000000+(m:Int):=by rw [IntKind.wrap_i64];omega
 have HX:=Lib.hid (And.intro hm (And.intro hx (And.intro hok (And.intro ht hcp))));have N:=Lib.hid (And.intro n1 n2);clear hx hok hm ht hlt hcp n1 n2;unfold wi;go_enter Tryz.func36,Tryz.ntmps36;go_wp2_with fail;have hw1:=hw.alloc hw.size (.cells #[.bool false,.string s] 26);have hrow1:=hrow.alloc (.cells #[.bool false,.string s] 26);have hk1:OthersKept 5 none w (w.alloc (.cells #[.bool false,.string s] 26)):=kept_below ((Below.refl _ _).alloc (Nat.le_refl _) _);generalize w.alloc (.cells #[.bool false,.string s] 26)=W0 at *;refine (wsmall_any _ false s (by omega) m true (by rw [wv_false,HX.out.1];exact HX.out.2.1) (by rw [wv_false,HX.out.1];exact HX.out.2.2.1)).mono ?_;rintro e W1 ⟨rfl,hq⟩;replace hw1:=below_next hw1 hq;replace hrow1:=ownsRow_below hrow1 hq;replace hk1:=hk1.trans (kept_below hq);clear hq hrow hw;go_wp2_with fail;refine (Tryz.strconv_FormatInt_10 (1000000000000000000+(m:Int)) (by omega) (by omega) _ (tab_below htab hw1)).mono ?_;rintro e w' ⟨rfl,k,os,rfl⟩;rw [HX.out.2.2.2.1];have hq:=below_grow W1.heap.size W1 (Nat.le_refl _) k os;replace hw1:=below_next hw1 hq;replace hrow1:=ownsRow_below hrow1 hq;replace hk1:=hk1.trans (kept_below hq);generalize Go.Sort.grow (W1.drewN k) os=W2 at *;clear hq;go_wp2_with (first|(at_builtin;refine wpList_append_own_string _ rfl (.tmp 21) (.tmp 25) 65 9 rfl w0.heap.size 5 i0 Tryz.underlying65 Tryz.underlying9 hi0 hz0 hz1 hz2 v bs.length (bc bs) rfl hrow1 p rfl N.out.1 N.out.2 hw1.size ?_));intro v' w1 hown' hgrow _
 have hrb:∀ g,v.ownBlock=some g→∃ c fz,W2.heap[g]?=some (.cells c 5 fz):=by
  intro g hg
  rcases hrow1.2 with ⟨rfl,_⟩|⟨g',cap,cur,rfl,_,hh,_⟩
  ·cases hg
  ·simp only [Value.ownBlock,Option.some.injEq] at hg;subst hg;exact ⟨_,_,hh⟩
 have hk2:=hk1.grown hgrow hrb;have hw2:=hw1.grown hgrow hw1.size (fun g hg=>(hrow1.lt g hg).1);have hout:w1.ownsRow w0.heap.size 5 1 v' (bs++decP 18 m).length (bc (bs++decP 18 m)):=by
  rw [bc_app,← HX.out.2.2.2.2,List.length_append,decP_length];exact hown'
 have HO:=Lib.hid (And.intro hout (And.intro hw2 hk2));clear hown' hgrow hrb hk2 hw2 hout hrow1 hk1;go_wp2;go_ret;exact ⟨v',rfl,HO.out.1,HO.out.2.1,HO.out.2.2⟩
theorem heldx {W:World} {b p q r:Nat} {x y u v:Value} (h:W.cell? ⟨b,p,none⟩=some x∧W.cell? ⟨b,q,none⟩=some y) (hr:b≠r):((W.setCell ⟨r,0,none⟩ u).setCell ⟨r,1,none⟩ v).cell? ⟨b,p,none⟩=some x∧((W.setCell ⟨r,0,none⟩ u).setCell ⟨r,1,none⟩ v).cell? ⟨b,q,none⟩=some y:=by
 have hk:((W.setCell ⟨r,0,none⟩ u).setCell ⟨r,1,none⟩ v).heap[b]?=W.heap[b]?:=by
  rw [Below.heap_setCell _ _ _ _ hr,Below.heap_setCell _ _ _ _ hr]
 exact ⟨(World.cell?_of_block (w:=W) (a:=⟨b,p,none⟩) hk).trans h.1,(World.cell?_of_block (w:=W) (a:=⟨b,q,none⟩) hk).trans h.2⟩
theorem abc2 {w W:World} {b0 p0 q0 b1 p1 q1:Nat} {x0 y0 x1 y1:Value} {o:Obj} (h:Below w.heap.size w W∧(W.cell? ⟨b0,p0,none⟩=some x0∧W.cell? ⟨b0,q0,none⟩=some y0)∧(W.cell? ⟨b1,p1,none⟩=some x1∧W.cell? ⟨b1,q1,none⟩=some y1)):Below w.heap.size w (W.alloc o)∧((W.alloc o).cell? ⟨b0,p0,none⟩=some x0∧(W.alloc o).cell? ⟨b0,q0,none⟩=some y0)∧((W.alloc o).cell? ⟨b1,p1,none⟩=some x1∧(W.alloc o).cell? ⟨b1,q1,none⟩=some y1):=
 ⟨h.1.alloc h.1.size o,⟨cell_past h.2.1.1 o,cell_past h.2.1.2 o⟩,cell_past h.2.2.1 o,cell_past h.2.2.2 o⟩
theorem sbc2 {w W:World} {b0 p0 q0 b1 p1 q1 r:Nat} {x0 y0 x1 y1 u v:Value} (h:Below w.heap.size w W∧(W.cell? ⟨b0,p0,none⟩=some x0∧W.cell? ⟨b0,q0,none⟩=some y0)∧(W.cell? ⟨b1,p1,none⟩=some x1∧W.cell? ⟨b1,q1,none⟩=some y1)) (h0:w.heap.size≤r) (hr:b0≠r∧b1≠r):Below w.heap.size w ((W.setCell ⟨r,0,none⟩ u).setCell ⟨r,1,none⟩ v)∧(((W.setCell ⟨r,0,none⟩ u).setCell ⟨r,1,none⟩ v).cell? ⟨b0,p0,none⟩=some x0∧((W.setCell ⟨r,0,none⟩ u).setCell ⟨r,1,none⟩ v).cell? ⟨b0,q0,none⟩=some y0)∧(((W.setCell ⟨r,0,none⟩ u).setCell ⟨r,1,none⟩ v).cell? ⟨b1,p1,none⟩=some x1∧((W.setCell ⟨r,0,none⟩ u).setCell ⟨r,1,none⟩ v).cell? ⟨b1,q1,none⟩=some y1):=
 ⟨below_set2 h.1 h0 _ _ _ _,heldx h.2.1 hr.1,heldx h.2.2 hr.2⟩
theorem Bk.kept {W W' : World} {b:Nat} {cs:Array Value} (h:Bk W b cs) (hk:OthersKept 5 none W W'):Bk W' b cs:=
 hk b _ h (by simp) (fun c fz e=>by injection e with _ e2;cases e2)
theorem keptS {W W' : World} {b d:Nat} {x0 y0 x1 y1:Value} (hk:OthersKept 5 none W W') (h:(W.cell? ⟨b,0,none⟩=some x0∧W.cell? ⟨b,1,none⟩=some y0)∧(W.cell? ⟨d,0,none⟩=some x1∧W.cell? ⟨d,1,none⟩=some y1)∧Bk W b #[x0,y0]∧Bk W d #[x1,y1]) :
  (W'.cell? ⟨b,0,none⟩=some x0∧W'.cell? ⟨b,1,none⟩=some y0)∧(W'.cell? ⟨d,0,none⟩=some x1∧W'.cell? ⟨d,1,none⟩=some y1)∧Bk W' b #[x0,y0]∧Bk W' d #[x1,y1]:=
 ⟨(h.2.2.1.kept hk).cells,(h.2.2.2.kept hk).cells,h.2.2.1.kept hk,h.2.2.2.kept hk⟩
theorem iat_less {w:World} {ad:Option Addr} {n:Nat} (h:IAt w ad (scl (n+1))):IAt w ad (scl n):=by
 intro i hi;rw [scl_len] at hi;have h1:=h i (by rw [scl_len];omega);rw [scl_get] at h1 ⊢;exact h1
def SPH (n:Nat):Prop:=∀ (w0 w:World) (_:TabIs Tryz.prog w0 "internal/strconv.uint64pow10" .u64 pow10Tab) (_:Below w0.heap.size w0 w) (v:Value) (bs:List UInt8) (_:bs.length+18*2 ^ n≤1000000) (_:w.ownsRow w0.heap.size 5 1 v bs.length (bc bs))
  (s:ByteArray) (_:s.size≤1000) (_:num s<sc n) (ad:Option Addr) (c:Nat) (_:n≤c) (_:IAt w0 ad (scl n)) (_:∀ i,i<n→(fb (sc i)).size≤20000),
  Calls Tryz.prog 36 #[v,wi false s,.slice ad n c] w (SPR w0 w (bs++decP (18*2 ^ n) (num s)))
theorem sc_def (n:Nat):sc n=10 ^ (18*2 ^ n):=rfl
theorem spread_step (n:Nat) (hn80:n≤90000) (IH0:SPH n) (w0 x:World) (htab:TabIs Tryz.prog w0 "internal/strconv.uint64pow10" .u64 pow10Tab) (hw:Below w0.heap.size w0 x) (v:Value) (bs:List UInt8) (hmax:bs.length+18*2 ^ (n+1)≤1000000) (hrow:x.ownsRow w0.heap.size 5 1 v bs.length (bc bs))
  (s:ByteArray) (hs:s.size≤1000) (hlt:num s<sc (n+1)) (ad:Option Addr) (c:Nat) (hc:n+1≤c) (hI:IAt w0 ad (scl (n+1))) (hz:∀ i,i<n+1→(fb (sc i)).size≤20000) :
  Calls Tryz.prog 36 #[v,wi false s,.slice ad (n+1) c] x (SPR w0 x (bs++decP (18*2 ^ (n+1)) (num s))):=by
 obtain ⟨lb,lo,rfl,hlb,hc1,hc2⟩:=hI n (by rw [scl_len];omega);rw [scl_get] at hc1 hc2;have hI':=iat_less hI;obtain ⟨D,hD⟩:∃ D,18*2 ^ n=D:=⟨_,rfl⟩;have hDD:18*2 ^ (n+1)=D+D:=by rw [Nat.pow_succ];omega
 rw [hDD] at hmax ⊢;have hpos:=sc_pos n;have hsplit:decP (D+D) (num s)=decP D (num s / sc n)++decP D (num s % sc n):=by
  rw [decP_add,sc_def,hD,← decP_mod D (num s)]
 rw [hsplit];have hh1:num s / sc n<sc n:=by
  rw [sc_succ] at hlt;exact Nat.div_lt_of_lt_mul hlt
 have hl1:num s % sc n<sc n:=Nat.mod_lt _ hpos;obtain ⟨oh,hoh⟩:∃ oh,fb (num s / sc n)=oh:=⟨_,rfl⟩;obtain ⟨ol,hol⟩:∃ ol,fb (num s % sc n)=ol:=⟨_,rfl⟩;obtain ⟨oS,hoS⟩:∃ oS,fb (sc n)=oS:=⟨_,rfl⟩;have nh:num oh=num s / sc n:=by rw [← hoh,num_fb]
 have nl:num ol=num s % sc n:=by rw [← hol,num_fb]
 have nS:num oS=sc n:=by rw [← hoS,num_fb]
 have sh:oh.size≤1000:=by
  rw [← hoh];refine Nat.le_trans (fb_size_le (k:=s.size) (Nat.lt_of_le_of_lt (Nat.div_le_self _ _) (num_lt s))) hs
 have sl:ol.size≤1000:=by
  rw [← hol];refine Nat.le_trans (fb_size_le (k:=s.size) (Nat.lt_of_le_of_lt (Nat.mod_le _ _) (num_lt s))) hs
 have sS:oS.size≤20000:=by rw [← hoS];exact hz n (by omega)
 rw [← nh] at hh1;rw [← nl] at hl1;rw [hoS] at hc2;have d0:wv false oS≠0:=by rw [wv_false,nS];omega
 have d1:wf (wv false s / wv false oS)=wi false oh:=by
  rw [wv_false,wv_false,nS,← hoh,← Int.natCast_ediv];exact wf_nat _
 have d2:wf (wv false s % wv false oS)=wi false ol:=by
  rw [wv_false,wv_false,nS,← hol,← Int.natCast_emod];exact wf_nat _
 rw [← nh,← nl];have m1:bs.length+18*2 ^ n≤1000000:=by omega
 have m2:(bs++decP D (num oh)).length+18*2 ^ n≤1000000:=by rw [List.length_append,decP_length];omega
 have ih:=IH0;unfold SPH at ih;have H1:=fun w (h1:Below w0.heap.size w0 w) (h2:w.ownsRow w0.heap.size 5 1 v bs.length (bc bs))=>ih w0 w htab h1 v bs m1 h2 oh sh hh1 (some ⟨lb,lo,none⟩) c (by omega) hI' (fun i hi=>hz i (by omega));have H2:=fun w v' (h1:Below w0.heap.size w0 w) (h2:w.ownsRow w0.heap.size 5 1 v' (bs++decP D (num oh)).length (bc (bs++decP D (num oh))))=>ih w0 w htab h1 v' (bs++decP D (num oh)) m2 h2 ol sl hl1 (some ⟨lb,lo,none⟩) c (by omega) hI' (fun i hi=>hz i (by omega));rw [hD] at H1 H2;have HD:=Lib.hid (And.intro d0 (And.intro d1 d2));have HH:=Lib.hid (And.intro H1 H2);have hcn:n≤c:=by omega
 clear ih IH0 H1 H2 d0 d1 d2 nh nl nS hoh hol hoS hh1 hl1 hpos hlt hsplit hDD m1 m2 hz hI hI' hmax hD sh sl htab;unfold wi;go_enter Tryz.func36,Tryz.ntmps36;go_wp2_with fail;have hw1:=hw.alloc hw.size (.cells #[.bool false,.string s] 26);have hrow1:=hrow.alloc (.cells #[.bool false,.string s] 26);have hk1:OthersKept 5 none x (x.alloc (.cells #[.bool false,.string s] 26)):=kept_below ((Below.refl _ _).alloc (Nat.le_refl _) _);have hA:=(Bk.new x #[.bool false,.string s]).cells;generalize x.alloc (.cells #[.bool false,.string s] 26)=w at *;generalize x.heap.size=bA at *;replace hc1:w.cell? ⟨lb,lo+n*2,none⟩=some (.bool false):=by rw [hw1.cell hlb];exact hc1
 replace hc2:w.cell? ⟨lb,lo+n*2+1,none⟩=some (.string oS):=by rw [hw1.cell hlb];exact hc2
 have hwr:IntKind.i64.wrap (n:Int)=(n:Int):=by rw [IntKind.wrap_i64];omega
 have hnn:(n:Int)<(n:Int)+1:=by omega
 have hin:(fun w'=>Below w.heap.size w w'∧(w'.cell? ⟨bA,0,none⟩=some (.bool false)∧w'.cell? ⟨bA,1,none⟩=some (.string s))∧(w'.cell? ⟨lb,lo+n*2,none⟩=some (.bool false)∧w'.cell? ⟨lb,lo+n*2+1,none⟩=some (.string oS))) w.drew:=⟨(Below.refl w.heap.size w).drew,hA,hc1,hc2⟩;clear hA hc1 hc2 hrow hw
 refine region_dag (fun w'=>Below w.heap.size w w'∧(w'.cell? ⟨bA,0,none⟩=some (.bool false)∧w'.cell? ⟨bA,1,none⟩=some (.string s))∧(w'.cell? ⟨lb,lo+n*2,none⟩=some (.bool false)∧w'.cell? ⟨lb,lo+n*2+1,none⟩=some (.string oS))) (fun fu li ac Wn=>(fun w'=>Below w.heap.size w w'∧(w'.cell? ⟨bA,0,none⟩=some (.bool false)∧w'.cell? ⟨bA,1,none⟩=some (.string s))∧(w'.cell? ⟨lb,lo+n*2,none⟩=some (.bool false)∧w'.cell? ⟨lb,lo+n*2+1,none⟩=some (.string oS))) Wn∧((fu=15∧li=#[false,false,false,false,false,false,false,false,false,false,false,false,false,false,false]∧ac={tmps:=#[v,.agg #[.bool false,.string s],.slice (some { block:=lb,off:=lo }) (n+1) c,undef,.pointer (some ⟨bA,0,none⟩),undef,.slice none 0 0,undef,undef,.int .i64 ((n:Int)),undef,undef,undef,.slice (some { block:=lb,off:=lo }) (n+1) c,.int .i64 (↑n+1),.bool false,undef,undef,undef,undef,undef,undef,undef,undef,undef,undef,undef,.slice (some { block:=lb,off:=lo }) (n+1) c,.int .i64 (↑n+1),.int .i64 ((n:Int)),undef,undef,undef,undef,undef,undef,undef,undef,undef,undef,undef,undef,undef,undef,undef,undef,undef,undef,undef,undef,undef],defers:=[] })∨(fu=9∧li=#[true,true,true,true,true,true,false,false,false,false,false,false,false,false,false]∧∃ (x31:Value) (x32:Value) (x33:Value) (x34:Value) (x35:Value),ac={tmps:=#[v,.agg #[.bool false,.string s],.slice (some { block:=lb,off:=lo }) (n+1) c,undef,.pointer (some ⟨bA,0,none⟩),undef,.slice none 0 0,undef,undef,.int .i64 ((n:Int)),undef,undef,undef,.slice (some { block:=lb,off:=lo }) (n+1) c,.int .i64 (↑n+1),.bool false,undef,undef,undef,undef,undef,undef,undef,undef,undef,undef,undef,.slice (some { block:=lb,off:=lo }) (n+1) c,.int .i64 (↑n+1),.int .i64 ((n:Int)),undef,x31,x32,x33,x34,x35,.tuple #[.agg #[.bool false,.string oh],.agg #[.bool false,.string ol],.bool true],undef,undef,undef,undef,undef,undef,undef,undef,undef,undef,undef,undef,undef,undef],defers:=[] })∨(fu=9∧li=#[true,true,true,true,true,false,false,false,false,false,true,false,false,false,false]∧∃ (x32:Value) (x33:Value) (x34:Value) (p10:Nat),ac={tmps:=#[v,.agg #[.bool false,.string s],.slice (some { block:=lb,off:=lo }) (n+1) c,undef,.pointer (some ⟨bA,0,none⟩),undef,.slice none 0 0,undef,undef,.int .i64 ((n:Int)),.pointer (some ⟨p10,0,none⟩),undef,undef,.slice (some { block:=lb,off:=lo }) (n+1) c,.int .i64 (↑n+1),.bool false,undef,undef,undef,undef,undef,undef,undef,undef,undef,undef,undef,.slice (some { block:=lb,off:=lo }) (n+1) c,.int .i64 (↑n+1),.int .i64 ((n:Int)),undef,.agg #[.bool false,.string s],x32,x33,x34,.agg #[.bool false,.string oS],undef,undef,undef,undef,undef,undef,undef,undef,undef,undef,undef,undef,undef,undef,undef],defers:=[] }∧Bk Wn p10 #[.bool false,.string ⟨#[]⟩]∧(bA≠p10∧lb≠p10∧w.heap.size≤p10))∨(fu=9∧li=#[true,true,true,true,true,false,false,false,false,false,false,true,false,false,false]∧∃ (x32:Value) (x33:Value) (x34:Value) (p11:Nat),ac={tmps:=#[v,.agg #[.bool false,.string s],.slice (some { block:=lb,off:=lo }) (n+1) c,undef,.pointer (some ⟨bA,0,none⟩),undef,.slice none 0 0,undef,undef,.int .i64 ((n:Int)),undef,.pointer (some ⟨p11,0,none⟩),undef,.slice (some { block:=lb,off:=lo }) (n+1) c,.int .i64 (↑n+1),.bool false,undef,undef,undef,undef,undef,undef,undef,undef,undef,undef,undef,.slice (some { block:=lb,off:=lo }) (n+1) c,.int .i64 (↑n+1),.int .i64 ((n:Int)),undef,.agg #[.bool false,.string s],x32,x33,x34,.agg #[.bool false,.string oS],undef,undef,undef,undef,undef,undef,undef,undef,undef,undef,undef,undef,undef,undef,undef],defers:=[] }∧Bk Wn p11 #[.bool false,.string ⟨#[]⟩]∧(bA≠p11∧lb≠p11∧w.heap.size≤p11))∨(fu=8∧li=#[true,true,true,true,true,true,false,false,false,false,true,false,false,false,false]∧∃ (x31:Value) (x32:Value) (x33:Value) (x34:Value) (x35:Value) (p10:Nat),ac={tmps:=#[v,.agg #[.bool false,.string s],.slice (some { block:=lb,off:=lo }) (n+1) c,undef,.pointer (some ⟨bA,0,none⟩),undef,.slice none 0 0,undef,undef,.int .i64 ((n:Int)),.pointer (some ⟨p10,0,none⟩),undef,undef,.slice (some { block:=lb,off:=lo }) (n+1) c,.int .i64 (↑n+1),.bool false,undef,undef,undef,undef,undef,undef,undef,undef,undef,undef,undef,.slice (some { block:=lb,off:=lo }) (n+1) c,.int .i64 (↑n+1),.int .i64 ((n:Int)),undef,x31,x32,x33,x34,x35,.tuple #[.agg #[.bool false,.string oh],.agg #[.bool false,.string ol],.bool true],undef,undef,undef,undef,undef,undef,undef,undef,undef,undef,undef,undef,undef,undef],defers:=[] }∧Bk Wn p10 #[.bool false,.string ⟨#[]⟩]∧(bA≠p10∧lb≠p10∧w.heap.size≤p10))∨(fu=8∧li=#[true,true,true,true,true,true,false,false,false,false,false,true,false,false,false]∧∃ (x31:Value) (x32:Value) (x33:Value) (x34:Value) (x35:Value) (p11:Nat),ac={tmps:=#[v,.agg #[.bool false,.string s],.slice (some { block:=lb,off:=lo }) (n+1) c,undef,.pointer (some ⟨bA,0,none⟩),undef,.slice none 0 0,undef,undef,.int .i64 ((n:Int)),undef,.pointer (some ⟨p11,0,none⟩),undef,.slice (some { block:=lb,off:=lo }) (n+1) c,.int .i64 (↑n+1),.bool false,undef,undef,undef,undef,undef,undef,undef,undef,undef,undef,undef,.slice (some { block:=lb,off:=lo }) (n+1) c,.int .i64 (↑n+1),.int .i64 ((n:Int)),undef,x31,x32,x33,x34,x35,.tuple #[.agg #[.bool false,.string oh],.agg #[.bool false,.string ol],.bool true],undef,undef,undef,undef,undef,undef,undef,undef,undef,undef,undef,undef,undef,undef],defers:=[] }∧Bk Wn p11 #[.bool false,.string ⟨#[]⟩]∧(bA≠p11∧lb≠p11∧w.heap.size≤p11))∨(fu=8∧li=#[true,true,true,true,true,false,false,false,false,false,true,true,false,false,false]∧∃ (x32:Value) (x33:Value) (x34:Value) (p10:Nat) (p11:Nat),ac={tmps:=#[v,.agg #[.bool false,.string s],.slice (some { block:=lb,off:=lo }) (n+1) c,undef,.pointer (some ⟨bA,0,none⟩),undef,.slice none 0 0,undef,undef,.int .i64 ((n:Int)),.pointer (some ⟨p10,0,none⟩),.pointer (some ⟨p11,0,none⟩),undef,.slice (some { block:=lb,off:=lo }) (n+1) c,.int .i64 (↑n+1),.bool false,undef,undef,undef,undef,undef,undef,undef,undef,undef,undef,undef,.slice (some { block:=lb,off:=lo }) (n+1) c,.int .i64 (↑n+1),.int .i64 ((n:Int)),undef,.agg #[.bool false,.string s],x32,x33,x34,.agg #[.bool false,.string oS],undef,undef,undef,undef,undef,undef,undef,undef,undef,undef,undef,undef,undef,undef,undef],defers:=[] }∧Bk Wn p10 #[.bool false,.string ⟨#[]⟩]∧Bk Wn p11 #[.bool false,.string ⟨#[]⟩]∧(bA≠p10∧lb≠p10∧w.heap.size≤p10∧bA≠p11∧lb≠p11∧w.heap.size≤p11∧p10≠p11))∨(fu=7∧li=#[true,true,true,true,true,true,false,false,false,false,true,true,false,false,false]∧∃ (x31:Value) (x32:Value) (x33:Value) (x34:Value) (x35:Value) (p10:Nat) (p11:Nat),ac={tmps:=#[v,.agg #[.bool false,.string s],.slice (some { block:=lb,off:=lo }) (n+1) c,undef,.pointer (some ⟨bA,0,none⟩),undef,.slice none 0 0,undef,undef,.int .i64 ((n:Int)),.pointer (some ⟨p10,0,none⟩),.pointer (some ⟨p11,0,none⟩),undef,.slice (some { block:=lb,off:=lo }) (n+1) c,.int .i64 (↑n+1),.bool false,undef,undef,undef,undef,undef,undef,undef,undef,undef,undef,undef,.slice (some { block:=lb,off:=lo }) (n+1) c,.int .i64 (↑n+1),.int .i64 ((n:Int)),undef,x31,x32,x33,x34,x35,.tuple #[.agg #[.bool false,.string oh],.agg #[.bool false,.string ol],.bool true],undef,undef,undef,undef,undef,undef,undef,undef,undef,undef,undef,undef,undef,undef],defers:=[] }∧Bk Wn p10 #[.bool false,.string ⟨#[]⟩]∧Bk Wn p11 #[.bool false,.string ⟨#[]⟩]∧(bA≠p10∧lb≠p10∧w.heap.size≤p10∧bA≠p11∧lb≠p11∧w.heap.size≤p11∧p10≠p11))∨(fu=4∧li=#[true,true,true,true,true,true,true,true,true,true,true,false,false,false,false]∧∃ (x31:Value) (x32:Value) (x33:Value) (x34:Value) (x35:Value) (x36:Value) (x30:Value) (p10:Nat),ac={tmps:=#[v,.agg #[.bool false,.string s],.slice (some { block:=lb,off:=lo }) (n+1) c,undef,.pointer (some ⟨bA,0,none⟩),undef,.slice none 0 0,undef,undef,.int .i64 ((n:Int)),.pointer (some ⟨p10,0,none⟩),undef,undef,.slice (some { block:=lb,off:=lo }) (n+1) c,.int .i64 (↑n+1),.bool false,undef,undef,undef,undef,undef,undef,undef,undef,undef,undef,undef,.slice (some { block:=lb,off:=lo }) (n+1) c,.int .i64 (↑n+1),.int .i64 ((n:Int)),x30,x31,x32,x33,x34,x35,x36,.agg #[.bool false,.string oh],.agg #[.bool false,.string ol],.bool true,undef,undef,undef,undef,undef,undef,undef,undef,undef,undef,undef],defers:=[] }∧Bk Wn p10 #[.bool false,.string ⟨#[]⟩]∧(bA≠p10∧lb≠p10∧w.heap.size≤p10))∨(fu=4∧li=#[true,true,true,true,true,true,true,true,true,true,false,true,false,false,false]∧∃ (x31:Value) (x32:Value) (x33:Value) (x34:Value) (x35:Value) (x36:Value) (x30:Value) (p11:Nat),ac={tmps:=#[v,.agg #[.bool false,.string s],.slice (some { block:=lb,off:=lo }) (n+1) c,undef,.pointer (some ⟨bA,0,none⟩),undef,.slice none 0 0,undef,undef,.int .i64 ((n:Int)),undef,.pointer (some ⟨p11,0,none⟩),undef,.slice (some { block:=lb,off:=lo }) (n+1) c,.int .i64 (↑n+1),.bool false,undef,undef,undef,undef,undef,undef,undef,undef,undef,undef,undef,.slice (some { block:=lb,off:=lo }) (n+1) c,.int .i64 (↑n+1),.int .i64 ((n:Int)),x30,x31,x32,x33,x34,x35,x36,.agg #[.bool false,.string oh],.agg #[.bool false,.string ol],.bool true,undef,undef,undef,undef,undef,undef,undef,undef,undef,undef,undef],defers:=[] }∧Bk Wn p11 #[.bool false,.string ⟨#[]⟩]∧(bA≠p11∧lb≠p11∧w.heap.size≤p11))∨(fu=3∧li=#[true,true,true,true,true,true,true,true,true,true,true,true,false,false,false]∧∃ (x31:Value) (x32:Value) (x33:Value) (x34:Value) (x35:Value) (x36:Value) (x30:Value) (p10:Nat) (p11:Nat),ac={tmps:=#[v,.agg #[.bool false,.string s],.slice (some { block:=lb,off:=lo }) (n+1) c,undef,.pointer (some ⟨bA,0,none⟩),undef,.slice none 0 0,undef,undef,.int .i64 ((n:Int)),.pointer (some ⟨p10,0,none⟩),.pointer (some ⟨p11,0,none⟩),undef,.slice (some { block:=lb,off:=lo }) (n+1) c,.int .i64 (↑n+1),.bool false,undef,undef,undef,undef,undef,undef,undef,undef,undef,undef,undef,.slice (some { block:=lb,off:=lo }) (n+1) c,.int .i64 (↑n+1),.int .i64 ((n:Int)),x30,x31,x32,x33,x34,x35,x36,.agg #[.bool false,.string oh],.agg #[.bool false,.string ol],.bool true,undef,undef,undef,undef,undef,undef,undef,undef,undef,undef,undef],defers:=[] }∧Bk Wn p10 #[.bool false,.string ⟨#[]⟩]∧Bk Wn p11 #[.bool false,.string ⟨#[]⟩]∧(bA≠p10∧lb≠p10∧w.heap.size≤p10∧bA≠p11∧lb≠p11∧w.heap.size≤p11∧p10≠p11))∨(fu=2∧li=#[true,true,true,true,true,true,true,true,true,true,true,true,true,false,false]∧∃ (x31:Value) (x32:Value) (x33:Value) (x34:Value) (x35:Value) (x36:Value) (x30:Value) (x37:Value) (p10:Nat) (p11:Nat),ac={tmps:=#[v,.agg #[.bool false,.string s],.slice (some { block:=lb,off:=lo }) (n+1) c,undef,.pointer (some ⟨bA,0,none⟩),undef,.slice none 0 0,undef,undef,.int .i64 ((n:Int)),.pointer (some ⟨p10,0,none⟩),.pointer (some ⟨p11,0,none⟩),undef,.slice (some { block:=lb,off:=lo }) (n+1) c,.int .i64 (↑n+1),.bool false,undef,undef,undef,undef,undef,undef,undef,undef,undef,undef,undef,.slice (some { block:=lb,off:=lo }) (n+1) c,.int .i64 (↑n+1),.int .i64 ((n:Int)),x30,x31,x32,x33,x34,x35,x36,x37,.agg #[.bool false,.string ol],.bool true,undef,undef,undef,undef,undef,undef,undef,undef,undef,undef,undef],defers:=[] }∧Bk Wn p10 #[.bool false,.string oh]∧Bk Wn p11 #[.bool false,.string ⟨#[]⟩]∧(bA≠p10∧lb≠p10∧w.heap.size≤p10∧bA≠p11∧lb≠p11∧w.heap.size≤p11∧p10≠p11))∨(fu=1∧li=#[true,true,true,true,true,true,true,true,true,true,true,true,true,true,false]∧∃ (x31:Value) (x32:Value) (x33:Value) (x34:Value) (x35:Value) (x36:Value) (x30:Value) (x37:Value) (x38:Value) (p10:Nat) (p11:Nat),ac={tmps:=#[v,.agg #[.bool false,.string s],.slice (some { block:=lb,off:=lo }) (n+1) c,undef,.pointer (some ⟨bA,0,none⟩),undef,.slice none 0 0,undef,undef,.int .i64 ((n:Int)),.pointer (some ⟨p10,0,none⟩),.pointer (some ⟨p11,0,none⟩),undef,.slice (some { block:=lb,off:=lo }) (n+1) c,.int .i64 (↑n+1),.bool false,undef,undef,undef,undef,undef,undef,undef,undef,undef,undef,undef,.slice (some { block:=lb,off:=lo }) (n+1) c,.int .i64 (↑n+1),.int .i64 ((n:Int)),x30,x31,x32,x33,x34,x35,x36,x37,x38,.bool true,undef,undef,undef,undef,undef,undef,undef,undef,undef,undef,undef],defers:=[] }∧Bk Wn p10 #[.bool false,.string oh]∧Bk Wn p11 #[.bool false,.string ol]∧(bA≠p10∧lb≠p10∧w.heap.size≤p10∧bA≠p11∧lb≠p11∧w.heap.size≤p11∧p10≠p11)))) (by kernel_rfl) ?_ ?_
 ·exact ⟨hin,Or.inl (⟨rfl,rfl,rfl⟩)⟩
 ·clear hin;rintro fu li ac Wn ⟨hS,hI⟩ IH
  rcases hI with ⟨rfl,rfl,rfl⟩|hI
  ·refine dag_take (i:=0) (d:=some 31) (v:=?v0n1) rfl rfl (by kernel_rfl) (by kernel_rfl) (by kernel_rfl) (fun _ _ _ h=>h) (Or.inl ⟨by rfl,?y0n1⟩) hS ?_
   case y0n1=>intro w hSw;(try dsimp only at hSw);go_simp;first|done|with_reducible rfl
   try simp only [Act.put,List.setIfInBounds_toArray,List.set_cons_zero,List.set_cons_succ]
   refine dag_take (i:=1) (d:=some 32) (v:=?v1n2) rfl rfl (by kernel_rfl) (by kernel_rfl) (by kernel_rfl) (fun _ _ _ h=>h) (Or.inl ⟨by rfl,?y1n2⟩) hS ?_
   case y1n2=>intro w hSw;(try dsimp only at hSw);go_simp;first|done|with_reducible rfl
   try simp only [Act.put,List.setIfInBounds_toArray,List.set_cons_zero,List.set_cons_succ]
   refine dag_take (i:=2) (d:=some 33) (v:=?v2n3) rfl rfl (by kernel_rfl) (by kernel_rfl) (by kernel_rfl) (fun _ _ _ h=>h) (Or.inl ⟨by rfl,?y2n3⟩) hS ?_
   case y2n3=>intro w hSw;(try dsimp only at hSw);go_simp;first|done|with_reducible rfl
   try simp only [Act.put,List.setIfInBounds_toArray,List.set_cons_zero,List.set_cons_succ]
   refine dag_take (i:=3) (d:=some 34) (v:=?v3n4) rfl rfl (by kernel_rfl) (by kernel_rfl) (by kernel_rfl) (fun _ _ _ h=>h) (Or.inl ⟨by rfl,?y3n4⟩) hS ?_
   case y3n4=>intro w hSw;(try dsimp only at hSw);go_simp;first|done|with_reducible rfl
   try simp only [Act.put,List.setIfInBounds_toArray,List.set_cons_zero,List.set_cons_succ]
   refine dag_take (i:=4) (d:=some 35) (v:=?v4n5) rfl rfl (by kernel_rfl) (by kernel_rfl) (by kernel_rfl) (fun _ _ _ h=>h) (Or.inl ⟨by rfl,?y4n5⟩) hS ?_
   case y4n5=>intro w hSw;(try dsimp only at hSw);go_simp;first|done|with_reducible rfl
   try simp only [Act.put,List.setIfInBounds_toArray,List.set_cons_zero,List.set_cons_succ]
   refine wpAnyH_ready (rs:=[5,10,11]) (by kernel_rfl) (by simp) ?_;refine AllReadyH.cons rfl (fun Kc hK=>?_) ?_
   ·go_simp;go_fit (wdiv_any _ false false s oS (by omega) (by omega) HD.out.1 false oh HD.out.2.1 false ol HD.out.2.2);rintro e V ⟨rfl,hq⟩;refine hK.out _ _ (hbc2 hq hS) (fun hS'=>?_);exact IH.out _ _ _ _ (by omega) ⟨hS',Or.inr (Or.inl (⟨rfl,by kernel_rfl,_,_,_,_,_,rfl⟩))⟩
   refine AllReadyH.cons rfl (fun Kc hK=>?_) ?_
   ·have hlt:bA<Wn.heap.size∧lb<Wn.heap.size:=⟨World.block_lt_of_cell? _ _ hS.2.1.1,World.block_lt_of_cell? _ _ hS.2.2.1⟩;have hle:=hS.1.size;go_simp;refine hK.out _ _ (abc2 hS) (fun hS'=>?_);exact IH.out _ _ _ _ (by omega) ⟨hS',oR2 (Or.inl (⟨rfl,by kernel_rfl,_,_,_,_,rfl,Bk.new _ _,(by omega)⟩))⟩
   refine AllReadyH.cons rfl (fun Kc hK=>?_) AllReadyH.nil;have hlt:bA<Wn.heap.size∧lb<Wn.heap.size:=⟨World.block_lt_of_cell? _ _ hS.2.1.1,World.block_lt_of_cell? _ _ hS.2.2.1⟩;have hle:=hS.1.size;go_simp;refine hK.out _ _ (abc2 hS) (fun hS'=>?_);exact IH.out _ _ _ _ (by omega) ⟨hS',oR2 (Or.inr (Or.inl (⟨rfl,by kernel_rfl,_,_,_,_,rfl,Bk.new _ _,(by omega)⟩)))⟩
  rcases hI with ⟨rfl,rfl,x31,x32,x33,x34,x35,rfl⟩|hI
  ·refine dag_take (i:=6) (d:=some 30) (v:=?v6n6) rfl rfl (by kernel_rfl) (by kernel_rfl) (by kernel_rfl) (fun _ _ _ h=>h) (Or.inl ⟨by rfl,?y6n6⟩) hS ?_
   case y6n6=>intro w hSw;(try dsimp only at hSw);go_simp;first|done|with_reducible rfl
   try simp only [Act.put,List.setIfInBounds_toArray,List.set_cons_zero,List.set_cons_succ]
   refine dag_take (i:=7) (d:=some 37) (v:=?v7n7) rfl rfl (by kernel_rfl) (by kernel_rfl) (by kernel_rfl) (fun _ _ _ h=>h) (Or.inl ⟨by rfl,?y7n7⟩) hS ?_
   case y7n7=>intro w hSw;(try dsimp only at hSw);go_simp;first|done|with_reducible rfl
   try simp only [Act.put,List.setIfInBounds_toArray,List.set_cons_zero,List.set_cons_succ]
   refine dag_take (i:=8) (d:=some 38) (v:=?v8n8) rfl rfl (by kernel_rfl) (by kernel_rfl) (by kernel_rfl) (fun _ _ _ h=>h) (Or.inl ⟨by rfl,?y8n8⟩) hS ?_
   case y8n8=>intro w hSw;(try dsimp only at hSw);go_simp;first|done|with_reducible rfl
   try simp only [Act.put,List.setIfInBounds_toArray,List.set_cons_zero,List.set_cons_succ]
   refine dag_take (i:=9) (d:=some 39) (v:=?v9n9) rfl rfl (by kernel_rfl) (by kernel_rfl) (by kernel_rfl) (fun _ _ _ h=>h) (Or.inl ⟨by rfl,?y9n9⟩) hS ?_
   case y9n9=>intro w hSw;(try dsimp only at hSw);go_simp;first|done|with_reducible rfl
   try simp only [Act.put,List.setIfInBounds_toArray,List.set_cons_zero,List.set_cons_succ]
   refine wpAnyH_ready (rs:=[10,11]) (by kernel_rfl) (by simp) ?_;refine AllReadyH.cons rfl (fun Kc hK=>?_) ?_
   ·have hlt:bA<Wn.heap.size∧lb<Wn.heap.size:=⟨World.block_lt_of_cell? _ _ hS.2.1.1,World.block_lt_of_cell? _ _ hS.2.2.1⟩;have hle:=hS.1.size;go_simp;refine hK.out _ _ (abc2 hS) (fun hS'=>?_);exact IH.out _ _ _ _ (by omega) ⟨hS',oR8 (Or.inl (⟨rfl,by kernel_rfl,_,_,_,_,_,_,_,_,rfl,Bk.new _ _,(by omega)⟩))⟩
   refine AllReadyH.cons rfl (fun Kc hK=>?_) AllReadyH.nil;have hlt:bA<Wn.heap.size∧lb<Wn.heap.size:=⟨World.block_lt_of_cell? _ _ hS.2.1.1,World.block_lt_of_cell? _ _ hS.2.2.1⟩;have hle:=hS.1.size;go_simp;refine hK.out _ _ (abc2 hS) (fun hS'=>?_);exact IH.out _ _ _ _ (by omega) ⟨hS',oR8 (Or.inr (Or.inl (⟨rfl,by kernel_rfl,_,_,_,_,_,_,_,_,rfl,Bk.new _ _,(by omega)⟩)))⟩
  rcases hI with ⟨rfl,rfl,x32,x33,x34,p10,rfl,hP10,hd⟩|hI
  ·refine wpAnyH_ready (rs:=[5,11]) (by kernel_rfl) (by simp) ?_;refine AllReadyH.cons rfl (fun Kc hK=>?_) ?_
   ·go_simp;go_fit (wdiv_any _ false false s oS (by omega) (by omega) HD.out.1 false oh HD.out.2.1 false ol HD.out.2.2);rintro e V ⟨rfl,hq⟩;refine hK.out _ _ (hbc2 hq hS) (fun hS'=>?_);exact IH.out _ _ _ _ (by omega) ⟨hS',oR4 (Or.inl (⟨rfl,by kernel_rfl,_,_,_,_,_,_,rfl,hP10.below hq,hd⟩))⟩
   refine AllReadyH.cons rfl (fun Kc hK=>?_) AllReadyH.nil;have hlt:bA<Wn.heap.size∧lb<Wn.heap.size∧p10<Wn.heap.size:=⟨World.block_lt_of_cell? _ _ hS.2.1.1,World.block_lt_of_cell? _ _ hS.2.2.1,hP10.lt⟩;have hle:=hS.1.size;go_simp;refine hK.out _ _ (abc2 hS) (fun hS'=>?_);exact IH.out _ _ _ _ (by omega) ⟨hS',oR4 (oR2 (Or.inl (⟨rfl,by kernel_rfl,_,_,_,_,_,rfl,hP10.alloc _,Bk.new _ _,(by omega)⟩)))⟩
  rcases hI with ⟨rfl,rfl,x32,x33,x34,p11,rfl,hP11,hd⟩|hI
  ·refine wpAnyH_ready (rs:=[5,10]) (by kernel_rfl) (by simp) ?_;refine AllReadyH.cons rfl (fun Kc hK=>?_) ?_
   ·go_simp;go_fit (wdiv_any _ false false s oS (by omega) (by omega) HD.out.1 false oh HD.out.2.1 false ol HD.out.2.2);rintro e V ⟨rfl,hq⟩;refine hK.out _ _ (hbc2 hq hS) (fun hS'=>?_);exact IH.out _ _ _ _ (by omega) ⟨hS',oR4 (Or.inr (Or.inl (⟨rfl,by kernel_rfl,_,_,_,_,_,_,rfl,hP11.below hq,hd⟩)))⟩
   refine AllReadyH.cons rfl (fun Kc hK=>?_) AllReadyH.nil;have hlt:bA<Wn.heap.size∧lb<Wn.heap.size∧p11<Wn.heap.size:=⟨World.block_lt_of_cell? _ _ hS.2.1.1,World.block_lt_of_cell? _ _ hS.2.2.1,hP11.lt⟩;have hle:=hS.1.size;go_simp;refine hK.out _ _ (abc2 hS) (fun hS'=>?_);exact IH.out _ _ _ _ (by omega) ⟨hS',oR4 (oR2 (Or.inl (⟨rfl,by kernel_rfl,_,_,_,_,_,rfl,Bk.new _ _,hP11.alloc _,(by omega)⟩)))⟩
  rcases hI with ⟨rfl,rfl,x31,x32,x33,x34,x35,p10,rfl,hP10,hd⟩|hI
  ·refine dag_take (i:=6) (d:=some 30) (v:=?v6n10) rfl rfl (by kernel_rfl) (by kernel_rfl) (by kernel_rfl) (fun _ _ _ h=>h) (Or.inl ⟨by rfl,?y6n10⟩) hS ?_
   case y6n10=>intro w hSw;(try dsimp only at hSw);go_simp;first|done|with_reducible rfl
   try simp only [Act.put,List.setIfInBounds_toArray,List.set_cons_zero,List.set_cons_succ]
   refine dag_take (i:=7) (d:=some 37) (v:=?v7n11) rfl rfl (by kernel_rfl) (by kernel_rfl) (by kernel_rfl) (fun _ _ _ h=>h) (Or.inl ⟨by rfl,?y7n11⟩) hS ?_
   case y7n11=>intro w hSw;(try dsimp only at hSw);go_simp;first|done|with_reducible rfl
   try simp only [Act.put,List.setIfInBounds_toArray,List.set_cons_zero,List.set_cons_succ]
   refine dag_take (i:=8) (d:=some 38) (v:=?v8n12) rfl rfl (by kernel_rfl) (by kernel_rfl) (by kernel_rfl) (fun _ _ _ h=>h) (Or.inl ⟨by rfl,?y8n12⟩) hS ?_
   case y8n12=>intro w hSw;(try dsimp only at hSw);go_simp;first|done|with_reducible rfl
   try simp only [Act.put,List.setIfInBounds_toArray,List.set_cons_zero,List.set_cons_succ]
   refine dag_take (i:=9) (d:=some 39) (v:=?v9n13) rfl rfl (by kernel_rfl) (by kernel_rfl) (by kernel_rfl) (fun _ _ _ h=>h) (Or.inl ⟨by rfl,?y9n13⟩) hS ?_
   case y9n13=>intro w hSw;(try dsimp only at hSw);go_simp;first|done|with_reducible rfl
   try simp only [Act.put,List.setIfInBounds_toArray,List.set_cons_zero,List.set_cons_succ]
   refine wpAnyH_ready (rs:=[11]) (by kernel_rfl) (by simp) ?_;refine AllReadyH.cons rfl (fun Kc hK=>?_) AllReadyH.nil;have hlt:bA<Wn.heap.size∧lb<Wn.heap.size∧p10<Wn.heap.size:=⟨World.block_lt_of_cell? _ _ hS.2.1.1,World.block_lt_of_cell? _ _ hS.2.2.1,hP10.lt⟩;have hle:=hS.1.size;go_simp;refine hK.out _ _ (abc2 hS) (fun hS'=>?_);exact IH.out _ _ _ _ (by omega) ⟨hS',oR8 (oR2 (Or.inl (⟨rfl,by kernel_rfl,_,_,_,_,_,_,_,_,_,rfl,hP10.alloc _,Bk.new _ _,(by omega)⟩)))⟩
  rcases hI with ⟨rfl,rfl,x31,x32,x33,x34,x35,p11,rfl,hP11,hd⟩|hI
  ·refine dag_take (i:=6) (d:=some 30) (v:=?v6n14) rfl rfl (by kernel_rfl) (by kernel_rfl) (by kernel_rfl) (fun _ _ _ h=>h) (Or.inl ⟨by rfl,?y6n14⟩) hS ?_
   case y6n14=>intro w hSw;(try dsimp only at hSw);go_simp;first|done|with_reducible rfl
   try simp only [Act.put,List.setIfInBounds_toArray,List.set_cons_zero,List.set_cons_succ]
   refine dag_take (i:=7) (d:=some 37) (v:=?v7n15) rfl rfl (by kernel_rfl) (by kernel_rfl) (by kernel_rfl) (fun _ _ _ h=>h) (Or.inl ⟨by rfl,?y7n15⟩) hS ?_
   case y7n15=>intro w hSw;(try dsimp only at hSw);go_simp;first|done|with_reducible rfl
   try simp only [Act.put,List.setIfInBounds_toArray,List.set_cons_zero,List.set_cons_succ]
   refine dag_take (i:=8) (d:=some 38) (v:=?v8n16) rfl rfl (by kernel_rfl) (by kernel_rfl) (by kernel_rfl) (fun _ _ _ h=>h) (Or.inl ⟨by rfl,?y8n16⟩) hS ?_
   case y8n16=>intro w hSw;(try dsimp only at hSw);go_simp;first|done|with_reducible rfl
   try simp only [Act.put,List.setIfInBounds_toArray,List.set_cons_zero,List.set_cons_succ]
   refine dag_take (i:=9) (d:=some 39) (v:=?v9n17) rfl rfl (by kernel_rfl) (by kernel_rfl) (by kernel_rfl) (fun _ _ _ h=>h) (Or.inl ⟨by rfl,?y9n17⟩) hS ?_
   case y9n17=>intro w hSw;(try dsimp only at hSw);go_simp;first|done|with_reducible rfl
   try simp only [Act.put,List.setIfInBounds_toArray,List.set_cons_zero,List.set_cons_succ]
   refine wpAnyH_ready (rs:=[10]) (by kernel_rfl) (by simp) ?_;refine AllReadyH.cons rfl (fun Kc hK=>?_) AllReadyH.nil;have hlt:bA<Wn.heap.size∧lb<Wn.heap.size∧p11<Wn.heap.size:=⟨World.block_lt_of_cell? _ _ hS.2.1.1,World.block_lt_of_cell? _ _ hS.2.2.1,hP11.lt⟩;have hle:=hS.1.size;go_simp;refine hK.out _ _ (abc2 hS) (fun hS'=>?_);exact IH.out _ _ _ _ (by omega) ⟨hS',oR8 (oR2 (Or.inl (⟨rfl,by kernel_rfl,_,_,_,_,_,_,_,_,_,rfl,Bk.new _ _,hP11.alloc _,(by omega)⟩)))⟩
  rcases hI with ⟨rfl,rfl,x32,x33,x34,p10,p11,rfl,hP10,hP11,hd⟩|hI
  ·refine wpAnyH_ready (rs:=[5]) (by kernel_rfl) (by simp) ?_;refine AllReadyH.cons rfl (fun Kc hK=>?_) AllReadyH.nil;go_simp;go_fit (wdiv_any _ false false s oS (by omega) (by omega) HD.out.1 false oh HD.out.2.1 false ol HD.out.2.2);rintro e V ⟨rfl,hq⟩;refine hK.out _ _ (hbc2 hq hS) (fun hS'=>?_);exact IH.out _ _ _ _ (by omega) ⟨hS',oR4 (oR2 (Or.inr (Or.inl (⟨rfl,by kernel_rfl,_,_,_,_,_,_,_,rfl,hP10.below hq,hP11.below hq,hd⟩))))⟩
  rcases hI with ⟨rfl,rfl,x31,x32,x33,x34,x35,p10,p11,rfl,hP10,hP11,hd⟩|hI
  ·refine dag_take (i:=6) (d:=some 30) (v:=?v6n18) rfl rfl (by kernel_rfl) (by kernel_rfl) (by kernel_rfl) (fun _ _ _ h=>h) (Or.inl ⟨by rfl,?y6n18⟩) hS ?_
   case y6n18=>intro w hSw;(try dsimp only at hSw);go_simp;first|done|with_reducible rfl
   try simp only [Act.put,List.setIfInBounds_toArray,List.set_cons_zero,List.set_cons_succ]
   refine dag_take (i:=7) (d:=some 37) (v:=?v7n19) rfl rfl (by kernel_rfl) (by kernel_rfl) (by kernel_rfl) (fun _ _ _ h=>h) (Or.inl ⟨by rfl,?y7n19⟩) hS ?_
   case y7n19=>intro w hSw;(try dsimp only at hSw);go_simp;first|done|with_reducible rfl
   try simp only [Act.put,List.setIfInBounds_toArray,List.set_cons_zero,List.set_cons_succ]
   refine dag_take (i:=8) (d:=some 38) (v:=?v8n20) rfl rfl (by kernel_rfl) (by kernel_rfl) (by kernel_rfl) (fun _ _ _ h=>h) (Or.inl ⟨by rfl,?y8n20⟩) hS ?_
   case y8n20=>intro w hSw;(try dsimp only at hSw);go_simp;first|done|with_reducible rfl
   try simp only [Act.put,List.setIfInBounds_toArray,List.set_cons_zero,List.set_cons_succ]
   refine dag_take (i:=9) (d:=some 39) (v:=?v9n21) rfl rfl (by kernel_rfl) (by kernel_rfl) (by kernel_rfl) (fun _ _ _ h=>h) (Or.inl ⟨by rfl,?y9n21⟩) hS ?_
   case y9n21=>intro w hSw;(try dsimp only at hSw);go_simp;first|done|with_reducible rfl
   try simp only [Act.put,List.setIfInBounds_toArray,List.set_cons_zero,List.set_cons_succ]
   refine wpAnyH_ready (rs:=[12]) (by kernel_rfl) (by simp) ?_;refine AllReadyH.cons rfl (fun Kc hK=>?_) AllReadyH.nil;obtain ⟨q0,q1,q2,q3⟩:=hP10.facts;go_simp;refine hK.out _ _ (sbc2 hS (by omega) (by omega)) (fun hS'=>?_);exact IH.out _ _ _ _ (by omega) ⟨hS',oR8 (oR2 (Or.inr (Or.inl (⟨rfl,by kernel_rfl,_,_,_,_,_,_,_,_,_,_,rfl,hP10.set_ _ _,hP11.far2 (by omega) _ _,hd⟩))))⟩
  rcases hI with ⟨rfl,rfl,x31,x32,x33,x34,x35,x36,x30,p10,rfl,hP10,hd⟩|hI
  ·refine wpAnyH_ready (rs:=[11]) (by kernel_rfl) (by simp) ?_;refine AllReadyH.cons rfl (fun Kc hK=>?_) AllReadyH.nil;have hlt:bA<Wn.heap.size∧lb<Wn.heap.size∧p10<Wn.heap.size:=⟨World.block_lt_of_cell? _ _ hS.2.1.1,World.block_lt_of_cell? _ _ hS.2.2.1,hP10.lt⟩;have hle:=hS.1.size;go_simp;refine hK.out _ _ (abc2 hS) (fun hS'=>?_);exact IH.out _ _ _ _ (by omega) ⟨hS',oR8 (oR2 (Or.inl (⟨rfl,by kernel_rfl,_,_,_,_,_,_,_,_,_,rfl,hP10.alloc _,Bk.new _ _,(by omega)⟩)))⟩
  rcases hI with ⟨rfl,rfl,x31,x32,x33,x34,x35,x36,x30,p11,rfl,hP11,hd⟩|hI
  ·refine wpAnyH_ready (rs:=[10]) (by kernel_rfl) (by simp) ?_;refine AllReadyH.cons rfl (fun Kc hK=>?_) AllReadyH.nil;have hlt:bA<Wn.heap.size∧lb<Wn.heap.size∧p11<Wn.heap.size:=⟨World.block_lt_of_cell? _ _ hS.2.1.1,World.block_lt_of_cell? _ _ hS.2.2.1,hP11.lt⟩;have hle:=hS.1.size;go_simp;refine hK.out _ _ (abc2 hS) (fun hS'=>?_);exact IH.out _ _ _ _ (by omega) ⟨hS',oR8 (oR2 (Or.inl (⟨rfl,by kernel_rfl,_,_,_,_,_,_,_,_,_,rfl,Bk.new _ _,hP11.alloc _,(by omega)⟩)))⟩
  rcases hI with ⟨rfl,rfl,x31,x32,x33,x34,x35,x36,x30,p10,p11,rfl,hP10,hP11,hd⟩|hI
  ·refine wpAnyH_ready (rs:=[12]) (by kernel_rfl) (by simp) ?_;refine AllReadyH.cons rfl (fun Kc hK=>?_) AllReadyH.nil;obtain ⟨q0,q1,q2,q3⟩:=hP10.facts;go_simp;refine hK.out _ _ (sbc2 hS (by omega) (by omega)) (fun hS'=>?_);exact IH.out _ _ _ _ (by omega) ⟨hS',oR8 (oR2 (Or.inr (Or.inl (⟨rfl,by kernel_rfl,_,_,_,_,_,_,_,_,_,_,rfl,hP10.set_ _ _,hP11.far2 (by omega) _ _,hd⟩))))⟩
  rcases hI with ⟨rfl,rfl,x31,x32,x33,x34,x35,x36,x30,x37,p10,p11,rfl,hP10,hP11,hd⟩|hI
  ·refine wpAnyH_ready (rs:=[13]) (by kernel_rfl) (by simp) ?_;refine AllReadyH.cons rfl (fun Kc hK=>?_) AllReadyH.nil;obtain ⟨q0,q1,q2,q3⟩:=hP11.facts;go_simp;refine hK.out _ _ (sbc2 hS (by omega) (by omega)) (fun hS'=>?_);exact IH.out _ _ _ _ (by omega) ⟨hS',oR8 (oR4 (⟨rfl,by kernel_rfl,_,_,_,_,_,_,_,_,_,_,_,rfl,hP10.far2 (by omega) _ _,hP11.set_ _ _,hd⟩))⟩
  obtain ⟨rfl,rfl,x31,x32,x33,x34,x35,x36,x30,x37,x38,p10,p11,rfl,hP10,hP11,hd⟩:=hI;refine dag_take (i:=14) (d:=some 12) (v:=?v14n22) rfl rfl (by kernel_rfl) (by kernel_rfl) (by kernel_rfl) (fun _ _ _ h=>h) (Or.inl ⟨by rfl,?y14n22⟩) hS ?_
  case y14n22=>intro w hSw;(try dsimp only at hSw);go_simp;first|done|with_reducible rfl
  try simp only [Act.put,List.setIfInBounds_toArray,List.set_cons_zero,List.set_cons_succ]
  refine wpAnyH_done (by kernel_rfl) ?_ _;clear IH;have hwn:=below_next hw1 hS.1;have hrown:=ownsRow_below hrow1 hS.1;have hkn:=hk1.trans (kept_below hS.1);go_wp2_with fail;have hin2:(Wn.drew.cell? ⟨p10,0,none⟩=some (.bool false)∧Wn.drew.cell? ⟨p10,1,none⟩=some (.string oh))∧(Wn.drew.cell? ⟨p11,0,none⟩=some (.bool false)∧Wn.drew.cell? ⟨p11,1,none⟩=some (.string ol))∧Bk Wn.drew p10 #[.bool false,.string oh]∧Bk Wn.drew p11 #[.bool false,.string ol]:=⟨hP10.cells,hP11.cells,hP10,hP11⟩;replace hwn:Below w0.heap.size w0 Wn.drew:=hwn.drew;replace hrown:Wn.drew.ownsRow w0.heap.size 5 1 v bs.length (bc bs):=hrown;replace hkn:OthersKept 5 none x Wn.drew:=hkn;clear hS hP10 hP11 hd hw1 hrow1 hk1
  go_region_held3 (fun w'=>(w'.cell? ⟨p10,0,none⟩=some (.bool false)∧w'.cell? ⟨p10,1,none⟩=some (.string oh))∧(w'.cell? ⟨p11,0,none⟩=some (.bool false)∧w'.cell? ⟨p11,1,none⟩=some (.string ol))∧Bk w' p10 #[.bool false,.string oh]∧Bk w' p11 #[.bool false,.string ol])
   (first|assumption|exact keptS hkA (by assumption)|exact keptS hkB (by assumption))
   (first
    | (go_at_call 36;go_fit (HH.out.1 _ hwn hrown);rintro e V1 ⟨v1,rfl,hrA,hBA,hkA⟩)
    | (go_at_call 36;go_fit (HH.out.2 _ v1 hBA hrA);rintro e V2 ⟨v2,rfl,hrB,hBB,hkB⟩))
  all_goals
   go_wp2;go_ret;exact ⟨v2,rfl,by rw [← List.append_assoc];exact hrB,hBB,hkn.trans (hkA.trans hkB)⟩
theorem spread_any (n:Nat) (hn80:n≤90000):SPH n:=by
 induction n with
 | zero =>
  intro w0 w htab hw v bs hmax hrow s hs hlt ad c _ _ _;rw [sc_zero] at hlt;have h18:18*2 ^ 0=18:=rfl;rw [h18] at hmax ⊢;exact spread_none w0 w htab hw v bs (by omega) hrow s hs hlt ad c
 | succ n ih =>
  intro w0 w htab hw v bs hmax hrow s hs hlt ad c hc hI hz;exact spread_step n (by omega) (ih (by omega)) w0 w htab hw v bs hmax hrow s hs hlt ad c hc hI hz
end Go.Proofs.YtiddgplapodleaaGreatDoor
