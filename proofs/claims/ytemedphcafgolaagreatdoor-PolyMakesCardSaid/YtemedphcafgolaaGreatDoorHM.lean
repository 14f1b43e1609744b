/- Layer 1, laid together: Y4, YSum, YMath, Y5. -/
import Derived.Test.YtemedphcafgolaaGreatDoorAb
import Derived.Test.YtemedphcafgolaaGreatDoorHY
/- Rows of numbers in memory;package dyad: Mul,walked. -/
namespace Go.Proofs.YtemedphcafgolaaGreatDoor
set_option maxRecDepth 100000
set_option maxHeartbeats 3200000
open Go.RowKit Go.Shelf
abbrev NV:=Bool × ByteArray × Int
def nvl (x:NV):Dyadic:=nv x.1 x.2.1 x.2.2
def NAt (w:World) (ad:Option Addr) (l:List NV):Prop:=∀ i (h:i<l.length),∃ lb lo,ad=some ⟨lb,lo,none⟩∧lb<w.heap.size ∧
 w.cell? ⟨lb,lo+i*3,none⟩=some (.bool l[i].1)∧w.cell? ⟨lb,lo+i*3+1,none⟩=some (.string l[i].2.1)∧w.cell? ⟨lb,lo+i*3+2,none⟩=some (.int .i64 l[i].2.2)
theorem NAt.below {w w' : World} {ad:Option Addr} {l:List NV} (h:NAt w ad l) (hb:Below w.heap.size w w'):NAt w' ad l:=by
 intro i hi;obtain ⟨lb,lo,e,hl,h1,h2,h3⟩:=h i hi;have hsz:=hb.size;exact ⟨lb,lo,e,by omega,by rw [hb.cell hl];exact h1,by rw [hb.cell hl];exact h2,by rw [hb.cell hl];exact h3⟩
theorem NAt.alloc {w:World} {ad:Option Addr} {l:List NV} (h:NAt w ad l) (o:Obj):NAt (w.alloc o) ad l:=h.below ((Below.refl _ _).alloc (Nat.le_refl _) _)
theorem NAt.drew {w:World} {ad:Option Addr} {l:List NV} (h:NAt w ad l):NAt w.drew ad l:=h
def ncells:List NV→List Value
 | []=>[]
 | x::l=>.bool x.1::.string x.2.1::.int .i64 x.2.2::ncells l
theorem ncells_get:∀ (l:List NV) (i:Nat) (h:i<l.length),(ncells l)[i*3]?=some (.bool l[i].1)∧(ncells l)[i*3+1]?=some (.string l[i].2.1)∧(ncells l)[i*3+2]?=some (.int .i64 l[i].2.2)
 | [],i,h=>by simp at h
 | x::l,0,h=>⟨rfl,rfl,rfl⟩
 | x::l,i+1,h=>by
  have:=ncells_get l i (by simpa using h)
  rw [show (i+1)*3=i*3+1+1+1 by omega];exact this
theorem NAt.new (w:World) (t:TypeId) (l:List NV) (L:Array Value) (hL:L=(ncells l).toArray):NAt (w.alloc (.cells L t)) (some ⟨w.heap.size,0,none⟩) l:=by
 subst hL;intro i hi;have hR:=Rw.new w t (ncells l);obtain ⟨h1,h2,h3⟩:=ncells_get l i hi;refine ⟨w.heap.size,0,rfl,by rw [World.size_alloc];omega,?_,?_,?_⟩
 ·rw [Nat.zero_add,hR.cell];exact h1
 ·rw [Nat.zero_add,hR.cell];exact h2
 ·rw [Nat.zero_add,hR.cell];exact h3
def prodD (l:List NV) (k:Nat):Dyadic:=((l.take k).map nvl).foldl (·*·) 1
theorem prodD_succ {l:List NV} {k:Nat} (h:k<l.length):prodD l (k+1)=prodD l k*nvl l[k]:=by
 unfold prodD;rw [List.take_succ_eq_append_getElem h,List.map_append,List.foldl_append];rfl
theorem prodD_zero (l:List NV):prodD l 0=1:=rfl
theorem nv_times {m n:Bool} {s t:ByteArray} (d e:Int) {z:Bool} {o:ByteArray} (h:wf (wv m s*wv n t)=wi z o):nv z o (d+e)=nv m s d*nv n t e:=by
 rw [← Dyadic.toRat_inj,Dyadic.toRat_mul,nv_toRat,nv_toRat,nv_toRat,val_of_wf h,Rat.intCast_mul,Rat.zpow_add (by decide)]
 grind
theorem moved_df (w:World) (m m1:Bool) (s s1:ByteArray) (e e1 n:Int) (h1:df (nv m s e)=nu m1 s1 e1) (he:-1000000000000000≤e1∧e1≤1000000000000000) (hn:-1000000000000000≤n∧n≤1000000000000000)
  (m' : Bool) (s' : ByteArray) (e' : Int) (hd:df (nv m s (e+n))=nu m' s' e'):Calls Tryz.prog 103 #[nu m1 s1 e1,.int .i64 n] w (Ret (.agg #[.bool m',.string s',.int .i64 e']) w):=by
 rcases df_shift n h1 with ⟨_,h,rfl,rfl,rfl⟩|⟨_,h,hne⟩
 ·rw [hd] at h;obtain ⟨rfl,rfl,rfl⟩:=nu_inj h;exact moved_zero w false 0 n _ (by kernel_rfl)
 ·rw [hd] at h;obtain ⟨rfl,rfl,rfl⟩:=nu_inj h;exact moved_some w m' s' e1 n hne he hn
theorem ymul_none (w:World) (ad:Option Addr) (c:Nat) (m' : Bool) (s' : ByteArray) (e' : Int) (hd:df (.ofIntWithPrec 1 0)=nu m' s' e') :
  Calls Tryz.prog 110 #[.slice ad 0 c] w (Ret (.agg #[.bool m',.string s',.int .i64 e']) w):=by
 have HZ:=Lib.hid hd;clear hd;go_enter Tryz.func110,Tryz.ntmps110;go_wp2_with fail;obtain ⟨hR,hb⟩:=nblk1 w false ⟨#[]⟩ 0;generalize (w.alloc (.cells #[.bool false,.string ⟨#[]⟩,.int .i64 0] 26))=W0 at *;refine (yof_any _ 1 (by omega) (by omega) m' s' e' HZ.out).mono ?_;rintro e W ⟨rfl,hq⟩;replace hb:=below_next hb hq;replace hR:=hR.below hq;clear hq;obtain ⟨hR0,hR1,hR2,hR3,hR4,hR5⟩:=hR.facts;go_wp2;exact ret_num rfl rfl (hR.set3 _ _ _) ⟨rfl,below_set3 hb (by omega) _ _ _ _ _ _⟩
theorem ymul_one (w:World) (b off c:Nat) (m:Bool) (s:ByteArray) (e:Int) (hs:s.size≤1000000) (he:-10000000000000≤e∧e≤10000000000000) (hc1:w.cell? ⟨b,off,none⟩=some (.bool m)) (hc2:w.cell? ⟨b,off+1,none⟩=some (.string s)) (hc3:w.cell? ⟨b,off+2,none⟩=some (.int .i64 e)) (m' : Bool) (s' : ByteArray) (e' : Int) (hd:df (nv m s e)=nu m' s' e') :
  Calls Tryz.prog 110 #[.slice (some ⟨b,off,none⟩) 1 c] w (Ret (.agg #[.bool m',.string s',.int .i64 e']) w):=by
 have HZ:=Lib.hid hd;clear hd;have hn1:=cell_past hc1 (.cells #[.bool false,.string ⟨#[]⟩,.int .i64 0] 26);have hn2:=cell_past hc2 (.cells #[.bool false,.string ⟨#[]⟩,.int .i64 0] 26);have hn3:=cell_past hc3 (.cells #[.bool false,.string ⟨#[]⟩,.int .i64 0] 26);go_enter Tryz.func110,Tryz.ntmps110;go_wp2_with fail;obtain ⟨hR,hb⟩:=nblk1 w false ⟨#[]⟩ 0;generalize (w.alloc (.cells #[.bool false,.string ⟨#[]⟩,.int .i64 0] 26))=W0 at *;refine (yform_any _ m s e hs he m' s' e' HZ.out).mono ?_;rintro e W ⟨rfl,hq⟩;replace hb:=below_next hb hq;replace hR:=hR.below hq;clear hq;obtain ⟨hR0,hR1,hR2,hR3,hR4,hR5⟩:=hR.facts;go_wp2;exact ret_num rfl rfl (hR.set3 _ _ _) ⟨rfl,below_set3 hb (by omega) _ _ _ _ _ _⟩
def YMU (w wr:World) (P:Nat) (l:List NV) (k:Nat):Prop:=
 ∃ q t f,Nk wr P q t f∧nv q t f=prodD l (k+1)∧t.size≤(k+1)*1000∧(-((k+1:Nat):Int)*10000000≤f∧f≤((k+1:Nat):Int)*10000000)∧(0<k→df (nv q t f)=nu q t f)∧Nk wr w.heap.size false ⟨#[]⟩ 0∧Below w.heap.size w wr
def intY:Value→Nat | .int _ n=>n.toNat|_=>0
theorem ymul_any (w:World) (b off:Nat) (l:List NV) (n c:Nat) (hn:l.length=n) (hc:n≤c) (h2:2≤n) (hmax:n≤100) (hs:∀ x∈l,x.2.1.size≤1000∧-1000000≤x.2.2∧x.2.2≤1000000) (hl:NAt w (some ⟨b,off,none⟩) l) (m' : Bool) (s' : ByteArray) (e' : Int) (hd:df (prodD l n)=nu m' s' e') :
  Calls Tryz.prog 110 #[.slice (some ⟨b,off,none⟩) n c] w (Ret (.agg #[.bool m',.string s',.int .i64 e']) w):=by
 have HN:=Lib.hid (And.intro hn hd);clear hn hd;have hkl:0<l.length:=by rw [HN.out.1];omega
 obtain ⟨lb,lo,hae,hlb,hc1,hc2,hc3⟩:=hl 0 hkl;obtain ⟨rfl,rfl⟩:b=lb∧off=lo:=by simpa using hae
 clear hae;obtain ⟨m,s,e0,hx⟩:∃ m s e,l[0]=(m,s,e):=⟨_,_,_,rfl⟩;have hss:=hs l[0] (List.getElem_mem hkl);rw [hx] at hss;have hp:prodD l 1=nv m s e0:=by
  rw [prodD_succ hkl,prodD_zero,hx];show 1*nv m s e0=_;rw [Dyadic.one_mul]
 rw [hx] at hc1 hc2 hc3;rw [Nat.zero_mul,Nat.add_zero] at hc1 hc2 hc3;have hp2:=hp.symm;clear hx hp;have hn1:=cell_past hc1 (.cells #[.bool false,.string ⟨#[]⟩,.int .i64 0] 26);have hn2:=cell_past hc2 (.cells #[.bool false,.string ⟨#[]⟩,.int .i64 0] 26);have hn3:=cell_past hc3 (.cells #[.bool false,.string ⟨#[]⟩,.int .i64 0] 26);go_enter Tryz.func110,Tryz.ntmps110;go_wp2_with fail;obtain ⟨hR,hP,hb⟩:=nblk2 w false m ⟨#[]⟩ s 0 e0;generalize ((w.alloc (.cells #[.bool false,.string ⟨#[]⟩,.int .i64 0] 26)).alloc (.cells #[.bool m,.string s,.int .i64 e0] 26))=W0 at *;have hM0:YMU w W0 (w.heap.size+1) l 0:=⟨m,s,e0,hP,hp2,by omega,by omega,fun h=>by omega,hR,hb⟩;clear hb hp2 hR hP hc1 hc2 hc3 hn1 hn2 hn3 hss
 go_loopw [23] (fun i wr=>∃ k:Nat,k≤n-1∧i=.int .i64 k∧YMU w wr (w.heap.size+1) l k) (fun i _=>n-intY i)
 case atStart=>exact ⟨0,Nat.zero_le _,rfl,hM0⟩
 case round =>
  clear hM0;obtain ⟨k,hk,rfl,q,t,f,hP,hv,htz,hf,hdf,hR,hb⟩:=hrel
  by_cases hlt:k<n-1
  ·have hkl1:k+1<l.length:=by rw [HN.out.1];omega
   obtain ⟨lb,lo,hae,_,hc1,hc2,hc3⟩:=hl (k+1) hkl1;obtain ⟨rfl,rfl⟩:b=lb∧off=lo:=by simpa using hae
   clear hae;obtain ⟨m1,s1,e1,hx⟩:∃ m s e,l[k+1]=(m,s,e):=⟨_,_,_,rfl⟩;have hss:=hs l[k+1] (List.getElem_mem hkl1);have hp:=prodD_succ hkl1;rw [hx] at hss hc1 hc2 hc3 hp;simp only at hss;rw [show off+(k+1)*3=off+3+k*3 by omega] at hc1 hc2 hc3;replace hc1:wr.cell? ⟨b,off+3+k*3,none⟩=some (.bool m1):=by rw [hb.cell hlb];exact hc1
   replace hc2:wr.cell? ⟨b,off+3+k*3+1,none⟩=some (.string s1):=by rw [hb.cell hlb];exact hc2
   replace hc3:wr.cell? ⟨b,off+3+k*3+2,none⟩=some (.int .i64 e1):=by rw [hb.cell hlb];exact hc3
   obtain ⟨z,o,ez,vz,sz⟩:=times_nmw q m1 t s1 (k:=(k+1)*1000) (l:=1000) htz hss.1;obtain ⟨q1,t1,f1,hd1⟩:=df_some (nv z o f);obtain ⟨q2,t2,f2,hd2⟩:=df_some (nv z o (f+e1));have hx1:=(df_exp hd1 (k:=(k+2)*1000) (by omega)).1;have hx2:=df_exp hd2 (k:=(k+2)*1000) (by omega);have hnx:nv z o (f+e1)=prodD l (k+2):=by
    rw [nv_times f e1 ez,hp,hv];rfl
   have hq2:=(df_parts hd2).2.2.1;have hM2:nv q2 t2 f2=prodD l (k+1+1)∧t2.size≤(k+1+1)*1000∧(-((k+1+1:Nat):Int)*10000000≤f2∧f2≤((k+1+1:Nat):Int)*10000000)∧(0<k+1→df (nv q2 t2 f2)=nu q2 t2 f2):=
    ⟨by rw [hq2,hnx],hx2.2,by omega,fun _=>by rw [hq2,hd2]⟩
   have hfb:-10000000000000≤f∧f≤10000000000000:=by omega
   have hf1:-1000000000000000≤f1∧f1≤1000000000000000:=by omega
   have HM:=Lib.hid (And.intro hM2 (And.intro ez (And.intro hd1 hd2)));have hos:o.size≤1000000:=by omega
   have hts:t.size≤100000:=by omega
   have HW:=Lib.hid (wf_wf ez);have HPl:=Lib.hid (show w.heap.size+1<wr.heap.size from hP.lt);clear hx hp hv hdf hf hq2 hnx hM2 ez vz sz hx1 hx2 hd1 hd2;go_wp2_with fail;have hA:=Nk.new wr m1 s1 e1;have hbk:=hb.size;replace hb:=(hb.alloc hbk (.cells #[.bool m1,.string s1,.int .i64 e1] 26)).drew;replace hP:=(hP.alloc (.cells #[.bool m1,.string s1,.int .i64 e1] 26)).drew;replace hR:=(hR.alloc (.cells #[.bool m1,.string s1,.int .i64 e1] 26)).drew;generalize (wr.alloc (.cells #[.bool m1,.string s1,.int .i64 e1] 26))=V0 at *;have hin:=hA.drew.cells;have hPl:w.heap.size+1<wr.heap.size:=by
    have:=HPl.out
    omega
   clear hA hc1 hc2 hc3;have hin:(fun w'=>Below w.heap.size w w'∧(w'.cell? ⟨wr.heap.size,0,none⟩=some (.bool m1)∧w'.cell? ⟨wr.heap.size,1,none⟩=some (.string s1)∧w'.cell? ⟨wr.heap.size,2,none⟩=some (.int .i64 e1))) V0.drew:=⟨hb,hin⟩;clear hb
   refine region_dag (fun w'=>Below w.heap.size w w'∧(w'.cell? ⟨wr.heap.size,0,none⟩=some (.bool m1)∧w'.cell? ⟨wr.heap.size,1,none⟩=some (.string s1)∧w'.cell? ⟨wr.heap.size,2,none⟩=some (.int .i64 e1))) (fun fu li ac Wn=>(fun w'=>Below w.heap.size w w'∧(w'.cell? ⟨wr.heap.size,0,none⟩=some (.bool m1)∧w'.cell? ⟨wr.heap.size,1,none⟩=some (.string s1)∧w'.cell? ⟨wr.heap.size,2,none⟩=some (.int .i64 e1))) Wn∧((fu=13∧li=#[false,false,false,false,false,false,false,false,false,false,false,false,false]∧ac={tmps:=#[.slice (some { block:=b,off:=off }) n c,undef,.pointer (some ⟨w.heap.size,0,none⟩),.pointer (some ⟨w.heap.size+1,0,none⟩),undef,.pointer (some ⟨wr.heap.size,0,none⟩),.slice (some { block:=b,off:=off }) n c,.int .i64 ↑n,.bool false,.bool false,undef,.bool false,.bool false,undef,undef,undef,undef,.slice (some { block:=b,off:=off }) n c,.pointer (some { block:=b,off:=off }),.agg #[.bool m,.string s,.int .i64 e0],.slice (some { block:=b,off:=off }) n c,.slice (some { block:=b,off:=off+3 }) (n-1) (c-1),.int .i64 ((n-1:Nat):Int),.int .i64 ↑k,.bool true,.pointer (some { block:=b,off:=off+3+k*3 }),.agg #[.bool m1,.string s1,.int .i64 e1],u27,u28,u29,u30,u31,u32,u33,u34,u35,u36,u37,u38,u39,undef],defers:=[] }∧Nk Wn (w.heap.size+1) q t f∧Nk Wn w.heap.size false ⟨#[]⟩ 0)∨(fu=6∧li=#[true,true,true,true,false,false,true,false,false,true,true,false,false]∧∃ (x27:Value) (x29:Value) (x36:Value),ac={tmps:=#[.slice (some { block:=b,off:=off }) n c,undef,.pointer (some ⟨w.heap.size,0,none⟩),.pointer (some ⟨w.heap.size+1,0,none⟩),undef,.pointer (some ⟨wr.heap.size,0,none⟩),.slice (some { block:=b,off:=off }) n c,.int .i64 ↑n,.bool false,.bool false,undef,.bool false,.bool false,undef,undef,undef,undef,.slice (some { block:=b,off:=off }) n c,.pointer (some { block:=b,off:=off }),.agg #[.bool m,.string s,.int .i64 e0],.slice (some { block:=b,off:=off }) n c,.slice (some { block:=b,off:=off+3 }) (n-1) (c-1),.int .i64 ((n-1:Nat):Int),.int .i64 ↑k,.bool true,.pointer (some { block:=b,off:=off+3+k*3 }),.agg #[.bool m1,.string s1,.int .i64 e1],x27,.agg #[.bool q,.string t],x29,.agg #[.bool m1,.string s1],u31,u32,.pointer (some { block:=w.heap.size+1,off:=2 }),u34,u35,x36,.int .i64 e1,u38,u39,undef],defers:=[] }∧Nk Wn (w.heap.size+1) q t f∧Nk Wn w.heap.size false ⟨#[]⟩ 0)∨(fu=6∧li=#[true,false,true,true,false,false,true,true,false,true,true,false,false]∧∃ (x29:Value) (x33:Value) (x36:Value),ac={tmps:=#[.slice (some { block:=b,off:=off }) n c,undef,.pointer (some ⟨w.heap.size,0,none⟩),.pointer (some ⟨w.heap.size+1,0,none⟩),undef,.pointer (some ⟨wr.heap.size,0,none⟩),.slice (some { block:=b,off:=off }) n c,.int .i64 ↑n,.bool false,.bool false,undef,.bool false,.bool false,undef,undef,undef,undef,.slice (some { block:=b,off:=off }) n c,.pointer (some { block:=b,off:=off }),.agg #[.bool m,.string s,.int .i64 e0],.slice (some { block:=b,off:=off }) n c,.slice (some { block:=b,off:=off+3 }) (n-1) (c-1),.int .i64 ((n-1:Nat):Int),.int .i64 ↑k,.bool true,.pointer (some { block:=b,off:=off+3+k*3 }),.agg #[.bool m1,.string s1,.int .i64 e1],.pointer (some ⟨w.heap.size+1,0,none⟩),u28,x29,.agg #[.bool m1,.string s1],u31,u32,x33,.int .i64 f,u35,x36,.int .i64 e1,u38,u39,undef],defers:=[] }∧Nk Wn (w.heap.size+1) q t f∧Nk Wn w.heap.size false ⟨#[]⟩ 0)∨(fu=5∧li=#[true,true,true,true,true,false,true,false,false,true,true,false,false]∧∃ (x27:Value) (x28:Value) (x29:Value) (x30:Value) (x36:Value) (g31:Nat),ac={tmps:=#[.slice (some { block:=b,off:=off }) n c,undef,.pointer (some ⟨w.heap.size,0,none⟩),.pointer (some ⟨w.heap.size+1,0,none⟩),undef,.pointer (some ⟨wr.heap.size,0,none⟩),.slice (some { block:=b,off:=off }) n c,.int .i64 ↑n,.bool false,.bool false,undef,.bool false,.bool false,undef,undef,undef,undef,.slice (some { block:=b,off:=off }) n c,.pointer (some { block:=b,off:=off }),.agg #[.bool m,.string s,.int .i64 e0],.slice (some { block:=b,off:=off }) n c,.slice (some { block:=b,off:=off+3 }) (n-1) (c-1),.int .i64 ((n-1:Nat):Int),.int .i64 ↑k,.bool true,.pointer (some { block:=b,off:=off+3+k*3 }),.agg #[.bool m1,.string s1,.int .i64 e1],x27,x28,x29,x30,.slice (some ⟨g31,0,none⟩) 2 2,u32,.pointer (some { block:=w.heap.size+1,off:=2 }),u34,u35,x36,.int .i64 e1,u38,u39,undef],defers:=[] }∧IAt Wn (some ⟨g31,0,none⟩) [(q,t),(m1,s1)]∧Nk Wn (w.heap.size+1) q t f∧Nk Wn w.heap.size false ⟨#[]⟩ 0)∨(fu=5∧li=#[true,true,true,true,false,false,true,true,false,true,true,false,false]∧∃ (x27:Value) (x29:Value) (x33:Value) (x36:Value),ac={tmps:=#[.slice (some { block:=b,off:=off }) n c,undef,.pointer (some ⟨w.heap.size,0,none⟩),.pointer (some ⟨w.heap.size+1,0,none⟩),undef,.pointer (some ⟨wr.heap.size,0,none⟩),.slice (some { block:=b,off:=off }) n c,.int .i64 ↑n,.bool false,.bool false,undef,.bool false,.bool false,undef,undef,undef,undef,.slice (some { block:=b,off:=off }) n c,.pointer (some { block:=b,off:=off }),.agg #[.bool m,.string s,.int .i64 e0],.slice (some { block:=b,off:=off }) n c,.slice (some { block:=b,off:=off+3 }) (n-1) (c-1),.int .i64 ((n-1:Nat):Int),.int .i64 ↑k,.bool true,.pointer (some { block:=b,off:=off+3+k*3 }),.agg #[.bool m1,.string s1,.int .i64 e1],x27,.agg #[.bool q,.string t],x29,.agg #[.bool m1,.string s1],u31,u32,x33,.int .i64 f,u35,x36,.int .i64 e1,u38,u39,undef],defers:=[] }∧Nk Wn (w.heap.size+1) q t f∧Nk Wn w.heap.size false ⟨#[]⟩ 0)∨(fu=4∧li=#[true,true,true,true,true,true,true,false,false,true,true,false,false]∧∃ (x27:Value) (x28:Value) (x29:Value) (x30:Value) (x31:Value) (x36:Value),ac={tmps:=#[.slice (some { block:=b,off:=off }) n c,undef,.pointer (some ⟨w.heap.size,0,none⟩),.pointer (some ⟨w.heap.size+1,0,none⟩),undef,.pointer (some ⟨wr.heap.size,0,none⟩),.slice (some { block:=b,off:=off }) n c,.int .i64 ↑n,.bool false,.bool false,undef,.bool false,.bool false,undef,undef,undef,undef,.slice (some { block:=b,off:=off }) n c,.pointer (some { block:=b,off:=off }),.agg #[.bool m,.string s,.int .i64 e0],.slice (some { block:=b,off:=off }) n c,.slice (some { block:=b,off:=off+3 }) (n-1) (c-1),.int .i64 ((n-1:Nat):Int),.int .i64 ↑k,.bool true,.pointer (some { block:=b,off:=off+3+k*3 }),.agg #[.bool m1,.string s1,.int .i64 e1],x27,x28,x29,x30,x31,.agg #[.bool z,.string o],.pointer (some { block:=w.heap.size+1,off:=2 }),u34,u35,x36,.int .i64 e1,u38,u39,undef],defers:=[] }∧Nk Wn (w.heap.size+1) q t f∧Nk Wn w.heap.size false ⟨#[]⟩ 0)∨(fu=4∧li=#[true,true,true,true,true,false,true,true,false,true,true,false,false]∧∃ (x27:Value) (x28:Value) (x29:Value) (x30:Value) (x33:Value) (x36:Value) (g31:Nat),ac={tmps:=#[.slice (some { block:=b,off:=off }) n c,undef,.pointer (some ⟨w.heap.size,0,none⟩),.pointer (some ⟨w.heap.size+1,0,none⟩),undef,.pointer (some ⟨wr.heap.size,0,none⟩),.slice (some { block:=b,off:=off }) n c,.int .i64 ↑n,.bool false,.bool false,undef,.bool false,.bool false,undef,undef,undef,undef,.slice (some { block:=b,off:=off }) n c,.pointer (some { block:=b,off:=off }),.agg #[.bool m,.string s,.int .i64 e0],.slice (some { block:=b,off:=off }) n c,.slice (some { block:=b,off:=off+3 }) (n-1) (c-1),.int .i64 ((n-1:Nat):Int),.int .i64 ↑k,.bool true,.pointer (some { block:=b,off:=off+3+k*3 }),.agg #[.bool m1,.string s1,.int .i64 e1],x27,x28,x29,x30,.slice (some ⟨g31,0,none⟩) 2 2,u32,x33,.int .i64 f,u35,x36,.int .i64 e1,u38,u39,undef],defers:=[] }∧IAt Wn (some ⟨g31,0,none⟩) [(q,t),(m1,s1)]∧Nk Wn (w.heap.size+1) q t f∧Nk Wn w.heap.size false ⟨#[]⟩ 0)∨(fu=3∧li=#[true,true,true,true,true,true,true,true,false,true,true,false,false]∧∃ (x27:Value) (x28:Value) (x29:Value) (x30:Value) (x31:Value) (x33:Value) (x36:Value),ac={tmps:=#[.slice (some { block:=b,off:=off }) n c,undef,.pointer (some ⟨w.heap.size,0,none⟩),.pointer (some ⟨w.heap.size+1,0,none⟩),undef,.pointer (some ⟨wr.heap.size,0,none⟩),.slice (some { block:=b,off:=off }) n c,.int .i64 ↑n,.bool false,.bool false,undef,.bool false,.bool false,undef,undef,undef,undef,.slice (some { block:=b,off:=off }) n c,.pointer (some { block:=b,off:=off }),.agg #[.bool m,.string s,.int .i64 e0],.slice (some { block:=b,off:=off }) n c,.slice (some { block:=b,off:=off+3 }) (n-1) (c-1),.int .i64 ((n-1:Nat):Int),.int .i64 ↑k,.bool true,.pointer (some { block:=b,off:=off+3+k*3 }),.agg #[.bool m1,.string s1,.int .i64 e1],x27,x28,x29,x30,x31,.agg #[.bool z,.string o],x33,.int .i64 f,u35,x36,.int .i64 e1,u38,u39,undef],defers:=[] }∧Nk Wn (w.heap.size+1) q t f∧Nk Wn w.heap.size false ⟨#[]⟩ 0)∨(fu=2∧li=#[true,true,true,true,true,true,true,true,true,true,true,false,false]∧∃ (x27:Value) (x28:Value) (x29:Value) (x30:Value) (x31:Value) (x32:Value) (x33:Value) (x34:Value) (x36:Value),ac={tmps:=#[.slice (some { block:=b,off:=off }) n c,undef,.pointer (some ⟨w.heap.size,0,none⟩),.pointer (some ⟨w.heap.size+1,0,none⟩),undef,.pointer (some ⟨wr.heap.size,0,none⟩),.slice (some { block:=b,off:=off }) n c,.int .i64 ↑n,.bool false,.bool false,undef,.bool false,.bool false,undef,undef,undef,undef,.slice (some { block:=b,off:=off }) n c,.pointer (some { block:=b,off:=off }),.agg #[.bool m,.string s,.int .i64 e0],.slice (some { block:=b,off:=off }) n c,.slice (some { block:=b,off:=off+3 }) (n-1) (c-1),.int .i64 ((n-1:Nat):Int),.int .i64 ↑k,.bool true,.pointer (some { block:=b,off:=off+3+k*3 }),.agg #[.bool m1,.string s1,.int .i64 e1],x27,x28,x29,x30,x31,x32,x33,x34,.agg #[.bool q1,.string t1,.int .i64 f1],x36,.int .i64 e1,u38,u39,undef],defers:=[] }∧Nk Wn (w.heap.size+1) q t f∧Nk Wn w.heap.size false ⟨#[]⟩ 0)∨(fu=1∧li=#[true,true,true,true,true,true,true,true,true,true,true,true,false]∧∃ (x27:Value) (x28:Value) (x29:Value) (x30:Value) (x31:Value) (x32:Value) (x33:Value) (x34:Value) (x35:Value) (x36:Value) (x37:Value),ac={tmps:=#[.slice (some { block:=b,off:=off }) n c,undef,.pointer (some ⟨w.heap.size,0,none⟩),.pointer (some ⟨w.heap.size+1,0,none⟩),undef,.pointer (some ⟨wr.heap.size,0,none⟩),.slice (some { block:=b,off:=off }) n c,.int .i64 ↑n,.bool false,.bool false,undef,.bool false,.bool false,undef,undef,undef,undef,.slice (some { block:=b,off:=off }) n c,.pointer (some { block:=b,off:=off }),.agg #[.bool m,.string s,.int .i64 e0],.slice (some { block:=b,off:=off }) n c,.slice (some { block:=b,off:=off+3 }) (n-1) (c-1),.int .i64 ((n-1:Nat):Int),.int .i64 ↑k,.bool true,.pointer (some { block:=b,off:=off+3+k*3 }),.agg #[.bool m1,.string s1,.int .i64 e1],x27,x28,x29,x30,x31,x32,x33,x34,x35,x36,x37,.agg #[.bool q2,.string t2,.int .i64 f2],u39,undef],defers:=[] }∧Nk Wn (w.heap.size+1) q t f∧Nk Wn w.heap.size false ⟨#[]⟩ 0)∨(fu=0∧li=#[true,true,true,true,true,true,true,true,true,true,true,true,true]∧∃ (x27:Value) (x28:Value) (x29:Value) (x30:Value) (x31:Value) (x32:Value) (x33:Value) (x34:Value) (x35:Value) (x36:Value) (x37:Value) (x38:Value),ac={tmps:=#[.slice (some { block:=b,off:=off }) n c,undef,.pointer (some ⟨w.heap.size,0,none⟩),.pointer (some ⟨w.heap.size+1,0,none⟩),undef,.pointer (some ⟨wr.heap.size,0,none⟩),.slice (some { block:=b,off:=off }) n c,.int .i64 ↑n,.bool false,.bool false,undef,.bool false,.bool false,undef,undef,undef,undef,.slice (some { block:=b,off:=off }) n c,.pointer (some { block:=b,off:=off }),.agg #[.bool m,.string s,.int .i64 e0],.slice (some { block:=b,off:=off }) n c,.slice (some { block:=b,off:=off+3 }) (n-1) (c-1),.int .i64 ((n-1:Nat):Int),.int .i64 ↑k,.bool true,.pointer (some { block:=b,off:=off+3+k*3 }),.agg #[.bool m1,.string s1,.int .i64 e1],x27,x28,x29,x30,x31,x32,x33,x34,x35,x36,x37,x38,u39,undef],defers:=[] }∧Nk Wn (w.heap.size+1) q2 t2 f2∧Nk Wn w.heap.size false ⟨#[]⟩ 0))) (by kernel_rfl) ?_ ?_
   ·exact ⟨hin,Or.inl (⟨rfl,rfl,rfl,hP,hR⟩)⟩
   ·clear hin;rintro fu li ac Wn ⟨hS,hI⟩ IH
    rcases hI with ⟨rfl,rfl,rfl,hP,hR⟩|hI
    ·refine dag_take (i:=0) (d:=some 27) (v:=?v0n1) rfl rfl (by kernel_rfl) (by kernel_rfl) (by kernel_rfl) (fun _ _ _ h=>h) (Or.inl ⟨by rfl,?y0n1⟩) hS ?_
     case y0n1=>intro w hSw;(try dsimp only at hSw);go_simp;first|done|with_reducible rfl
     try simp only [Act.put,List.setIfInBounds_toArray,List.set_cons_zero,List.set_cons_succ]
     refine dag_take (i:=2) (d:=some 29) (v:=?v2n2) rfl rfl (by kernel_rfl) (by kernel_rfl) (by kernel_rfl) (fun _ _ _ h=>h) (Or.inl ⟨by rfl,?y2n2⟩) hS ?_
     case y2n2=>intro w hSw;(try dsimp only at hSw);go_simp;first|done|with_reducible rfl
     try simp only [Act.put,List.setIfInBounds_toArray,List.set_cons_zero,List.set_cons_succ]
     refine dag_take (i:=3) (d:=some 30) (v:=?v3n3) rfl rfl (by kernel_rfl) (by kernel_rfl) (by kernel_rfl) (fun _ _ _ h=>h) (Or.inl ⟨by rfl,?y3n3⟩) hS ?_
     case y3n3=>intro w hSw;(try dsimp only at hSw);go_simp;first|done|with_reducible rfl
     try simp only [Act.put,List.setIfInBounds_toArray,List.set_cons_zero,List.set_cons_succ]
     refine dag_take (i:=6) (d:=some 33) (v:=?v6n4) rfl rfl (by kernel_rfl) (by kernel_rfl) (by kernel_rfl) (fun _ _ _ h=>h) (Or.inl ⟨by rfl,?y6n4⟩) hS ?_
     case y6n4=>intro w hSw;(try dsimp only at hSw);go_simp;first|done|with_reducible rfl
     try simp only [Act.put,List.setIfInBounds_toArray,List.set_cons_zero,List.set_cons_succ]
     refine dag_take (i:=9) (d:=some 36) (v:=?v9n5) rfl rfl (by kernel_rfl) (by kernel_rfl) (by kernel_rfl) (fun _ _ _ h=>h) (Or.inl ⟨by rfl,?y9n5⟩) hS ?_
     case y9n5=>intro w hSw;(try dsimp only at hSw);go_simp;first|done|with_reducible rfl
     try simp only [Act.put,List.setIfInBounds_toArray,List.set_cons_zero,List.set_cons_succ]
     refine dag_take (i:=10) (d:=some 37) (v:=?v10n6) rfl rfl (by kernel_rfl) (by kernel_rfl) (by kernel_rfl) (fun _ _ _ h=>h) (Or.inl ⟨by rfl,?y10n6⟩) hS ?_
     case y10n6=>intro w hSw;(try dsimp only at hSw);go_simp;first|done|with_reducible rfl
     try simp only [Act.put,List.setIfInBounds_toArray,List.set_cons_zero,List.set_cons_succ]
     refine wpAnyH_ready (rs:=[1,7]) (by kernel_rfl) (by simp) ?_;refine AllReadyH.cons rfl (fun Kc hK=>?_) ?_
     ·obtain ⟨_,_,_,_,_,_⟩:=hP.facts;go_simp;refine hK.out _ _ (hS) (fun hS'=>?_);exact IH.out _ _ _ _ (by omega) ⟨hS',Or.inr (Or.inl (⟨rfl,by kernel_rfl,_,_,_,rfl,hP,hR⟩))⟩
     refine AllReadyH.cons rfl (fun Kc hK=>?_) AllReadyH.nil;obtain ⟨_,_,_,_,_,_⟩:=hP.facts;go_simp;refine hK.out _ _ (hS) (fun hS'=>?_);exact IH.out _ _ _ _ (by omega) ⟨hS',oR2 (Or.inl (⟨rfl,by kernel_rfl,_,_,_,rfl,hP,hR⟩))⟩
    rcases hI with ⟨rfl,rfl,x27,x29,x36,rfl,hP,hR⟩|hI
    ·refine wpAnyH_ready (rs:=[4,7]) (by kernel_rfl) (by simp) ?_;refine AllReadyH.cons rfl (fun Kc hK=>?_) ?_
     ·go_simp;refine hK.out _ _ (⟨hS.1.alloc hS.1.size _,a_n hS.2⟩) (fun hS'=>?_);exact IH.out _ _ _ _ (by omega) ⟨hS',oR2 (Or.inr (Or.inl (⟨rfl,by kernel_rfl,_,_,_,_,_,_,rfl,iat_new rfl rfl,hP.alloc _,hR.alloc _⟩)))⟩
     refine AllReadyH.cons rfl (fun Kc hK=>?_) AllReadyH.nil;obtain ⟨_,_,_,_,_,_⟩:=hP.facts;go_simp;refine hK.out _ _ (hS) (fun hS'=>?_);exact IH.out _ _ _ _ (by omega) ⟨hS',oR4 (Or.inl (⟨rfl,by kernel_rfl,_,_,_,_,rfl,hP,hR⟩))⟩
    rcases hI with ⟨rfl,rfl,x29,x33,x36,rfl,hP,hR⟩|hI
    ·refine wpAnyH_ready (rs:=[1]) (by kernel_rfl) (by simp) ?_;refine AllReadyH.cons rfl (fun Kc hK=>?_) AllReadyH.nil;obtain ⟨_,_,_,_,_,_⟩:=hP.facts;go_simp;refine hK.out _ _ (hS) (fun hS'=>?_);exact IH.out _ _ _ _ (by omega) ⟨hS',oR4 (Or.inl (⟨rfl,by kernel_rfl,_,_,_,_,rfl,hP,hR⟩))⟩
    rcases hI with ⟨rfl,rfl,x27,x28,x29,x30,x36,g31,rfl,hG31,hP,hR⟩|hI
    ·refine wpAnyH_ready (rs:=[5,7]) (by kernel_rfl) (by simp) ?_;refine AllReadyH.cons rfl (fun Kc hK=>?_) ?_
     ·go_simp;go_fit (vmul2 _ _ q m1 t s1 (by omega) (by omega) hG31 z o HM.out.2.1);rintro e V ⟨rfl,hq⟩;refine hK.out _ _ (⟨below_next hS.1 hq,h_n hS.2 hq⟩) (fun hS'=>?_);exact IH.out _ _ _ _ (by omega) ⟨hS',oR4 (Or.inr (Or.inl (⟨rfl,by kernel_rfl,_,_,_,_,_,_,rfl,hP.below hq,hR.below hq⟩)))⟩
     refine AllReadyH.cons rfl (fun Kc hK=>?_) AllReadyH.nil;obtain ⟨_,_,_,_,_,_⟩:=hP.facts;go_simp;refine hK.out _ _ (hS) (fun hS'=>?_);exact IH.out _ _ _ _ (by omega) ⟨hS',oR4 (oR2 (Or.inl (⟨rfl,by kernel_rfl,_,_,_,_,_,_,_,rfl,hG31,hP,hR⟩)))⟩
    rcases hI with ⟨rfl,rfl,x27,x29,x33,x36,rfl,hP,hR⟩|hI
    ·refine wpAnyH_ready (rs:=[4]) (by kernel_rfl) (by simp) ?_;refine AllReadyH.cons rfl (fun Kc hK=>?_) AllReadyH.nil;go_simp;refine hK.out _ _ (⟨hS.1.alloc hS.1.size _,a_n hS.2⟩) (fun hS'=>?_);exact IH.out _ _ _ _ (by omega) ⟨hS',oR4 (oR2 (Or.inl (⟨rfl,by kernel_rfl,_,_,_,_,_,_,_,rfl,iat_new rfl rfl,hP.alloc _,hR.alloc _⟩)))⟩
    rcases hI with ⟨rfl,rfl,x27,x28,x29,x30,x31,x36,rfl,hP,hR⟩|hI
    ·refine wpAnyH_ready (rs:=[7]) (by kernel_rfl) (by simp) ?_;refine AllReadyH.cons rfl (fun Kc hK=>?_) AllReadyH.nil;obtain ⟨_,_,_,_,_,_⟩:=hP.facts;go_simp;refine hK.out _ _ (hS) (fun hS'=>?_);exact IH.out _ _ _ _ (by omega) ⟨hS',oR4 (oR2 (Or.inr (Or.inl (⟨rfl,by kernel_rfl,_,_,_,_,_,_,_,rfl,hP,hR⟩))))⟩
    rcases hI with ⟨rfl,rfl,x27,x28,x29,x30,x33,x36,g31,rfl,hG31,hP,hR⟩|hI
    ·refine wpAnyH_ready (rs:=[5]) (by kernel_rfl) (by simp) ?_;refine AllReadyH.cons rfl (fun Kc hK=>?_) AllReadyH.nil;go_simp;go_fit (vmul2 _ _ q m1 t s1 (by omega) (by omega) hG31 z o HM.out.2.1);rintro e V ⟨rfl,hq⟩;refine hK.out _ _ (⟨below_next hS.1 hq,h_n hS.2 hq⟩) (fun hS'=>?_);exact IH.out _ _ _ _ (by omega) ⟨hS',oR4 (oR2 (Or.inr (Or.inl (⟨rfl,by kernel_rfl,_,_,_,_,_,_,_,rfl,hP.below hq,hR.below hq⟩))))⟩
    rcases hI with ⟨rfl,rfl,x27,x28,x29,x30,x31,x33,x36,rfl,hP,hR⟩|hI
    ·refine wpAnyH_ready (rs:=[8]) (by kernel_rfl) (by simp) ?_;refine AllReadyH.cons rfl (fun Kc hK=>?_) AllReadyH.nil;go_simp;go_fit (made_any _ z o f HW.out hos (by omega) q1 t1 f1 HM.out.2.2.1);rintro e V ⟨rfl,hq⟩;refine hK.out _ _ (⟨below_next hS.1 hq,h_n hS.2 hq⟩) (fun hS'=>?_);exact IH.out _ _ _ _ (by omega) ⟨hS',oR8 (Or.inl (⟨rfl,by kernel_rfl,_,_,_,_,_,_,_,_,_,rfl,hP.below hq,hR.below hq⟩))⟩
    rcases hI with ⟨rfl,rfl,x27,x28,x29,x30,x31,x32,x33,x34,x36,rfl,hP,hR⟩|hI
    ·refine wpAnyH_ready (rs:=[11]) (by kernel_rfl) (by simp) ?_;refine AllReadyH.cons rfl (fun Kc hK=>?_) AllReadyH.nil;go_simp;go_fit (moved_df _ z q1 o t1 f f1 e1 HM.out.2.2.1 hf1 (by omega) q2 t2 f2 HM.out.2.2.2);rintro e V ⟨rfl,hq⟩;refine hK.out _ _ (⟨below_next hS.1 hq,h_n hS.2 hq⟩) (fun hS'=>?_);exact IH.out _ _ _ _ (by omega) ⟨hS',oR8 (Or.inr (Or.inl (⟨rfl,by kernel_rfl,_,_,_,_,_,_,_,_,_,_,_,rfl,hP.below hq,hR.below hq⟩)))⟩
    rcases hI with ⟨rfl,rfl,x27,x28,x29,x30,x31,x32,x33,x34,x35,x36,x37,rfl,hP,hR⟩|hI
    ·refine wpAnyH_ready (rs:=[12]) (by kernel_rfl) (by simp) ?_;refine AllReadyH.cons rfl (fun Kc hK=>?_) AllReadyH.nil;obtain ⟨_,_,_,_,_,_⟩:=hP.facts;go_simp;refine hK.out _ _ (⟨below_set3 hS.1 (by omega) _ _ _ _ _ _,s_n hS.2 (by simp;omega)⟩) (fun hS'=>?_);exact IH.out _ _ _ _ (by omega) ⟨hS',oR8 (oR2 (⟨rfl,by kernel_rfl,_,_,_,_,_,_,_,_,_,_,_,_,rfl,hP.set3 _ _ _,(((hR).far (by show w.heap.size≠(w.heap.size+1);omega) _).far (by show w.heap.size≠(w.heap.size+1);omega) _).far (by show w.heap.size≠(w.heap.size+1);omega) _⟩))⟩
    obtain ⟨rfl,rfl,x27,x28,x29,x30,x31,x32,x33,x34,x35,x36,x37,x38,rfl,hP,hR⟩:=hI;refine wpAnyH_done (by kernel_rfl) ?_ _;clear IH;have HJ:=Lib.hid (show YMU w Wn (w.heap.size+1) l (k+1) from ⟨q2,t2,f2,hP,HM.out.1.1,HM.out.1.2.1,HM.out.1.2.2.1,HM.out.1.2.2.2,hR,hS.1⟩);clear hP hR hS;go_wp2;go_roundw
    case rel=>exact ⟨k+1,by omega,by simp,HJ.out⟩
    case measure=>simp [intY];omega
  ·have hkn:k=n-1:=by omega
   have hd:=HN.out.2;have hdf':=hdf (by omega);rw [hv,show k+1=n by omega,hd] at hdf';obtain ⟨rfl,rfl,rfl⟩:=nu_inj hdf';clear hdf hv hdf' hd;obtain ⟨hP0,hP1,hP2,hP3,hP4,hP5⟩:=hP.facts;obtain ⟨hR0,hR1,hR2,hR3,hR4,hR5⟩:=hR.facts;go_wp2_with fail;exact ret_num rfl rfl (hR.set3 _ _ _) ⟨rfl,below_set3 hb (by omega) _ _ _ _ _ _⟩
def sumD (l:List NV) (k:Nat):Dyadic:=((l.take k).map nvl).foldl (·+·) 0
theorem sumD_succ {l:List NV} {k:Nat} (h:k<l.length):sumD l (k+1)=sumD l k+nvl l[k]:=by
 unfold sumD;rw [List.take_succ_eq_append_getElem h,List.map_append,List.foldl_append];rfl
theorem sumD_zero (l:List NV):sumD l 0=0:=rfl
theorem nv_prod (m n:Bool) (s t:ByteArray) (d e:Int):∃ z o,nv m s d*nv n t e=nv z o (d+e)∧o.size≤s.size+t.size:=by
 obtain ⟨z,o,ez,_,sz⟩:=times_nmw m n s t (k:=s.size) (l:=t.size) (Nat.le_refl _) (Nat.le_refl _);exact ⟨z,o,(nv_times d e ez).symm,sz⟩
theorem nv_plus {m n:Bool} {s t:ByteArray} {d e:Int} (h:e≤d) {z:Bool} {o:ByteArray} (hz:wf (shiftI (wv m s) (d-e)+wv n t)=wi z o):nv z o e=nv m s d+nv n t e:=by
 obtain ⟨k,hk⟩:∃ k:Nat,d=e+k:=⟨(d-e).toNat,by omega⟩;have h1:shiftI (wv m s) (d-e)=wv m s*((2 ^ k:Nat):Int):=by
  unfold shiftI;rw [if_pos (by omega),show (d-e).toNat=k by omega]
 rw [← Dyadic.toRat_inj,Dyadic.toRat_add,nv_toRat,nv_toRat,nv_toRat,val_of_wf hz,h1,hk,Rat.intCast_add,Rat.intCast_mul,Rat.zpow_add (by decide),Rat.zpow_natCast];have h2:(((2 ^ k:Nat):Int):Rat)=2 ^ k:=by
  rw [Rat.intCast_natCast,Rat.natCast_pow];rfl
 rw [h2]
 grind
theorem shift_nmw (m:Bool) (s:ByteArray) (k:Nat) {B K:Nat} (hs:s.size≤B) (hk:k≤8*K):∃ p u,wf (shiftI (wv m s) k)=wi p u∧wv p u=shiftI (wv m s) k∧u.size≤B+K:=by
 refine nmw ?_;unfold shiftI;rw [if_pos (by omega),Int.toNat_natCast,Int.natAbs_mul,wv_abs,Int.natAbs_natCast,Nat.pow_add];have h1:num s<256 ^ B:=lt_size hs;have h2:2 ^ k≤256 ^ K:=by
  rw [show (256:Nat)=2 ^ 8 from rfl,← Nat.pow_mul];exact Nat.pow_le_pow_right (by omega) hk
 exact Nat.mul_lt_mul_of_lt_of_le h1 h2 (Nat.pow_pos (by decide))
theorem zero_nv {m:Bool} {s:ByteArray} {e:Int} (h:sg (wv m s)=0):nv m s e=0:=by
 have h0:wv m s=0:=by rcases sg_cases (wv m s) with ⟨h1,_⟩|⟨_,h2⟩|⟨_,h2⟩ <;> omega
 unfold nv;rw [h0];rfl
theorem dy_sub (x y:Dyadic):x-y=x+-y:=rfl
theorem scaled {m:Bool} {s:ByteArray} {e:Int} (E:Nat) {B K:Nat} (hs:s.size≤B) (he:-(E:Int)≤e) (hK:e+E≤8*K):∃ z o,nv m s e=nv z o (-(E:Int))∧o.size≤B+K:=by
 obtain ⟨k,hk⟩:∃ k:Nat,e+E=k:=⟨(e+E).toNat,by omega⟩;obtain ⟨z,o,ez,vz,sz⟩:=shift_nmw m s k (B:=B) (K:=K) hs (by omega);refine ⟨z,o,?_,sz⟩;have h1:wf (shiftI (wv m s) (e - -(E:Int))+wv false ⟨#[]⟩)=wi z o:=by
  rw [show e - -(E:Int)=(k:Int) by omega,show wv false ⟨#[]⟩=0 by kernel_rfl,Int.add_zero,ez]
 have h2:=nv_plus (d:=e) (e:=-(E:Int)) (by omega) h1;have h3:nv false ⟨#[]⟩ (-(E:Int))=0:=rfl;rw [h2,h3,Dyadic.add_zero]
theorem nv_add_same {m n:Bool} {s t:ByteArray} (e:Int) {B:Nat} (hs:s.size≤B) (ht:t.size≤B):∃ z o,nv m s e+nv n t e=nv z o e∧o.size≤B+1:=by
 obtain ⟨z,o,ez,vz,sz⟩:=plus_nmw m n s t hs ht;refine ⟨z,o,?_,sz⟩;have h1:wf (shiftI (wv m s) (e-e)+wv n t)=wi z o:=by
  rw [Int.sub_self,← ez]
  congr 1
  unfold shiftI;simp
 exact (nv_plus (Int.le_refl _) h1).symm
theorem nv_pow (m:Bool) (s:ByteArray) (e:Int):∀ (n:Nat) {z:Bool} {o:ByteArray},wf (wv m s ^ n)=wi z o→nv z o (e*n)=nv m s e ^ n
 | 0,z,o,h=>by
  rw [Int.pow_zero] at h;rw [nv_of _ h,Dyadic.pow_zero];show Dyadic.ofIntWithPrec 1 (-(e*0))=1;rw [Int.mul_zero];rfl
 | n+1,z,o,h=>by
  obtain ⟨z1,o1,h1⟩:∃ z1 o1,wf (wv m s ^ n)=wi z1 o1:=⟨_,_,rfl⟩;have ih:=nv_pow m s e n h1;have h2:wf (wv z1 o1*wv m s)=wi z o:=by rw [val_of_wf h1,← Int.pow_succ];exact h
  have h3:=nv_times (e*n) e h2;rw [Dyadic.pow_succ,← ih,← h3]
  congr 1
  show e*((n+1:Nat):Int)=_;rw [Int.natCast_add,Int.mul_add];simp
theorem pow_nmw' (n:Bool) (s:ByteArray) (k:Nat) {B:Nat} (hs:s.size≤B) (hk:k≤64):∃ p u,wf (wv n s ^ k)=wi p u∧u.size≤64*B+1:=by
 have h0:(wv n s ^ k).natAbs<256 ^ (64*B+1):=by
  rw [Int.natAbs_pow,wv_abs];have h1:num s ^ k≤(256 ^ s.size) ^ k:=Nat.pow_le_pow_left (Nat.le_of_lt (num_lt s)) k;rw [← Nat.pow_mul] at h1;have h3:s.size*k≤64*B:=by rw [Nat.mul_comm];exact Nat.mul_le_mul hk hs
  have h2:256 ^ (s.size*k)≤256 ^ (64*B):=Nat.pow_le_pow_right (by omega) h3;have h4:256 ^ (64*B)<256 ^ (64*B+1):=Nat.pow_lt_pow_right (by omega) (by omega);omega
 obtain ⟨p,u,e,_,h⟩:=nmw h0;exact ⟨p,u,e,h⟩
end Go.Proofs.YtemedphcafgolaaGreatDoor
