/- Layer 1, laid together: YR1, YR2, YR2o, YLongD, YLong. -/
import Derived.Test.YtemedphcafgolaaGreatDoorHR
import Derived.Test.YtemedphcafgolaaGreatDoorHM
/- The document's answer for dyadic numbers: Make,walked. -/
namespace Go.Proofs.YtemedphcafgolaaGreatDoor
set_option maxRecDepth 100000
set_option maxHeartbeats 3200000
open Go.RowKit Go.Shelf
def numW (wr:World) (b:Nat):Nat:=match wr.cell? ⟨b,1,none⟩ with
 | some (.string s)=>num s
 | _=>0
def RMk (w wr:World) (T:Int) (K:Nat) (x:Dyadic) (z:Bool) (o:ByteArray) (e:Int):Prop:=
 Bk wr w.heap.size #[.bool z,.string o]∧Nk wr (w.heap.size+1) false ⟨#[]⟩ 0∧Below w.heap.size w wr∧0<num o∧fb (num o)=o∧o.size≤K∧nv z o e=x∧e+(tz (num o):Int)=T∧-10000000000000≤e∧wf (wv z o)=wi z o
theorem tz_256 {n:Nat} (h:0<n) (h2:n % 256=0):tz n=tz (n / 256)+8:=by
 have e:n=n / 256*2 ^ 8:=by omega
 have:=tz_mul_pow (n:=n / 256) (by omega) 8
 rw [← e] at this;exact this
theorem tz_half {n:Nat} (h:0<n) (h2:n % 2=0):tz n=tz (n / 2)+1:=by
 have e:n=n / 2*2 ^ 1:=by omega
 have:=tz_mul_pow (n:=n / 2) (by omega) 1
 rw [← e] at this;exact this
theorem wf_fb {z:Bool} {A:Nat} (h:0<A):wf (wv z (fb A))=wi z (fb A):=by
 rw [sI_fb]
 have:=wf_sign z A
 rw [decide_eq_true h,Bool.and_true] at this;exact this
theorem Bk.set1 {W:World} {b:Nat} {x y:Value} (h:Bk W b #[x,y]) (v:Value):Bk (W.setCell ⟨b,1,none⟩ v) b #[x,v]:=by
 unfold Bk at h ⊢;simp [World.setCell,Array.getElem?_modify,h]
theorem Bk.numW {W:World} {b:Nat} {x:Value} {s:ByteArray} (h:Bk W b #[x,.string s]):numW W b=num s:=by
 unfold Go.Proofs.YtemedphcafgolaaGreatDoor.numW;rw [h.facts.2.1]
theorem half_size {A K:Nat} {o:ByteArray} (d:Nat) (hA:num o=A) (ho:o.size≤K):(fb (A / d)).size≤K:=
 fb_size_le (Nat.lt_of_le_of_lt (Nat.div_le_self _ _) (hA▸lt_size ho))
theorem half_div {z:Bool} {o o2:ByteArray} (hp:0<num o) (hy:num o % 2=0) (ho2:fb (num o / 2)=o2):wv false ⟨#[2]⟩≠0∧wf (wv z o / wv false ⟨#[2]⟩)=wi z o2∧wf (wv z o % wv false ⟨#[2]⟩)=wi false ⟨#[]⟩:=by
 have h2:wv false ⟨#[2]⟩=2:=by kernel_rfl
 have hw:wf (wv z o2)=wi z o2:=by rw [← ho2];exact wf_fb (by omega)
 have hv:wv z o2=sI z (num o / 2):=by rw [← ho2,sI_fb]
 rw [h2];refine ⟨by decide,?_,?_⟩
 ·rw [← hw,hv,wv_sI]
  congr 1
  unfold sI
  cases z
  ·simp
  ·simp;omega
 ·have h0:wv z o % 2=0:=by
   rw [wv_sI];unfold sI
   cases z
   ·simp;omega
   ·simp;omega
  rw [h0];rfl
theorem rm_256 {w wr:World} {T:Int} {K:Nat} {x:Dyadic} {z:Bool} {o o2:ByteArray} {e:Int} (h:RMk w wr T K x z o e) (hy:num o % 256=0) (ho2:fb (num o / 256)=o2) :
  RMk w (wr.setCell ⟨w.heap.size,1,none⟩ (.string o2)) T K x z o2 (e+8)∧numW (wr.setCell ⟨w.heap.size,1,none⟩ (.string o2)) w.heap.size<numW wr w.heap.size:=by
 obtain ⟨hA,hR,hb,hp,hfo,hos,hnv,htz,hel,hwf⟩:=h;have h2:num o2=num o / 256:=by rw [← ho2,num_fb]
 have t1:=tz_256 hp hy;refine ⟨⟨hA.set1 _,hR.fr (w.heap.size) 1 _,hb.setCell (p:=⟨w.heap.size,1,none⟩) (Nat.le_refl _) _,by omega,by rw [h2,ho2],?_,?_,?_,by omega,?_⟩,?_⟩
 ·rw [← ho2];exact half_size 256 rfl hos
 ·rw [← hnv,← ho2,← nv_256 e hy,hfo]
 ·rw [h2];omega
 ·rw [← ho2];exact wf_fb (by omega)
 ·rw [(hA.set1 _).numW,hA.numW,h2];omega
theorem rm_half {w wr wr' : World} {T:Int} {K:Nat} {x:Dyadic} {z:Bool} {o o2:ByteArray} {e:Int} (h:RMk w wr T K x z o e) (hy:num o % 2=0) (ho2:fb (num o / 2)=o2) (hA2:Bk wr' w.heap.size #[.bool z,.string o2]) (hR2:Nk wr' (w.heap.size+1) false ⟨#[]⟩ 0) (hb2:Below w.heap.size w wr') :
  RMk w wr' T K x z o2 (e+1)∧numW wr' w.heap.size<numW wr w.heap.size:=by
 obtain ⟨hA,hR,hb,hp,hfo,hos,hnv,htz,hel,hwf⟩:=h;have h2:num o2=num o / 2:=by rw [← ho2,num_fb]
 have t1:=tz_half hp hy;refine ⟨⟨hA2,hR2,hb2,by omega,by rw [h2,ho2],?_,?_,?_,by omega,?_⟩,?_⟩
 ·rw [← ho2];exact half_size 2 rfl hos
 ·rw [← hnv,← ho2,← nv_half e hy,hfo]
 ·rw [h2];omega
 ·rw [← ho2];exact wf_fb (by omega)
 ·rw [hA2.numW,hA.numW,h2];omega
theorem rmake_any (w:World) (n:Bool) (s:ByteArray) (e:Int) (hs:s.size≤90000) (he:-10000000000000≤e∧e≤10000000000000) (m' : Bool) (s' : ByteArray) (e' : Int) (hd:df (nv n s e)=nu m' s' e') :
  Calls Tryz.prog 68 #[wi n s,.int .i64 e] w (Ret (.agg #[.bool m',.string s',.int .i64 e']) w):=by
 obtain ⟨z,o,ez,vz,sz⟩:=form_nmw n s (k:=90000) hs;have hd2:df (nv z o e)=nu m' s' e':=by rw [nv_of e ez];exact hd
 rcases made_parts (wf_wf ez) hd2 with ⟨h0,rfl,rfl,rfl,rfl,rfl⟩|⟨h0,rfl,hs',hT,hne,hss⟩
 ·have HZ:=Lib.hid ez;have hemp:(⟨#[]⟩:ByteArray).toList.isEmpty=true:=by kernel_rfl
  clear ez hd hd2 vz;unfold wi;go_enter Tryz.func68,Tryz.ntmps68;go_wp2_with fail;obtain ⟨hA,hR,hb⟩:=iblkN w n false s ⟨#[]⟩ 0;generalize ((w.alloc (.cells #[.bool n,.string s] 24)).alloc (.cells #[.bool false,.string ⟨#[]⟩,.int .i64 0] 26))=W0 at *;refine (rform_any _ n s (by omega) false ⟨#[]⟩ HZ.out).mono ?_;rintro e W ⟨rfl,hq⟩;replace hb:=below_next hb hq;replace hA:=hA.below hq;replace hR:=hR.below hq;clear hq;obtain ⟨hA0,hA1,hA2,hA3⟩:=hA.facts;have hR2:=(hR.fr (w.heap.size) 0 (.bool false)).fr (w.heap.size) 1 (.string ⟨#[]⟩);replace hb:=below_set2 hb (Nat.le_refl _) 0 1 (.bool false) (.string ⟨#[]⟩);have hA':=hA.set_ (.bool false) (.string ⟨#[]⟩);obtain ⟨hR20,hR21,hR22,hR23,hR24,hR25⟩:=hR2.facts;go_wp2_with fail;exact ret_num rfl rfl (hR2.set3 _ _ _) ⟨rfl,below_set3 hb (by omega) _ _ _ _ _ _⟩
 ·have HE:=Lib.hid (And.intro ez (And.intro hs' (And.intro hne (And.intro hss (And.intro hT hd2)))));have hne2:o.toList.isEmpty=false:=by rw [hss,fb_empty];exact decide_eq_false (by omega)
  have ho1:0<o.size:=by
   rcases Nat.eq_zero_or_pos o.size with h|h
   ·exfalso
    have:num o<256 ^ o.size:=num_lt o
    rw [h] at this;simp at this;omega
   ·exact h
  clear ez hs' hne hss hd hd2 vz hT;unfold wi;go_enter Tryz.func68,Tryz.ntmps68;go_wp2_with fail;obtain ⟨hA,hR,hb⟩:=iblkN w n false s ⟨#[]⟩ 0;generalize ((w.alloc (.cells #[.bool n,.string s] 24)).alloc (.cells #[.bool false,.string ⟨#[]⟩,.int .i64 0] 26))=W0 at *;refine (rform_any _ n s (by omega) m' o HE.out.1).mono ?_;rintro e W ⟨rfl,hq⟩;replace hb:=below_next hb hq;replace hA:=hA.below hq;replace hR:=hR.below hq;clear hq;obtain ⟨hA0,hA1,hA2,hA3⟩:=hA.facts;go_wp2_with fail;have hR2:=(hR.fr (w.heap.size) 0 (.bool m')).fr (w.heap.size) 1 (.string o);have hJ0:RMk w ((W.setCell ⟨w.heap.size,0,none⟩ (.bool m')).setCell ⟨w.heap.size,1,none⟩ (.string o)) e' 90000 (nv m' o e) m' o e:=
   ⟨hA.set_ _ _,hR2,below_set2 hb (Nat.le_refl _) 0 1 _ _,h0,HE.out.2.2.2.1.symm,sz,rfl,HE.out.2.2.2.2.1,he.1,wf_wf HE.out.1⟩
  clear hA hR hb hR2 hA0 hA1 hA2 hA3 hne2 ho1;generalize ((W.setCell ⟨w.heap.size,0,none⟩ (.bool m')).setCell ⟨w.heap.size,1,none⟩ (.string o))=W1 at *;have HTb:=Lib.hid (show e'≤20000000000000 from by
   have h1:=tz_size h0 sz;have h2:=HE.out.2.2.2.2.1;omega)
  go_loopw [1] (fun ev wr=>∃ (e1:Int) (o1:ByteArray),ev=.int .i64 e1∧RMk w wr e' 90000 (nv m' o e) m' o1 e1) (fun _ wr=>numW wr w.heap.size)
  case atStart=>exact ⟨e,o,rfl,hJ0⟩
  case round =>
   clear hJ0;obtain ⟨e0,o0,rfl,hJ⟩:=hrel;have HJ:=Lib.hid hJ;obtain ⟨hA,hR,hb,hp,hfo,hos,hnv,htz,hel,hwf⟩:=hJ;obtain ⟨l1,l2,l3⟩:=last_byte hp hfo;obtain ⟨k0,hk0⟩:∃ k0,o0.size=k0+1:=⟨o0.size-1,by omega⟩;have hlt:k0<o0.size:=by omega
   have hy:=l2 (by omega);have hkk:o0.size-1=k0:=by omega
   simp only [hkk] at hy l3;obtain ⟨y0,hyy⟩:∃ y0:Nat,(o0[k0]'hlt).toNat=y0:=⟨_,rfl⟩;rw [hyy] at hy;obtain ⟨hA0,hA1,hA2,hA3⟩:=hA.facts;have hwr:wrap64 (e0+8)=e0+8:=by have:=HTb.out;unfold wrap64;omega
   by_cases hy0:y0=0
   ·subst hy0;obtain ⟨o2,ho2⟩:∃ o2,o0.extract 0 k0=o2:=⟨_,rfl⟩;have HF:=Lib.hid (rm_256 HJ.out hy.symm (l3.symm.trans ho2));clear l1 l2 hfo hnv htz hwf l3 hy hkk hA hR hb hp hel;go_wp2_with fail;exact ⟨⟨e0+8,o2,by rw [hwr],HF.out.1⟩,HF.out.2⟩
   ·have hyb:((y0:Int) == 0)=false:=by rw [beq_eq_false_iff_ne];omega
    clear l1 l2 hfo hnv htz hwf l3 hkk hA hR hb hp hel hwr;go_wp2_with fail;have hz18:(((num o0:Nat):Int) % 256 == 0)=false:=by rw [beq_eq_false_iff_ne];omega
    rw [hz18];clear hA0 hA1 hA2 hA3 hyb hy0 hy hyy hlt hk0
    go_loopw [1] (fun ev wr=>∃ (e1:Int) (o1:ByteArray),ev=.int .i64 e1∧RMk w wr e' 90000 (nv m' o e) m' o1 e1) (fun _ wr=>numW wr w.heap.size)
    case atStart=>exact ⟨e0,o0,rfl,HJ.out⟩
    case round =>
     clear HJ;obtain ⟨e1,o1,rfl,hJ⟩:=hrel;have HJ:=Lib.hid hJ;obtain ⟨hA,hR,hb,hp,hfo,hos,hnv,htz,hel,hwf⟩:=hJ;obtain ⟨l1,l2,_⟩:=last_byte hp hfo;obtain ⟨k,hk⟩:∃ k,o1.size=k+1:=⟨o1.size-1,by omega⟩;have hlt:k<o1.size:=by omega
     have hy:=l2 (by omega);have hkk:o1.size-1=k:=by omega
     simp only [hkk] at hy;obtain ⟨y,hyy⟩:∃ y:Nat,(o1[k]'hlt).toNat=y:=⟨_,rfl⟩;rw [hyy] at hy;obtain ⟨hA0,hA1,hA2,hA3⟩:=hA.facts;have hwr:wrap64 (e1+1)=e1+1:=by have:=HTb.out;unfold wrap64;omega
     by_cases hy0:y % 2=0
     ·have hyi:(y:Int) % 2=0:=by omega
      have heven:num o1 % 2=0:=by omega
      obtain ⟨o2,ho2⟩:∃ o2,fb (num o1 / 2)=o2:=⟨_,rfl⟩;have HH:=Lib.hid (And.intro heven ho2);have HV:=Lib.hid (half_div (z:=m') hp heven ho2);clear l1 l2 hfo hnv htz hwf hkk hp hel heven ho2;have hz37:(((num o1:Nat):Int) % 2 == 0)=true:=by rw [beq_iff_eq];have:=HH.out.1;omega
      have hz36:((num o1:Nat):Int) % 256 % 2=((num o1:Nat):Int) % 2:=by omega
      go_wp2_with fail
      try rw [hz36]
      try rw [hz37]
      refine region_dag (fun w'=>Below w.heap.size w w') (fun fu li ac Wn=>(fun w'=>Below w.heap.size w w') Wn∧((fu=8∧li=#[false,false,false,false,false,false,false,false]∧ac={tmps:=#[.agg #[.bool n,.string s],.int .i64 e1,.pointer (some ⟨w.heap.size,0,none⟩),undef,.pointer (some ⟨w.heap.size+1,0,none⟩),.agg #[.bool n,.string s],.agg #[.bool m',.string o],.pointer (some { block:=w.heap.size,off:=1 }),.string o,.bool false,undef,.pointer (some { block:=w.heap.size,off:=1 }),.string o0,.pointer (some { block:=w.heap.size,off:=1 }),.string o0,.int .i64 (↑k0+1),.int .i64 ↑k0,.int .u8 (((num o0:Nat):Int) % 256),.bool false,u19,u20,u21,u22,u23,u24,u25,u26,u27,u28,.pointer (some { block:=w.heap.size,off:=1 }),.string o1,.pointer (some { block:=w.heap.size,off:=1 }),.string o1,.int .i64 (↑k+1),.int .i64 ↑k,.int .u8 (((num o1:Nat):Int) % 256),.int .u8 (((num o1:Nat):Int) % 2),.bool true,u38,u39,u40,u41,u42,u43,u44,u45,u46,undef,undef,undef],defers:=[] }∧Bk Wn w.heap.size #[.bool m',.string o1]∧Nk Wn (w.heap.size+1) false ⟨#[]⟩ 0)∨(fu=7∧li=#[true,false,false,false,false,false,false,false]∧ac={tmps:=#[.agg #[.bool n,.string s],.int .i64 e1,.pointer (some ⟨w.heap.size,0,none⟩),undef,.pointer (some ⟨w.heap.size+1,0,none⟩),.agg #[.bool n,.string s],.agg #[.bool m',.string o],.pointer (some { block:=w.heap.size,off:=1 }),.string o,.bool false,undef,.pointer (some { block:=w.heap.size,off:=1 }),.string o0,.pointer (some { block:=w.heap.size,off:=1 }),.string o0,.int .i64 (↑k0+1),.int .i64 ↑k0,.int .u8 (((num o0:Nat):Int) % 256),.bool false,u19,u20,u21,u22,u23,u24,u25,u26,u27,u28,.pointer (some { block:=w.heap.size,off:=1 }),.string o1,.pointer (some { block:=w.heap.size,off:=1 }),.string o1,.int .i64 (↑k+1),.int .i64 ↑k,.int .u8 (((num o1:Nat):Int) % 256),.int .u8 (((num o1:Nat):Int) % 2),.bool true,u38,.agg #[.bool m',.string o1],u40,u41,u42,u43,u44,u45,u46,undef,undef,undef],defers:=[] }∧Bk Wn w.heap.size #[.bool m',.string o1]∧Nk Wn (w.heap.size+1) false ⟨#[]⟩ 0)∨(fu=7∧li=#[false,true,false,false,false,false,false,false]∧ac={tmps:=#[.agg #[.bool n,.string s],.int .i64 e1,.pointer (some ⟨w.heap.size,0,none⟩),undef,.pointer (some ⟨w.heap.size+1,0,none⟩),.agg #[.bool n,.string s],.agg #[.bool m',.string o],.pointer (some { block:=w.heap.size,off:=1 }),.string o,.bool false,undef,.pointer (some { block:=w.heap.size,off:=1 }),.string o0,.pointer (some { block:=w.heap.size,off:=1 }),.string o0,.int .i64 (↑k0+1),.int .i64 ↑k0,.int .u8 (((num o0:Nat):Int) % 256),.bool false,u19,u20,u21,u22,u23,u24,u25,u26,u27,u28,.pointer (some { block:=w.heap.size,off:=1 }),.string o1,.pointer (some { block:=w.heap.size,off:=1 }),.string o1,.int .i64 (↑k+1),.int .i64 ↑k,.int .u8 (((num o1:Nat):Int) % 256),.int .u8 (((num o1:Nat):Int) % 2),.bool true,u38,u39,.agg #[.bool false,.string ⟨#[2]⟩],u41,u42,u43,u44,u45,u46,undef,undef,undef],defers:=[] }∧Bk Wn w.heap.size #[.bool m',.string o1]∧Nk Wn (w.heap.size+1) false ⟨#[]⟩ 0)∨(fu=6∧li=#[true,true,false,false,false,false,false,false]∧ac={tmps:=#[.agg #[.bool n,.string s],.int .i64 e1,.pointer (some ⟨w.heap.size,0,none⟩),undef,.pointer (some ⟨w.heap.size+1,0,none⟩),.agg #[.bool n,.string s],.agg #[.bool m',.string o],.pointer (some { block:=w.heap.size,off:=1 }),.string o,.bool false,undef,.pointer (some { block:=w.heap.size,off:=1 }),.string o0,.pointer (some { block:=w.heap.size,off:=1 }),.string o0,.int .i64 (↑k0+1),.int .i64 ↑k0,.int .u8 (((num o0:Nat):Int) % 256),.bool false,u19,u20,u21,u22,u23,u24,u25,u26,u27,u28,.pointer (some { block:=w.heap.size,off:=1 }),.string o1,.pointer (some { block:=w.heap.size,off:=1 }),.string o1,.int .i64 (↑k+1),.int .i64 ↑k,.int .u8 (((num o1:Nat):Int) % 256),.int .u8 (((num o1:Nat):Int) % 2),.bool true,u38,.agg #[.bool m',.string o1],.agg #[.bool false,.string ⟨#[2]⟩],u41,u42,u43,u44,u45,u46,undef,undef,undef],defers:=[] }∧Bk Wn w.heap.size #[.bool m',.string o1]∧Nk Wn (w.heap.size+1) false ⟨#[]⟩ 0)∨(fu=5∧li=#[true,true,true,false,false,false,false,false]∧ac={tmps:=#[.agg #[.bool n,.string s],.int .i64 e1,.pointer (some ⟨w.heap.size,0,none⟩),undef,.pointer (some ⟨w.heap.size+1,0,none⟩),.agg #[.bool n,.string s],.agg #[.bool m',.string o],.pointer (some { block:=w.heap.size,off:=1 }),.string o,.bool false,undef,.pointer (some { block:=w.heap.size,off:=1 }),.string o0,.pointer (some { block:=w.heap.size,off:=1 }),.string o0,.int .i64 (↑k0+1),.int .i64 ↑k0,.int .u8 (((num o0:Nat):Int) % 256),.bool false,u19,u20,u21,u22,u23,u24,u25,u26,u27,u28,.pointer (some { block:=w.heap.size,off:=1 }),.string o1,.pointer (some { block:=w.heap.size,off:=1 }),.string o1,.int .i64 (↑k+1),.int .i64 ↑k,.int .u8 (((num o1:Nat):Int) % 256),.int .u8 (((num o1:Nat):Int) % 2),.bool true,u38,.agg #[.bool m',.string o1],.agg #[.bool false,.string ⟨#[2]⟩],.tuple #[.agg #[.bool m',.string o2],.agg #[.bool false,.string ⟨#[]⟩],.bool true],u42,u43,u44,u45,u46,undef,undef,undef],defers:=[] }∧Bk Wn w.heap.size #[.bool m',.string o1]∧Nk Wn (w.heap.size+1) false ⟨#[]⟩ 0)∨(fu=0∧li=#[true,true,true,true,true,true,true,true]∧ac={tmps:=#[.agg #[.bool n,.string s],.int .i64 e1,.pointer (some ⟨w.heap.size,0,none⟩),undef,.pointer (some ⟨w.heap.size+1,0,none⟩),.agg #[.bool n,.string s],.agg #[.bool m',.string o],.pointer (some { block:=w.heap.size,off:=1 }),.string o,.bool false,undef,.pointer (some { block:=w.heap.size,off:=1 }),.string o0,.pointer (some { block:=w.heap.size,off:=1 }),.string o0,.int .i64 (↑k0+1),.int .i64 ↑k0,.int .u8 (((num o0:Nat):Int) % 256),.bool false,u19,u20,u21,u22,u23,u24,u25,u26,u27,u28,.pointer (some { block:=w.heap.size,off:=1 }),.string o1,.pointer (some { block:=w.heap.size,off:=1 }),.string o1,.int .i64 (↑k+1),.int .i64 ↑k,.int .u8 (((num o1:Nat):Int) % 256),.int .u8 (((num o1:Nat):Int) % 2),.bool true,.tuple #[.agg #[.bool m',.string o2],.agg #[.bool false,.string ⟨#[]⟩],.bool true],.agg #[.bool m',.string o1],.agg #[.bool false,.string ⟨#[2]⟩],.tuple #[.agg #[.bool m',.string o2],.agg #[.bool false,.string ⟨#[]⟩],.bool true],.agg #[.bool m',.string o2],.agg #[.bool false,.string ⟨#[]⟩],.bool true,u45,u46,undef,undef,undef],defers:=[] }∧Bk Wn w.heap.size #[.bool m',.string o2]∧Nk Wn (w.heap.size+1) false ⟨#[]⟩ 0))) (by kernel_rfl) ?_ ?_
      ·exact ⟨hb.drew,Or.inl (⟨rfl,rfl,rfl,hA.drew,hR.drew⟩)⟩
      ·clear hA hR hb hA0 hA1 hA2 hA3;rintro fu li ac Wn ⟨hS,hI⟩ IH
       rcases hI with ⟨rfl,rfl,rfl,hM,hR⟩|hI
       ·refine wpAnyH_ready (rs:=[0,1]) (by kernel_rfl) (by simp) ?_;refine AllReadyH.cons rfl (fun Kc hK=>?_) ?_
        ·obtain ⟨q0,q1,q2,q3⟩:=hM.facts;go_simp;refine hK.out _ _ (hS) (fun hS'=>?_);exact IH.out _ _ _ _ (by omega) ⟨hS',Or.inr (Or.inl (⟨rfl,by kernel_rfl,rfl,hM,hR⟩))⟩
        refine AllReadyH.cons rfl (fun Kc hK=>?_) AllReadyH.nil;go_simp;go_fit (rof_any _ 2 (by omega) (by omega) false ⟨#[2]⟩ (by kernel_rfl));rintro e V ⟨rfl,hq⟩;refine hK.out _ _ (below_next hS hq) (fun hS'=>?_);exact IH.out _ _ _ _ (by omega) ⟨hS',oR2 (Or.inl (⟨rfl,by kernel_rfl,rfl,hM.below hq,hR.below hq⟩))⟩
       rcases hI with ⟨rfl,rfl,rfl,hM,hR⟩|hI
       ·refine wpAnyH_ready (rs:=[1]) (by kernel_rfl) (by simp) ?_;refine AllReadyH.cons rfl (fun Kc hK=>?_) AllReadyH.nil;go_simp;go_fit (rof_any _ 2 (by omega) (by omega) false ⟨#[2]⟩ (by kernel_rfl));rintro e V ⟨rfl,hq⟩;refine hK.out _ _ (below_next hS hq) (fun hS'=>?_);exact IH.out _ _ _ _ (by omega) ⟨hS',oR2 (Or.inr (Or.inl (⟨rfl,by kernel_rfl,rfl,hM.below hq,hR.below hq⟩)))⟩
       rcases hI with ⟨rfl,rfl,rfl,hM,hR⟩|hI
       ·refine wpAnyH_ready (rs:=[0]) (by kernel_rfl) (by simp) ?_;refine AllReadyH.cons rfl (fun Kc hK=>?_) AllReadyH.nil;obtain ⟨q0,q1,q2,q3⟩:=hM.facts;go_simp;refine hK.out _ _ (hS) (fun hS'=>?_);exact IH.out _ _ _ _ (by omega) ⟨hS',oR2 (Or.inr (Or.inl (⟨rfl,by kernel_rfl,rfl,hM,hR⟩)))⟩
       rcases hI with ⟨rfl,rfl,rfl,hM,hR⟩|hI
       ·refine wpAnyH_ready (rs:=[2]) (by kernel_rfl) (by simp) ?_;refine AllReadyH.cons rfl (fun Kc hK=>?_) AllReadyH.nil;go_simp;go_fit (rdiv_any _ m' false o1 ⟨#[2]⟩ (by omega) (by decide) HV.out.1 m' o2 HV.out.2.1 false ⟨#[]⟩ HV.out.2.2);rintro e V ⟨rfl,hq⟩;refine hK.out _ _ (below_next hS hq) (fun hS'=>?_);exact IH.out _ _ _ _ (by omega) ⟨hS',oR4 (Or.inl (⟨rfl,by kernel_rfl,rfl,hM.below hq,hR.below hq⟩))⟩
       rcases hI with ⟨rfl,rfl,rfl,hM,hR⟩|hI
       ·refine dag_take (i:=3) (d:=some 38) (v:=Value.tuple #[.agg #[.bool m',.string o2],.agg #[.bool false,.string ⟨#[]⟩],.bool true]) rfl rfl (by kernel_rfl) (by kernel_rfl) (by kernel_rfl) (fun _ _ _ h=>h) (Or.inl ⟨by rfl,?y1⟩) hS ?_
        case y1=>intro w' hSw;go_simp;first|done|with_reducible rfl
        try simp only [Act.put,List.setIfInBounds_toArray,List.set_cons_zero,List.set_cons_succ]
        refine dag_take (i:=4) (d:=some 42) (v:=Value.agg #[.bool m',.string o2]) rfl rfl (by kernel_rfl) (by kernel_rfl) (by kernel_rfl) (fun _ _ _ h=>h) (Or.inl ⟨by rfl,?y2⟩) hS ?_
        case y2=>intro w' hSw;go_simp;first|done|with_reducible rfl
        try simp only [Act.put,List.setIfInBounds_toArray,List.set_cons_zero,List.set_cons_succ]
        refine dag_take (i:=5) (d:=some 43) (v:=Value.agg #[.bool false,.string ⟨#[]⟩]) rfl rfl (by kernel_rfl) (by kernel_rfl) (by kernel_rfl) (fun _ _ _ h=>h) (Or.inl ⟨by rfl,?y3⟩) hS ?_
        case y3=>intro w' hSw;go_simp;first|done|with_reducible rfl
        try simp only [Act.put,List.setIfInBounds_toArray,List.set_cons_zero,List.set_cons_succ]
        refine dag_take (i:=6) (d:=some 44) (v:=Value.bool true) rfl rfl (by kernel_rfl) (by kernel_rfl) (by kernel_rfl) (fun _ _ _ h=>h) (Or.inl ⟨by rfl,?y4⟩) hS ?_
        case y4=>intro w' hSw;go_simp;first|done|with_reducible rfl
        try simp only [Act.put,List.setIfInBounds_toArray,List.set_cons_zero,List.set_cons_succ]
        refine wpAnyH_ready (rs:=[7]) (by kernel_rfl) (by simp) ?_;refine AllReadyH.cons rfl (fun Kc hK=>?_) AllReadyH.nil;obtain ⟨q0,q1,q2,q3⟩:=hM.facts;go_simp;refine hK.out _ _ (below_set2 hS (Nat.le_refl _) _ _ _ _) (fun hS'=>?_);exact IH.out _ _ _ _ (by omega) ⟨hS',oR4 (Or.inr (⟨rfl,by kernel_rfl,rfl,hM.set_ _ _,(hR.far (by show w.heap.size+1≠w.heap.size;omega) _).far (by show w.heap.size+1≠w.heap.size;omega) _⟩))⟩
       obtain ⟨rfl,rfl,rfl,hM,hR⟩:=hI;clear IH;refine wpAnyH_done (by kernel_rfl) ?_ _;obtain ⟨f1,f2⟩:=rm_half HJ.out HH.out.1 HH.out.2 hM hR hS;clear HJ HH HE hM hR hS;go_wp2_with fail;go_roundw
       case rel=>exact ⟨e1+1,o2,by first|rw [hwr]|rfl,f1⟩
       case measure=>exact f2
     ·have hyi:(y:Int) % 2=1:=by omega
      have hodd:num o1 % 2=1:=by omega
      have hdf:=df_odd (e:=e1) HJ.out.2.2.2.2.2.2.2.2.2 hodd;rw [HJ.out.2.2.2.2.2.2.1,HE.out.2.2.2.2.2] at hdf;obtain ⟨_,rfl,rfl⟩:=nu_inj hdf;have HR:=Lib.hid hR;have HBb:=Lib.hid hb;obtain ⟨hR0,hR1,hR2,hR3,hR4,hR5⟩:=hR.facts;clear hdf l1 l2 hfo hnv htz hwf hkk hA hR hb hp hel hwr HJ;go_wp2_with fail;exact ret_num rfl rfl (HR.out.set3 _ _ _) ⟨rfl,below_set3 HBb.out (by omega) _ _ _ _ _ _⟩
theorem nv_mul (m n:Bool) (s t:ByteArray) (d e:Int) {z:Bool} {o:ByteArray} (h:wf (wv m s*wv n t)=wi z o):nv z o (d+e)=nv m s d*nv n t e:=by
 rw [← Dyadic.toRat_inj,Dyadic.toRat_mul,nv_toRat,nv_toRat,nv_toRat,val_of_wf h,Rat.intCast_mul,Rat.zpow_add (by decide)]
 grind
theorem ryform_any (w:World) (m:Bool) (s:ByteArray) (e:Int) (hs:s.size≤90000) (he:-1000000000000≤e∧e≤1000000000000) (m' : Bool) (s' : ByteArray) (e' : Int) (hd:df (nv m s e)=nu m' s' e') :
  Calls Tryz.prog 46 #[nu m s e] w (Ret (.agg #[.bool m',.string s',.int .i64 e']) w):=by
 have HZ:=Lib.hid hd;clear hd;unfold nu;go_enter Tryz.func46,Tryz.ntmps46;go_wp2_with fail;obtain ⟨hA,hR,hb⟩:=nblk2 w m false s ⟨#[]⟩ e 0;generalize ((w.alloc (.cells #[.bool m,.string s,.int .i64 e] 26)).alloc (.cells #[.bool false,.string ⟨#[]⟩,.int .i64 0] 26))=W0 at *;refine (rmake_any _ m s e hs (by omega) m' s' e' HZ.out).mono ?_;rintro e W ⟨rfl,hq⟩;replace hb:=below_next hb hq;replace hR:=hR.below hq;clear hq;obtain ⟨hR0,hR1,hR2,hR3,hR4,hR5⟩:=hR.facts;go_wp2;exact ret_num rfl rfl (hR.set3 _ _ _) ⟨rfl,below_set3 hb (by omega) _ _ _ _ _ _⟩
theorem rysign_any (w:World) (m:Bool) (s:ByteArray) (e:Int) (hs:s.size≤90000) (c:Int) (hc:sg (wv m s)=c) :
  Calls Tryz.prog 45 #[nu m s e] w (Ret (.int .i64 c) w):=by
 have HZ:=Lib.hid hc;clear hc;unfold nu;go_enter Tryz.func45,Tryz.ntmps45;go_wp2_with fail;obtain ⟨hA,hb⟩:=nblk1 w m s e;generalize (w.alloc (.cells #[.bool m,.string s,.int .i64 e] 26))=W0 at *;refine (rsign_any _ m s (by omega) c HZ.out).mono ?_;rintro e W ⟨rfl,hq⟩;replace hb:=below_next hb hq;clear hq;go_wp2;go_ret;exact ⟨rfl,hb⟩
theorem rytimes_any (w:World) (m n:Bool) (s t:ByteArray) (d e:Int) (hs:s.size≤40000) (ht:t.size≤40000) (hd0:-1000000000000≤d∧d≤1000000000000) (he:-1000000000000≤e∧e≤1000000000000) (m' : Bool) (s' : ByteArray) (e' : Int) (hd:df (nv m s d*nv n t e)=nu m' s' e') :
  Calls Tryz.prog 83 #[nu m s d,nu n t e] w (Ret (.agg #[.bool m',.string s',.int .i64 e']) w):=by
 obtain ⟨z,o,ez,vz,sz⟩:=times_nmw m n s t (k:=40000) (l:=40000) hs ht;have w1:IntKind.i64.wrap (d+e)=d+e:=by rw [IntKind.wrap_i64];omega
 have HZ:=Lib.hid (And.intro ez (show df (nv z o (d+e))=nu m' s' e' by rw [nv_mul m n s t d e ez];exact hd));clear ez vz hd;unfold nu;go_enter Tryz.func83,Tryz.ntmps83;go_wp2_with fail;obtain ⟨hA,hB,hR,hb⟩:=nblk3 w m n false s t ⟨#[]⟩ d e 0;generalize (((w.alloc (.cells #[.bool m,.string s,.int .i64 d] 26)).alloc (.cells #[.bool n,.string t,.int .i64 e] 26)).alloc (.cells #[.bool false,.string ⟨#[]⟩,.int .i64 0] 26))=W0 at *;have hin:=And.intro hA.drew.cells hB.drew.cells;replace hb:=hb.drew;replace hR:=hR.drew;clear hA hB
 go_region_held3 (fun w'=>(w'.cell? ⟨w.heap.size,0,none⟩=some (.bool m)∧w'.cell? ⟨w.heap.size,1,none⟩=some (.string s)∧w'.cell? ⟨w.heap.size,2,none⟩=some (.int .i64 d))∧(w'.cell? ⟨w.heap.size+1,0,none⟩=some (.bool n)∧w'.cell? ⟨w.heap.size+1,1,none⟩=some (.string t)∧w'.cell? ⟨w.heap.size+1,2,none⟩=some (.int .i64 e)))
  (first|assumption|exact h_nn (by assumption) (by assumption)|exact a_nn (by assumption)|exact s_nn (by assumption) (by simp <;> omega))
  (first
   | (go_at_call 112;go_fit (rtimes_any _ m n s t (by omega) (by omega) z o HZ.out.1);rintro e V ⟨rfl,hq⟩;replace hb:=below_next hb hq;replace hR:=hR.below hq)
   | (go_at_call 68;go_fit (rmake_any _ z o (d+e) (by omega) (by omega) m' s' e' HZ.out.2);rintro e V ⟨rfl,hq⟩;replace hb:=below_next hb hq;replace hR:=hR.below hq;obtain ⟨_,_,_,_,_,_⟩:=hR.facts))
 go_wp2;exact ret_num rfl rfl (hR.set3 _ _ _) ⟨rfl,below_set3 hb (by omega) _ _ _ _ _ _⟩
theorem ryof_any (w:World) (n:Int) (h1:-9223372036854775808≤n) (h2:n≤9223372036854775807) (m' : Bool) (s' : ByteArray) (e' : Int) (hd:df (.ofIntWithPrec n 0)=nu m' s' e') :
  Calls Tryz.prog 50 #[.int .i64 n] w (Ret (.agg #[.bool m',.string s',.int .i64 e']) w):=by
 obtain ⟨z,o,ez,vz,sz⟩:=nmw (z:=n) (k:=8) (by have:(256:Nat) ^ 8=18446744073709551616:=rfl;omega);have HZ:=Lib.hid (And.intro ez (show df (nv z o 0)=nu m' s' e' by rw [nv_of 0 ez];exact hd));clear ez vz hd;go_enter Tryz.func50,Tryz.ntmps50;go_wp2_with fail;obtain ⟨hR,hb⟩:=nblk1 w false ⟨#[]⟩ 0;generalize (w.alloc (.cells #[.bool false,.string ⟨#[]⟩,.int .i64 0] 26))=W0 at *;refine (rof_any _ n h1 h2 z o HZ.out.1).mono ?_;rintro e W ⟨rfl,hq⟩;replace hb:=below_next hb hq;replace hR:=hR.below hq;clear hq;go_wp2_with fail;refine (rmake_any _ z o 0 (by omega) (by omega) m' s' e' HZ.out.2).mono ?_;rintro e V ⟨rfl,hq⟩;replace hb:=below_next hb hq;replace hR:=hR.below hq;clear hq;obtain ⟨hR0,hR1,hR2,hR3,hR4,hR5⟩:=hR.facts;go_wp2;exact ret_num rfl rfl (hR.set3 _ _ _) ⟨rfl,below_set3 hb (by omega) _ _ _ _ _ _⟩
end Go.Proofs.YtemedphcafgolaaGreatDoor
