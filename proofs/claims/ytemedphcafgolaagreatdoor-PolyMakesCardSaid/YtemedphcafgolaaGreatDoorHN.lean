/- Layer 1, laid together: YNum, YMem, YLast, Y1, Y2. -/
import Derived.Test.YtemedphcafgolaaGreatDoorHW
/- Dyadic numbers,and the values that stand for them;no function is walked in this text. -/
namespace Go.Proofs.YtemedphcafgolaaGreatDoor
set_option maxRecDepth 100000
set_option maxHeartbeats 800000
open Go.RowKit Go.Shelf
def nu (m:Bool) (s:ByteArray) (e:Int):Value:=.agg #[.bool m,.string s,.int .i64 e]
def nv (m:Bool) (s:ByteArray) (e:Int):Dyadic:=.ofIntWithPrec (wv m s) (-e)
def dm:Dyadic→Int
 | .zero=>0
 | .ofOdd n _ _=>n
def de:Dyadic→Int
 | .zero=>0
 | .ofOdd _ k _=>-k
def df (x:Dyadic):Value:=nu (decide (dm x<0)) (fb (dm x).natAbs) (de x)
theorem nu_inj {m n:Bool} {s t:ByteArray} {d e:Int} (h:nu m s d=nu n t e):m=n∧s=t∧d=e:=by
 unfold nu at h;simpa using h
theorem odd_of {o e:Int} {k:Nat} (ho:o % 2=1):Dyadic.ofIntWithPrec (o*((2 ^ k:Nat):Int)) (-e)=.ofOdd o (-(e+k)) ho:=by
 have h:=Dyadic.ofIntWithPrec_shiftLeft_add (x:=o) (i:=-(e+k)) (n:=k);have e2:((2 ^ k:Nat):Int)=2 ^ k:=by rw [Int.natCast_pow];rfl
 rw [Int.shiftLeft_eq] at h;rw [Dyadic.ofOdd_eq_ofIntWithPrec,← h,e2]
 congr 1
 omega
theorem of_zero (e:Int):Dyadic.ofIntWithPrec 0 e=0:=rfl
theorem df_of {z:Int} (e:Int) (h:z≠0):df (.ofIntWithPrec z (-e))=nu (decide (z<0)) (fb (z.natAbs / 2 ^ tz z.natAbs)) (e+(tz z.natAbs:Int)):=by
 obtain ⟨t,j,ht⟩:=tz_ex (n:=z.natAbs) (by omega);have htz:tz z.natAbs=t:=by rw [ht,tz_of]
 have h2:0<2 ^ t:=Nat.two_pow_pos t;have hq:z.natAbs / 2 ^ t=2*j+1:=by rw [ht,Nat.mul_comm];exact Nat.mul_div_cancel _ h2
 rw [htz,hq]
 by_cases hn:z<0
 ·have hz:z=(-((2*j+1:Nat):Int))*((2 ^ t:Nat):Int):=by
   rw [Int.neg_mul,← Int.natCast_mul,Nat.mul_comm,← ht];omega
  have e1:=odd_of (o:=-((2*j+1:Nat):Int)) (e:=e) (k:=t) (by omega);rw [← hz] at e1;rw [e1];unfold df dm de;simp only;rw [Int.natAbs_neg,Int.natAbs_natCast,Int.neg_neg,decide_eq_true hn,decide_eq_true (by omega)]
 ·have hz:z=((2*j+1:Nat):Int)*((2 ^ t:Nat):Int):=by
   rw [← Int.natCast_mul,Nat.mul_comm,← ht];omega
  have e1:=odd_of (o:=((2*j+1:Nat):Int)) (e:=e) (k:=t) (by omega);rw [← hz] at e1;rw [e1];unfold df dm de;simp only;rw [Int.natAbs_natCast,Int.neg_neg,decide_eq_false hn,decide_eq_false (by omega)]
theorem df_zero (e:Int):df (.ofIntWithPrec 0 e)=nu false ⟨#[]⟩ 0:=rfl
theorem df_inj {x y:Dyadic} (h:df x=df y):x=y:=by
 obtain ⟨h1,h2,h3⟩:=nu_inj h;have h4:=fb_inj h2;simp only [decide_eq_decide] at h1;have h5:dm x=dm y:=by omega
 cases x with
 | zero =>
  cases y with
  | zero=>rfl
  | ofOdd n k hn=>exact absurd h5 (by show (0:Int)≠n;omega)
 | ofOdd n k hn =>
  cases y with
  | zero=>exact absurd h5 (by show n≠(0:Int);omega)
  | ofOdd n' k' hn' =>
   have e1:n=n':=h5;have e2:-k=-k':=h3;subst e1;have e3:k=k':=by omega
   subst e3;rfl
theorem nv_df (x:Dyadic):Dyadic.ofIntWithPrec (dm x) (-(de x))=x:=by
 cases x with
 | zero=>rfl
 | ofOdd n k hn =>
  show Dyadic.ofIntWithPrec n (- -k)=_;rw [Int.neg_neg,← Dyadic.ofOdd_eq_ofIntWithPrec (hn:=hn)]
theorem df_parts {x:Dyadic} {m:Bool} {s:ByteArray} {e:Int} (h:df x=nu m s e):wv m s=dm x∧e=de x∧nv m s e=x∧wf (wv m s)=wi m s:=by
 obtain ⟨h1,h2,h3⟩:=nu_inj h;have h4:wv m s=dm x:=by
  rw [← h1,← h2,sI_fb];unfold sI
  by_cases hx:dm x<0
  ·rw [decide_eq_true hx];simp;omega
  ·rw [decide_eq_false hx];simp;omega
 refine ⟨h4,h3.symm,?_,?_⟩
 ·unfold nv;rw [h4,← h3,nv_df]
 ·rw [h4,← h1,← h2];rfl
theorem df_some (x:Dyadic):∃ m s e,df x=nu m s e:=⟨_,_,_,rfl⟩
theorem nv_toRat (m:Bool) (s:ByteArray) (e:Int):(nv m s e).toRat=(wv m s:Rat)*2 ^ e:=by
 unfold nv;rw [Dyadic.toRat_ofIntWithPrec_eq_mul_two_pow,Int.neg_neg]
def Nk (W:World) (b:Nat) (m:Bool) (s:ByteArray) (e:Int):Prop:=Rw W b 26 [.bool m,.string s,.int .i64 e]
section
variable {W W' : World} {b : Nat} {m : Bool} {s : ByteArray} {e : Int}
theorem Nk.lt (h:Nk W b m s e):b<W.heap.size:=Rw.lt h
theorem Nk.new (w:World) (m:Bool) (s:ByteArray) (e:Int):Nk (w.alloc (.cells #[.bool m,.string s,.int .i64 e] 26)) w.heap.size m s e:=Rw.new w _ [.bool m,.string s,.int .i64 e]
theorem Nk.alloc (h:Nk W b m s e) (o:Obj):Nk (W.alloc o) b m s e:=Rw.alloc h o
theorem Nk.below (h:Nk W b m s e) (hq:Below W.heap.size W W'):Nk W' b m s e:=Rw.below h hq (Rw.lt h)
theorem Nk.drew (h:Nk W b m s e):Nk W.drew b m s e:=h
theorem Nk.far (h:Nk W b m s e) {p:Addr} (hp:b≠p.block) (u:Value):Nk (W.setCell p u) b m s e:=Rw.far h hp u
theorem Nk.fr {W:World} {b:Nat} {m:Bool} {s:ByteArray} {e:Int} (h:Nk W b m s e) (A k:Nat) (u:Value) (hp:b≠A:=by omega):Nk (W.setCell ⟨A,k,none⟩ u) b m s e:=h.far (p:=⟨A,k,none⟩) hp u
theorem Nk.set3 (h:Nk W b m s e) (n:Bool) (t:ByteArray) (f:Int):Nk (((W.setCell ⟨b,0,none⟩ (.bool n)).setCell ⟨b,1,none⟩ (.string t)).setCell ⟨b,2,none⟩ (.int .i64 f)) b n t f:=
 ((Rw.set_ h 0 (.bool n)).set_ 1 (.string t)).set_ 2 (.int .i64 f)
theorem Nk.facts (h:Nk W b m s e):W.cell? ⟨b,0,none⟩=some (.bool m)∧W.cell? ⟨b,1,none⟩=some (.string s)∧W.cell? ⟨b,2,none⟩=some (.int .i64 e) ∧
  W.frozen? ⟨b,0,none⟩=false∧W.frozen? ⟨b,1,none⟩=false∧W.frozen? ⟨b,2,none⟩=false:=
 ⟨Rw.cell h 0,Rw.cell h 1,Rw.cell h 2,Rw.frozen h 0,Rw.frozen h 1,Rw.frozen h 2⟩
theorem Nk.cells (h:Nk W b m s e):W.cell? ⟨b,0,none⟩=some (.bool m)∧W.cell? ⟨b,1,none⟩=some (.string s)∧W.cell? ⟨b,2,none⟩=some (.int .i64 e):=⟨Rw.cell h 0,Rw.cell h 1,Rw.cell h 2⟩
end
theorem below_set3 {B:Nat} {w W:World} (h:Below B w W) {b:Nat} (hb:B≤b) (i j k:Nat) (u v x:Value):Below B w (((W.setCell ⟨b,i,none⟩ u).setCell ⟨b,j,none⟩ v).setCell ⟨b,k,none⟩ x):=((h.setCell hb u).setCell hb v).setCell hb x
theorem infoN:(Tryz.prog.info? 26).map (·.size)=some 3:=by kernel_rfl
theorem ret_num {fn:Func} {p:Tmp} {tmps:Array Value} {W:World} {r:Nat} {m:Bool} {s:ByteArray} {e:Int} {Q:Ending→World→Prop} (h:fn.results=#[.cell p 26]) (hp:tmps.getD p undef=.pointer (some ⟨r,0,none⟩))
  (hr:Nk W r m s e) (hQ:Q (.returned (nu m s e)) W):bodyPost Tryz.prog fn Q Exit.ret {tmps:=tmps,defers:=[] } W:=
 bodyPost_ret (results_cell_row h _ W r _ _ _ _ hp hr Tryz.underlying26 rfl infoN) rfl hQ
theorem nblk1 (w:World) (m:Bool) (s:ByteArray) (e:Int):Nk (w.alloc (.cells #[.bool m,.string s,.int .i64 e] 26)) w.heap.size m s e∧Below w.heap.size w (w.alloc (.cells #[.bool m,.string s,.int .i64 e] 26)):=
 ⟨Nk.new w m s e,(Below.refl _ _).alloc (Nat.le_refl _) _⟩
theorem nblkN {B:Nat} {w W:World} (hb:Below B w W) (hB:B≤W.heap.size) (m:Bool) (s:ByteArray) (e:Int):Nk (W.alloc (.cells #[.bool m,.string s,.int .i64 e] 26)) W.heap.size m s e∧Below B w (W.alloc (.cells #[.bool m,.string s,.int .i64 e] 26)):=
 ⟨Nk.new W m s e,hb.alloc hB _⟩
theorem nblk2 (w:World) (m n:Bool) (s t:ByteArray) (e f:Int):Nk ((w.alloc (.cells #[.bool m,.string s,.int .i64 e] 26)).alloc (.cells #[.bool n,.string t,.int .i64 f] 26)) w.heap.size m s e ∧
  Nk ((w.alloc (.cells #[.bool m,.string s,.int .i64 e] 26)).alloc (.cells #[.bool n,.string t,.int .i64 f] 26)) (w.heap.size+1) n t f ∧
  Below w.heap.size w ((w.alloc (.cells #[.bool m,.string s,.int .i64 e] 26)).alloc (.cells #[.bool n,.string t,.int .i64 f] 26)):=by
 refine ⟨(Nk.new w m s e).alloc _,?_,((Below.refl _ _).alloc (Nat.le_refl _) _).alloc (by rw [World.size_alloc];omega) _⟩
 have:=Nk.new (w.alloc (.cells #[.bool m,.string s,.int .i64 e] 26)) n t f
 rwa [World.size_alloc] at this
theorem iblkN (w:World) (m n:Bool) (s t:ByteArray) (f:Int):Bk ((w.alloc (.cells #[.bool m,.string s] 24)).alloc (.cells #[.bool n,.string t,.int .i64 f] 26)) w.heap.size #[.bool m,.string s] ∧
  Nk ((w.alloc (.cells #[.bool m,.string s] 24)).alloc (.cells #[.bool n,.string t,.int .i64 f] 26)) (w.heap.size+1) n t f ∧
  Below w.heap.size w ((w.alloc (.cells #[.bool m,.string s] 24)).alloc (.cells #[.bool n,.string t,.int .i64 f] 26)):=by
 refine ⟨(Bk.new w _).alloc _,?_,((Below.refl _ _).alloc (Nat.le_refl _) _).alloc (by rw [World.size_alloc];omega) _⟩
 have:=Nk.new (w.alloc (.cells #[.bool m,.string s] 24)) n t f
 rwa [World.size_alloc] at this
theorem nblk3 (w:World) (m n q:Bool) (s t u:ByteArray) (d e f:Int):Nk (((w.alloc (.cells #[.bool m,.string s,.int .i64 d] 26)).alloc (.cells #[.bool n,.string t,.int .i64 e] 26)).alloc (.cells #[.bool q,.string u,.int .i64 f] 26)) w.heap.size m s d∧Nk (((w.alloc (.cells #[.bool m,.string s,.int .i64 d] 26)).alloc (.cells #[.bool n,.string t,.int .i64 e] 26)).alloc (.cells #[.bool q,.string u,.int .i64 f] 26)) (w.heap.size+1) n t e∧Nk (((w.alloc (.cells #[.bool m,.string s,.int .i64 d] 26)).alloc (.cells #[.bool n,.string t,.int .i64 e] 26)).alloc (.cells #[.bool q,.string u,.int .i64 f] 26)) (w.heap.size+1+1) q u f∧Below w.heap.size w (((w.alloc (.cells #[.bool m,.string s,.int .i64 d] 26)).alloc (.cells #[.bool n,.string t,.int .i64 e] 26)).alloc (.cells #[.bool q,.string u,.int .i64 f] 26)):=by
 obtain ⟨h1,h2,h3⟩:=nblk2 w m n s t d e;refine ⟨h1.alloc _,h2.alloc _,?_,h3.alloc (by rw [World.size_alloc,World.size_alloc];omega) _⟩
 have:=Nk.new ((w.alloc (.cells #[.bool m,.string s,.int .i64 d] 26)).alloc (.cells #[.bool n,.string t,.int .i64 e] 26)) q u f
 rwa [World.size_alloc,World.size_alloc] at this
theorem formL_last {n:Nat} (h:0<n):formL n=formL (n / 256)++[UInt8.ofNat n]:=by
 refine formL_of ((NZ_formL _).snoc fun he hb=>?_) ?_
 ·have h1:=numL_formL (n / 256);rw [he,numL_nil] at h1;have h2:(UInt8.ofNat n).toNat=0:=by rw [hb];rfl
  simp at h2;omega
 ·rw [numL_snoc,numL_formL];simp;omega
theorem init_text (t:ByteArray) (k:Nat):(t.extract 0 k).data.toList=t.data.toList.take k:=by
 rw [ByteArray.data_extract,Array.toList_extract];simp [List.extract]
theorem last_byte {n:Nat} {s:ByteArray} (h:0<n) (hs:fb n=s):0<s.size∧(∀ hp:s.size-1<s.size,(s[s.size-1]'hp).toNat=n % 256)∧s.extract 0 (s.size-1)=fb (n / 256):=by
 have hl:s.data.toList=formL (n / 256)++[UInt8.ofNat n]:=by rw [← hs,fb_toList,formL_last h]
 have hz:s.size=(formL (n / 256)).length+1:=by
  show s.data.toList.length=_;rw [hl];simp
 refine ⟨by omega,fun hp=>?_,?_⟩
 ·have e:(s[s.size-1]'hp)=s.data.toList[s.size-1]'hp:=rfl;rw [e];simp only [hl,hz];simp
 ·apply ByteArray.ext
  apply Array.ext'
  rw [init_text,hl,hz,fb_toList];simp
theorem df_odd {z:Bool} {o:ByteArray} {e:Int} (hwf:wf (wv z o)=wi z o) (ho:num o % 2=1):df (nv z o e)=nu z o e:=by
 have ha:=wv_abs z o;obtain ⟨w1,w2⟩:=wi_inj hwf;rw [ha] at w2;unfold nv;rw [df_of e (by omega),ha,w1];have ht:tz (num o)=0:=by
  obtain ⟨t,j,h⟩:=tz_ex (n:=num o) (by omega);rw [h,tz_of]
  rcases Nat.eq_zero_or_pos t with h0|h0
  ·exact h0
  ·exfalso
   obtain ⟨u,rfl⟩:∃ u,t=u+1:=⟨t-1,by omega⟩;rw [h,Nat.pow_succ,Nat.mul_comm (2 ^ u) 2,Nat.mul_assoc,Nat.mul_mod_right] at ho;omega
 rw [ht,Nat.pow_zero,Nat.div_one,w2]
 congr 1
 omega
theorem nv_256 {z:Bool} {A:Nat} (e:Int) (h:A % 256=0):nv z (fb A) e=nv z (fb (A / 256)) (e+8):=by
 unfold nv;rw [sI_fb,sI_fb];have h1:sI z A=(sI z (A / 256)) <<< 8:=by
  rw [Int.shiftLeft_eq];have h2:A=A / 256*256:=by omega
  cases z
  ·show (A:Int)=((A / 256:Nat):Int)*2 ^ 8;omega
  ·show -(A:Int)=-((A / 256:Nat):Int)*2 ^ 8;omega
 rw [h1,← Dyadic.ofIntWithPrec_shiftLeft_add (x:=sI z (A / 256)) (i:=-(e+8)) (n:=8)]
 congr 1
 omega
theorem nv_half {z:Bool} {A:Nat} (e:Int) (h:A % 2=0):nv z (fb A) e=nv z (fb (A / 2)) (e+1):=by
 unfold nv;rw [sI_fb,sI_fb];have h1:sI z A=(sI z (A / 2)) <<< 1:=by
  rw [Int.shiftLeft_eq];have h2:A=A / 2*2:=by omega
  cases z
  ·show (A:Int)=((A / 2:Nat):Int)*2 ^ 1;omega
  ·show -(A:Int)=-((A / 2:Nat):Int)*2 ^ 1;omega
 rw [h1,← Dyadic.ofIntWithPrec_shiftLeft_add (x:=sI z (A / 2)) (i:=-(e+1)) (n:=1)]
 congr 1
 omega
theorem moved_zero (w:World) (m:Bool) (e n:Int) (s:ByteArray) (hs:s.toList.isEmpty=true) :
  Calls Tryz.prog 103 #[nu m s e,.int .i64 n] w (Ret (.agg #[.bool false,.string ⟨#[]⟩,.int .i64 0]) w):=by
 unfold nu;go_enter Tryz.func103,Tryz.ntmps103;obtain ⟨_,hR,hb⟩:=nblk2 w m false s ⟨#[]⟩ e 0;go_wp2;exact ret_num rfl rfl hR ⟨rfl,hb⟩
theorem moved_some (w:World) (m:Bool) (s:ByteArray) (e n:Int) (hs:s.toList.isEmpty=false) (he:-1000000000000000≤e∧e≤1000000000000000) (hn:-1000000000000000≤n∧n≤1000000000000000) :
  Calls Tryz.prog 103 #[nu m s e,.int .i64 n] w (Ret (.agg #[.bool m,.string s,.int .i64 (e+n)]) w):=by
 have w1:IntKind.i64.wrap (e+n)=e+n:=by rw [IntKind.wrap_i64];omega
 have hcmp:(!decide (e≤e+n) == decide (0≤n))=false:=by
  by_cases h:0≤n
  ·rw [decide_eq_true h,decide_eq_true (by omega)];rfl
  ·rw [decide_eq_false h,decide_eq_false (by omega)];rfl
 unfold nu;go_enter Tryz.func103,Tryz.ntmps103;go_wp2_with fail;obtain ⟨_,hR,hb⟩:=nblk2 w m m s s e (e+n);exact ret_num rfl rfl hR ⟨rfl,hb⟩
theorem made_parts {n m' : Bool} {s s' : ByteArray} {e e' : Int} (hwf:wf (wv n s)=wi n s) (hd:df (nv n s e)=nu m' s' e') :
  (num s=0∧n=false∧s=⟨#[]⟩∧m'=false∧s'=⟨#[]⟩∧e'=0)∨(0<num s∧m'=n∧fb (num s / 2 ^ tz (num s))=s'∧e+(tz (num s):Int)=e'∧s'.toList.isEmpty=false∧s=fb (num s)):=by
 have ha:=wv_abs n s;obtain ⟨w1,w2⟩:=wi_inj hwf;rw [ha] at w2
 by_cases h:num s=0
 ·refine .inl ?_;have hz:wv n s=0:=by omega
  unfold nv at hd;rw [hz] at hd w1;obtain ⟨d1,d2,d3⟩:=nu_inj hd;refine ⟨h,w1.symm,?_,d1.symm,d2.symm,d3.symm⟩;rw [← w2,h];rfl
 ·refine .inr ?_;unfold nv at hd;rw [df_of e (by omega),ha] at hd;obtain ⟨d1,d2,d3⟩:=nu_inj hd;refine ⟨by omega,?_,d2,d3,?_,w2.symm⟩
  ·rw [← d1,w1]
  ·rw [← d2,fb_empty];obtain ⟨t,j,ht⟩:=tz_ex (n:=num s) (by omega);have htz:tz (num s)=t:=by rw [ht,tz_of]
   have hq:num s / 2 ^ t=2*j+1:=by rw [ht,Nat.mul_comm];exact Nat.mul_div_cancel _ (Nat.two_pow_pos t)
   rw [htz,hq];exact decide_eq_false (by omega)
theorem tz_size {s:ByteArray} {k:Nat} (h:0<num s) (hs:s.size≤k):tz (num s)≤8*k:=by
 have h1:=tz_lt h;have h2:=bl_size (k:=k) hs;omega
theorem made_any (w:World) (n:Bool) (s:ByteArray) (e:Int) (hwf:wf (wv n s)=wi n s) (hs:s.size≤1000000) (he:-100000000000000≤e∧e≤100000000000000) (m' : Bool) (s' : ByteArray) (e' : Int) (hd:df (nv n s e)=nu m' s' e') :
  Calls Tryz.prog 71 #[wi n s,.int .i64 e] w (Ret (.agg #[.bool m',.string s',.int .i64 e']) w):=by
 rcases made_parts hwf hd with ⟨h0,rfl,rfl,rfl,rfl,rfl⟩|⟨h0,rfl,hs',rfl,hne,hss⟩
 ·clear hwf hd;unfold wi;go_enter Tryz.func71,Tryz.ntmps71;go_wp2_with fail;obtain ⟨hA,hR,hb⟩:=iblkN w false false ⟨#[]⟩ ⟨#[]⟩ 0;generalize ((w.alloc (.cells #[.bool false,.string ⟨#[]⟩] 24)).alloc (.cells #[.bool false,.string ⟨#[]⟩,.int .i64 0] 26))=W0 at *;refine (use_zeros _ ⟨#[]⟩ 0 (by decide) (by kernel_rfl)).mono ?_;rintro e W ⟨rfl,hq⟩;replace hb:=below_next hb hq;replace hA:=hA.below hq;replace hR:=hR.below hq;clear hq;obtain ⟨hA0,hA1⟩:=hA.cells;go_wp2_with fail;refine (moved_zero _ false e 0 ⟨#[]⟩ (by kernel_rfl)).mono ?_;rintro e V ⟨rfl,hq⟩;replace hb:=below_next hb hq;replace hR:=hR.below hq;clear hq;obtain ⟨hR0,hR1,hR2,hR3,hR4,hR5⟩:=hR.facts;go_wp2;exact ret_num rfl rfl (hR.set3 _ _ _) ⟨rfl,below_set3 hb (by omega) _ _ _ _ _ _⟩
 ·obtain ⟨t,ht⟩:∃ t,tz (num s)=t:=⟨_,rfl⟩;have hts:=tz_size h0 hs;rw [ht] at hts hs' ⊢;have HT:=Lib.hid (show (tz (num s):Int)=(t:Int) by rw [ht]);have HS:=Lib.hid (And.intro hs' (And.intro hss hne));clear hwf hd ht hs' hss hne;unfold wi;go_enter Tryz.func71,Tryz.ntmps71;go_wp2_with fail;obtain ⟨hA,hR,hb⟩:=iblkN w m' false s ⟨#[]⟩ 0;generalize ((w.alloc (.cells #[.bool m',.string s] 24)).alloc (.cells #[.bool false,.string ⟨#[]⟩,.int .i64 0] 26))=W0 at *;refine (use_zeros _ s (t:Int) (by omega) HT.out).mono ?_;rintro e W ⟨rfl,hq⟩;replace hb:=below_next hb hq;replace hA:=hA.below hq;replace hR:=hR.below hq;clear hq;obtain ⟨hA0,hA1⟩:=hA.cells
  by_cases ht0:t=0
  ·subst ht0;have hs':=HS.out.1;rw [Nat.pow_zero,Nat.div_one,← HS.out.2.1] at hs';subst hs';go_wp2_with fail;refine (moved_some _ m' s e 0 HS.out.2.2 (by omega) (by omega)).mono ?_;rintro e V ⟨rfl,hq⟩;replace hb:=below_next hb hq;replace hR:=hR.below hq;clear hq;obtain ⟨hR0,hR1,hR2,hR3,hR4,hR5⟩:=hR.facts;go_wp2;exact ret_num rfl rfl (hR.set3 _ _ _) ⟨by simp [nu],below_set3 hb (by omega) _ _ _ _ _ _⟩
  ·have htp:(0:Int)<(t:Int):=by omega
   have hsr:fb (shrN (num s) (t:Int))=s':=by
    unfold shrN;rw [if_neg (by omega),Int.toNat_natCast];exact HS.out.1
   have HR:=Lib.hid hsr;clear hsr;go_wp2_with fail;refine (use_shr _ s s' (t:Int) (by omega) (by omega) HR.out).mono ?_;rintro e U ⟨rfl,hq⟩;replace hb:=below_next hb hq;replace hA:=hA.below hq;replace hR:=hR.below hq;clear hq;obtain ⟨hB0,hB1,hB2,hB3⟩:=hA.facts;go_wp2_with fail;replace hb:=hb.setCell (p:=⟨w.heap.size,1,none⟩) (Nat.le_refl _) (.string s');replace hR:=hR.fr (w.heap.size) 1 (.string s');refine (moved_some _ m' s' e (t:Int) HS.out.2.2 (by omega) (by omega)).mono ?_;rintro e V ⟨rfl,hq⟩;replace hb:=below_next hb hq;replace hR:=hR.below hq;clear hq;obtain ⟨hR0,hR1,hR2,hR3,hR4,hR5⟩:=hR.facts;go_wp2;exact ret_num rfl rfl (hR.set3 _ _ _) ⟨rfl,below_set3 hb (by omega) _ _ _ _ _ _⟩
end Go.Proofs.YtemedphcafgolaaGreatDoor
