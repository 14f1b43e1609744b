/- Layer 1, laid together: LPart, LFacts, LCut, LRange, LParse0, LBack0. -/
import Derived.Test.YtiddgplapodleaaGreatDoorHN
import Derived.Test.YtiddgplapodleaaGreatDoorDText
import Derived.Lib.Join
import Derived.RangeFuncRecord
/- Package lit: where a text is parted;walked. -/
namespace Go.Proofs.YtiddgplapodleaaGreatDoor
set_option maxRecDepth 100000
set_option maxHeartbeats 1600000
open Go.RowKit Go.Shelf Go.Lib
def isSep (b:UInt8):Bool:=b == 112 || b == 47
def partAt (l:List UInt8):Nat:=l.findIdx isSep
def partR (l:List UInt8):Int:=match l[partAt l]? with|some b=>b.toNat|none=>0
def highIn (s:ByteArray) (k:Nat):Prop:=∃ j,j<k∧∃ h:j<s.size,128≤(s[j]'h).toNat
theorem highIn.mono {s:ByteArray} {j k:Nat} (h:highIn s j) (hk:j≤k):highIn s k:=by
 obtain ⟨i,hi,h2⟩:=h;exact ⟨i,by omega,h2⟩
def noSep (s:ByteArray) (k:Nat):Prop:=∀ j (h:j<s.size),j<k→(s[j]'h).toNat≠112∧(s[j]'h).toNat≠47
theorem isSep_nat (b:UInt8):isSep b=(decide (b.toNat=112) || decide (b.toNat=47)):=by
 have e:∀ c:UInt8,(b == c)=decide (b.toNat=c.toNat):=fun c=>by
  rw [Bool.eq_iff_iff,beq_iff_eq,decide_eq_true_eq];exact UInt8.toNat_inj.symm
 unfold isSep;rw [e,e];rfl
theorem partAt_at {s:ByteArray} {k:Nat} (hk:k<s.size) (hn:noSep s k) (h:(s[k]'hk).toNat=112∨(s[k]'hk).toNat=47):partAt s.data.toList=k∧partR s.data.toList=(s[k]'hk).toNat:=by
 have hl:s.data.toList.length=s.size:=rfl;have e:partAt s.data.toList=k:=by
  unfold partAt;rw [List.findIdx_eq (by omega)];refine ⟨?_,fun j hj=>?_⟩
  ·rw [isSep_nat]
   have:(s.data.toList[k]).toNat=(s[k]'hk).toNat:=rfl
   rw [this]
   rcases h with h|h <;> simp [h]
  ·rw [isSep_nat]
   have:(s.data.toList[j]).toNat=(s[j]'(by omega)).toNat:=rfl
   rw [this]
   have:=hn j (by omega) hj
   simp [this.1,this.2]
 refine ⟨e,?_⟩;unfold partR;rw [e,List.getElem?_eq_getElem (by omega)];rfl
theorem partAt_end {s:ByteArray} (hn:noSep s s.size):partAt s.data.toList=s.size∧partR s.data.toList=0:=by
 have hl:s.data.toList.length=s.size:=rfl;have e:partAt s.data.toList=s.size:=by
  unfold partAt;rw [← hl,List.findIdx_eq_length];intro x hx;obtain ⟨j,hj,rfl⟩:=List.mem_iff_getElem.1 hx;rw [isSep_nat]
  have:(s.data.toList[j]).toNat=(s[j]'(by omega)).toNat:=rfl
  rw [this]
  have:=hn j (by omega) (by omega)
  simp [this.1,this.2]
 refine ⟨e,?_⟩;unfold partR;rw [e,List.getElem?_eq_none (by omega)]
def PartOk (s:ByteArray) (k:Nat) (r:Int):Prop:=k≤s.size∧((k=partAt s.data.toList∧r=partR s.data.toList)∨highIn s k)
def PartI (w wr:World) (s:ByteArray) (k:Nat):Prop:=((noSep s k∧k≤s.size)∨highIn s k)∧wr.heap[w.heap.size]?=some (.stringIter s k)∧Below w.heap.size w wr
theorem parting_any (w:World) (s:ByteArray) (_hs:s.size≤1000000000) :
  Calls Tryz.prog 31 #[.string s] w (fun e w'=>∃ (k:Nat) (r:Int),e=.returned (.tuple #[.int .i64 k,.int .i32 r])∧PartOk s k r∧Below w.heap.size w w'):=by
 have hS0:PartI w (w.iter s 0) s 0:=⟨.inl ⟨fun j h hj=>by omega,Nat.zero_le _⟩,World.iter_heap w s 0,(Below.refl w.heap.size w).alloc (Nat.le_refl _) _⟩;go_enter Tryz.func31,Tryz.ntmps31;go_wp2
 go_loopw [] (fun wr=>∃ k:Nat,PartI w wr s k) (fun wr=>s.size-wr.iterPos w.heap.size)
 case atStart=>exact ⟨0,hS0⟩
 case round =>
  clear hS0;obtain ⟨k,hI,hit,hb⟩:=hrel
  by_cases hks:k<s.size
  ·by_cases ha:(s[k]'hks).toNat<128
   ·have hnx:∀ ty,(Instr.next (.pointer (some ⟨w.heap.size,0,none⟩)) true ty).run Tryz.prog wr=_:=fun ty=>Lib.run_next_ascii_at wr w.heap.size s k ty hit hks ha;obtain ⟨y,hy⟩:∃ y:Nat,(s[k]'hks).toNat=y:=⟨_,rfl⟩;rw [hy] at hnx
    by_cases hp:y=112∨y=47
    ·have hok:PartOk s k y:=by
      refine ⟨by omega,?_⟩
      rcases hI with hI|hI
      ·have:=partAt_at hks hI.1 (by rw [hy];exact hp)
       exact .inl ⟨this.1.symm,by rw [this.2,hy]⟩
      ·exact .inr hI
     have HK:=Lib.hid hok;clear hok hI hy ha
     rcases hp with rfl|rfl
     ·go_wp2;go_ret2;exact ⟨k,112,rfl,HK.out,below_iterAt hb (Nat.le_refl _) _ _⟩
     ·go_wp2;go_ret2;exact ⟨k,47,rfl,HK.out,below_iterAt hb (Nat.le_refl _) _ _⟩
    ·have b1:((y:Int) == 112)=false:=by rw [beq_eq_false_iff_ne];omega
     have b2:((y:Int) == 47)=false:=by rw [beq_eq_false_iff_ne];omega
     have hR:PartI w (wr.iterAt w.heap.size s (k+1)) s (k+1):=by
      refine ⟨?_,Lib.iterAt_heap _ _ _ _ _ hit,below_iterAt hb (Nat.le_refl _) _ _⟩
      rcases hI with hI|hI
      ·refine .inl ⟨fun j h hj=>?_,hks⟩
       rcases Nat.lt_or_eq_of_le (Nat.le_of_lt_succ hj) with h2|h2
       ·exact hI.1 j h h2
       ·subst h2;omega
      ·exact .inr (hI.mono (by omega))
     have hpos:=iterPos_of hR.2.1;have hpos0:=iterPos_of hit;have HR:=Lib.hid (And.intro hR (And.intro hpos hpos0));clear hI hR hpos hpos0 hy ha hp;go_wp2;go_roundw
     case rel=>exact ⟨_,HR.out.1⟩
     case measure=>rw [HR.out.2.1,HR.out.2.2];omega
   ·have hnx:∀ ty,(Instr.next (.pointer (some ⟨w.heap.size,0,none⟩)) true ty).run Tryz.prog wr=_:=fun ty=>Lib.run_next_any_at wr w.heap.size s k ty hit hks;have hdh:=decode_high s k hks (by omega);have hR:PartI w (wr.iterAt w.heap.size s (k+(Utf8.decode s k).2)) s (k+(Utf8.decode s k).2):=
     ⟨.inr ⟨k,by omega,hks,by omega⟩,Lib.iterAt_heap _ _ _ _ _ hit,below_iterAt hb (Nat.le_refl _) _ _⟩
    generalize (Utf8.decode s k).1=y at hnx hdh;generalize (Utf8.decode s k).2=wd at hnx hdh hR;have b1:((y:Int) == 112)=false:=by rw [beq_eq_false_iff_ne];omega
    have b2:((y:Int) == 47)=false:=by rw [beq_eq_false_iff_ne];omega
    have hpos:=iterPos_of hR.2.1;have hpos0:=iterPos_of hit;have HR:=Lib.hid (And.intro hR (And.intro hpos hpos0));clear hI hR hpos hpos0;go_wp2;go_roundw
    case rel=>exact ⟨_,HR.out.1⟩
    case measure=>rw [HR.out.2.1,HR.out.2.2];omega
  ·have hok:PartOk s s.size 0∨(PartOk s s.size 0):=by
    left
    refine ⟨Nat.le_refl _,?_⟩
    rcases hI with hI|⟨j,hj,hjs,h⟩
    ·have e:k=s.size:=by omega
     subst e
     have:=partAt_end hI.1
     exact .inl ⟨this.1.symm,this.2.symm⟩
    ·exact .inr ⟨j,hjs,hjs,h⟩
   have hnx:∀ ty,(Instr.next (.pointer (some ⟨w.heap.size,0,none⟩)) true ty).run Tryz.prog wr=_:=fun ty=>Lib.run_next_end_at wr w.heap.size s k ty hit (by omega);have HK:=Lib.hid (hok.elim id id);clear hok hI;go_wp2;go_ret2;exact ⟨s.size,0,rfl,HK.out,hb⟩
def numT (z:Int) (e:Int):List UInt8:=itoa z++if e=0 then [] else 112::itoa e
theorem itoa_byte {z:Int} {b:UInt8} (h:b∈itoa z):b.toNat=45∨(48≤b.toNat∧b.toNat≤57):=by
 have hd:∀ u,b∈decDigits u→48≤b.toNat∧b.toNat≤57:=fun u hb=>by
  have:=List.all_eq_true.1 (decDigits_dig u) b hb
  unfold isDig at this;simpa using this
 unfold itoa at h
 split at h
 ·rcases List.mem_cons.1 h with rfl|h
  ·exact .inl rfl
  ·exact .inr (hd _ h)
 ·exact .inr (hd _ h)
theorem itoa_ne (z:Int):itoa z≠[]:=by
 unfold itoa
 split
 ·simp
 ·exact decDigits_ne _
theorem not_sep {z:Int} {b:UInt8} (h:b∈itoa z):isSep b=false:=by
 rw [isSep_nat]
 rcases itoa_byte h with h|h
 ·simp [h]
 ·simp;omega
theorem partAt_itoa (z:Int) (t:List UInt8):partAt (itoa z++112::t)=(itoa z).length∧partR (itoa z++112::t)=112:=by
 have e:partAt (itoa z++112::t)=(itoa z).length:=by
  unfold partAt;rw [List.findIdx_eq (by simp)];refine ⟨?_,fun j hj=>?_⟩
  ·rw [List.getElem_append_right (Nat.le_refl _)];simp [isSep]
  ·rw [List.getElem_append_left hj];exact not_sep (List.getElem_mem hj)
 refine ⟨e,?_⟩;unfold partR;rw [e,List.getElem?_append_right (Nat.le_refl _),Nat.sub_self];rfl
theorem partAt_slash (z:Int) (t:List UInt8):partAt (itoa z++47::t)=(itoa z).length∧partR (itoa z++47::t)=47:=by
 have e:partAt (itoa z++47::t)=(itoa z).length:=by
  unfold partAt;rw [List.findIdx_eq (by simp)];refine ⟨?_,fun j hj=>?_⟩
  ·rw [List.getElem_append_right (Nat.le_refl _)];simp [isSep]
  ·rw [List.getElem_append_left hj];exact not_sep (List.getElem_mem hj)
 refine ⟨e,?_⟩;unfold partR;rw [e,List.getElem?_append_right (Nat.le_refl _),Nat.sub_self];rfl
theorem partAt_whole (z:Int):partAt (itoa z)=(itoa z).length∧partR (itoa z)=0:=by
 have e:partAt (itoa z)=(itoa z).length:=by
  unfold partAt;rw [List.findIdx_eq_length];intro x hx;rw [not_sep hx]
 refine ⟨e,?_⟩;unfold partR;rw [e,List.getElem?_eq_none (Nat.le_refl _)]
theorem numT_parts (z e:Int):partAt (numT z e)=(itoa z).length∧partR (numT z e)=(if e=0 then 0 else 112)∧(numT z e).take (itoa z).length=itoa z∧(e≠0→(numT z e).drop ((itoa z).length+1)=itoa e∧(itoa z).length<(numT z e).length)∧(e=0→(numT z e).length=(itoa z).length):=by
 unfold numT
 by_cases h:e=0
 ·rw [if_pos h,if_pos h,List.append_nil]
  have:=partAt_whole z
  exact ⟨this.1,this.2,List.take_length,fun h2=>absurd h h2,fun _=>rfl⟩
 ·rw [if_neg h,if_neg h]
  have:=partAt_itoa z (itoa e)
  refine ⟨this.1,this.2,List.take_left,fun _=>⟨?_,?_⟩,fun h2=>absurd h2 h⟩
  ·rw [List.drop_append,List.drop_eq_nil_of_le (by omega),show (itoa z).length+1-(itoa z).length=1 by omega];rfl
  ·simp
theorem numT_byte {z e:Int} {b:UInt8} (h:b∈numT z e):b.toNat=45∨(48≤b.toNat∧b.toNat≤57)∨b.toNat=112:=by
 unfold numT at h
 rcases List.mem_append.1 h with h|h
 ·rcases itoa_byte h with h|h
  ·exact .inl h
  ·exact .inr (.inl h)
 ·split at h
  ·cases h
  ·rcases List.mem_cons.1 h with rfl|h
   ·exact .inr (.inr rfl)
   ·rcases itoa_byte h with h|h
    ·exact .inl h
    ·exact .inr (.inl h)
theorem numT_ne (z e:Int):numT z e≠[]:=by
 unfold numT;intro h;exact itoa_ne z (List.append_eq_nil_iff.1 h).1
open Go.Lib
def cutP:List UInt8→List (List UInt8)
 | []=>[[]]
 | c::l=>if c=32 then []::cutP l else match cutP l with
  | h::t=>(c::h)::t
  | []=>[[c]]
theorem cutP_whole:∀ (a:List UInt8),(∀ x∈a,x≠32)→cutP a=[a]
 | [],_=>rfl
 | c::a,h=>by
  have h1:=cutP_whole a fun x hx=>h x (List.mem_cons_of_mem _ hx);have h2:=h c List.mem_cons_self;unfold cutP;rw [if_neg h2,h1]
theorem cutP_cut:∀ (a b:List UInt8),(∀ x∈a,x≠32)→cutP (a++32::b)=a::cutP b
 | [],b,_=>by
  show cutP (32::b)=[]::cutP b;rw [cutP,if_pos rfl]
 | c::a,b,h=>by
  have h1:=cutP_cut a b fun x hx=>h x (List.mem_cons_of_mem _ hx);have h2:=h c List.mem_cons_self;show cutP (c::(a++32::b))=(c::a)::cutP b;rw [cutP,if_neg h2,h1]
theorem blank_at:∀ (l:List UInt8) (o:Int),Lib.indexByte l 32=o→(o=-1∧∀ x∈l,x≠32)∨(∃ k:Nat,o=(k:Int)∧k<l.length∧(∀ x∈l.take k,x≠32)∧l=l.take k++32::l.drop (k+1))
 | [],o,h=>by
  unfold Lib.indexByte at h;exact .inl ⟨h.symm,fun x hx=>by cases hx⟩
 | c::l,o,h=>by
  unfold Lib.indexByte at h
  by_cases hc:c=32
  ·subst hc;rw [if_pos (by decide)] at h;refine .inr ⟨0,h.symm,by simp,fun x hx=>?_,by simp⟩;rw [List.take_zero] at hx
   cases hx
  ·rw [if_neg (by simpa using hc)] at h
   rcases blank_at l _ rfl with ⟨h1,h2⟩|⟨k,h1,h2,h3,h4⟩
   ·rw [h1] at h;refine .inl ⟨by rw [← h];decide,fun x hx=>?_⟩
    rcases List.mem_cons.1 hx with rfl|hx
    ·exact hc
    ·exact h2 x hx
   ·rw [h1,if_neg (by rw [beq_iff_eq];omega)] at h;refine .inr ⟨k+1,by omega,by simp;omega,fun x hx=>?_,?_⟩
    ·rw [List.take_succ_cons] at hx
     rcases List.mem_cons.1 hx with rfl|hx
     ·exact hc
     ·exact h3 x hx
    ·rw [List.take_succ_cons,List.drop_succ_cons,List.cons_append,← h4]
theorem cutP_join:∀ (r:List (List UInt8)),r≠[]→(∀ t∈r,∀ x∈t,x≠32)→cutP (Lib.join r [32])=r
 | [],h,_=>absurd rfl h
 | [t],_,h=>by
  rw [Lib.join_one];exact cutP_whole t (h t List.mem_cons_self)
 | t::u::r,_,h=>by
  have h1:=cutP_join (u::r) (by simp) fun y hy=>h y (List.mem_cons_of_mem _ hy);have e:Lib.join (t::u::r) [32]=t++32::Lib.join (u::r) [32]:=by
   rw [Lib.join_cons,Lib.join_cons];unfold Lib.joinTail;simp
  rw [e,cutP_cut _ _ (h t List.mem_cons_self),h1]
def behind (r:List (List UInt8)):Nat:=(r.map fun t=>t.length+1).sum
theorem behind_snoc (r:List (List UInt8)) (t:List UInt8):behind (r++[t])=behind r+(t.length+1):=by
 unfold behind;simp
theorem cutP_behind:∀ (l:List UInt8),behind (cutP l)=l.length+1
 | []=>rfl
 | c::l=>by
  have h:=cutP_behind l;unfold cutP
  split
  ·unfold behind at *;rw [List.map_cons,List.sum_cons,h];simp;omega
  ·cases hs:cutP l with
   | nil=>rw [hs] at h;simp [behind] at h
   | cons a t =>
    rw [hs] at h;unfold behind at *;rw [List.map_cons,List.sum_cons] at *;simp at *;omega
theorem behind_app (a b:List (List UInt8)):behind (a++b)=behind a+behind b:=by
 unfold behind;simp
open Go.RowKit
def recL (fn:FuncId) (tmps:Array Value) (ps:Array Tmp) (assign body:Code) (D:Nat) (st:LoopState) (pe:Option Code):Loop:=
 { state:=st,pending:=pe,fn:=fn,tmps:=tmps,params:=ps,assign:=assign,body:=body,defers:=D }
def loopW (w:World) (r:Loop):World:=(w.alloc (.deferred (some []))).alloc (.loop r)
theorem loopW_rec (w:World) (r:Loop):(loopW w r).heap[w.heap.size+1]?=some (.loop r):=by
 have h:=World.alloc_heap_new (w.alloc (.deferred (some []))) (.loop r)
 rwa [World.size_alloc] at h
theorem loopW_def (w:World) (r:Loop):(loopW w r).heap[w.heap.size]?=some (.deferred (some [])):=
 (Below.heap_alloc _ _ _ (by simp)).trans (World.alloc_heap_new w _)
theorem loopW_below (w:World) (r:Loop) {k:Nat} (hk:k≤w.heap.size):Below k w (loopW w r):=((Below.refl k w).alloc hk _).alloc (by simp;omega) _
theorem range_enter {F:Fence} {n:Nat} {P:Program} {g:Operand} {ps:Array Tmp} {assign body:Code} {Q:Exit→Act→World→Prop} {a:Act} {w:World} (hro:F.round=none) (h1:1≤n)
  {gf:Nat} {lb:Array Value} (hg:a.eval g=.func (.func gf) #[] lb) (hFg:F.fn gf) (eg:∀ args w,(callFunc gf args).run P w=.ok (.enter gf args) w)
  (h:∀ fn,F.fn fn→CallsIn F (n-1) P gf (#[.func (.yield (w.heap.size+1)) #[] #[]]++lb) (loopW w (recL fn a.tmps ps assign body w.heap.size .ready none))
   (rangePost F n P (w.heap.size+1) Q { a with defers:=[{ target:=.collected w.heap.size,args:=#[] }]++a.defers })) :
  (Code.rangeFunc g ps assign body).wpIn F n P Q a w:=by
 refine wpIn_rangeFunc fun fn hfn=>?_;rw [hro];have he:=run_enterLoop_outer (P:=P) (w:=w) fn a.tmps ps assign body;refine ⟨w.heap.size+1,[{ target:=.collected w.heap.size,args:=#[] }],loopW w (recL fn a.tmps ps assign body w.heap.size .ready none),{ target:=.fn (.func gf) lb,args:=#[.func (.yield (w.heap.size+1)) #[] #[]] },loopW w (recL fn a.tmps ps assign body w.heap.size .ready none),gf,
  #[.func (.yield (w.heap.size+1)) #[] #[]]++lb,loopW w (recL fn a.tmps ps assign body w.heap.size .ready none),he,?_,?_,?_,fun _=>h1,?_⟩
 ·simp only [resolve,hg];simp [go_sem]
 ·intro f' hf';simp [Target.leads] at hf';subst hf';exact hFg
 ·simp [invoke,go_sem,eg]
 ·exact h fn hfn
def roundL (l:Nat) (rec:LoopState→Option Code→Loop) (R:Ending→World→Prop):Exit→Act→World→Prop
 | .normal,_,W=>W.heap[l]?=some (.loop (rec .busy none))∧R (.returned (.bool true)) (W.putObj l (.loop (rec .ready none)))
 | .ret,_,W=>W.heap[l]?=some (.loop (rec .busy none))∧R (.returned (.bool false)) (W.putObj l (.loop (rec .done (some .ret))))
 | _,_,_=>False
theorem range_round {F:Fence} {m:Nat} {P:Program} {l D:Nat} {fn:FuncId} {tmps:Array Value} {ps:Array Tmp} {assign body:Code} {args:Array Value} {W:World} {R:Ending→World→Prop} (hfn:F.fn fn) (hps:args.size=ps.size)
  (hl:W.heap[l]?=some (.loop (recL fn tmps ps assign body D .ready none)))
  (h:assign.wpIn (F.inRound l) m P (Exit.then (fun a₁ w₁=>w₁=W∧body.wpIn (F.inRound l) m P (roundL l (recL fn tmps ps assign body D) R) a₁ (W.putObj l (.loop (recL fn tmps ps assign body D .busy none)))) (fun _ _ _=>False))
   {tmps:=(ps.zip args).foldl (fun t (p,v)=>t.setIfInBounds p v) tmps,defers:=[] } W) :
  YieldAt F m P l args W R:=by
 refine ⟨fn,_,assign,body,run_yield hl hps,roundIn_of_wpIn hfn (wpIn_mono h ?_)⟩;rintro e a3 W3 hp
 cases e with
 | normal =>
  obtain ⟨rfl,hb⟩:=hp;refine ⟨_,run_beginRound hl rfl,wpIn_mono hb ?_⟩;rintro e a4 W4 hq
  cases e with
  | normal=>exact ⟨_,_,run_endRound none hq.1,hq.2⟩
  | ret=>exact ⟨_,_,run_endRound (some .ret) hq.1,hq.2⟩
  | exit id=>exact hq.elim
  | goto t=>exact hq.elim
  | panic ch=>exact hq.elim
  | outgrown=>exact hq.elim
 | ret=>exact hp.elim
 | exit id=>exact hp.elim
 | goto t=>exact hp.elim
 | panic ch=>exact hp.elim
 | outgrown=>exact hp.elim
theorem range_done {F:Fence} {n:Nat} {P:Program} {l D:Nat} {fn:FuncId} {tmps:Array Value} {ps:Array Tmp} {assign body:Code} {Q:Exit→Act→World→Prop} {a:Act} {W:World} {v:Value}
  (hl:W.heap[l]?=some (.loop (recL fn tmps ps assign body D .ready none))) (h:Q .normal a (W.putObj l (.loop (recL fn tmps ps assign body D .exhausted none)))):rangePost F n P l Q a (.returned v) W:=
 ⟨none,_,run_endLoop hl (by simp [recL]),h⟩
theorem range_ret {F:Fence} {n:Nat} {P:Program} {l D:Nat} {fn:FuncId} {tmps:Array Value} {ps:Array Tmp} {assign body:Code} {Q:Exit→Act→World→Prop} {a:Act} {W:World} {v:Value}
  (hl:W.heap[l]?=some (.loop (recL fn tmps ps assign body D .done (some .ret)))) (h:Code.ret.wpIn F n P Q a (W.putObj l (.loop (recL fn tmps ps assign body D .exhausted (some .ret))))):rangePost F n P l Q a (.returned v) W:=
 ⟨some .ret,_,run_endLoop hl (by simp [recL]),h⟩
def dI (z e:Int):Dyadic:=.ofIntWithPrec z (-e)
theorem nv_dI (m:Bool) (s:ByteArray) (e:Int):nv m s e=dI (wv m s) e:=rfl
def LitAt (l:List UInt8) (k:Nat) (r:Int) (z:Bool) (o:ByteArray) (x p c:Int):Prop:=
 (isBad (l.take k)=true∧z=false∧o=⟨#[]⟩∧x=0∧p=badPlace (l.take k)∧c=2) ∨
 (isBad (l.take k)=false ∧
  ((k=l.length∧df (dI (tV (l.take k)) 0)=nu z o x∧p=0∧c=0) ∨
   (k<l.length ∧
    ((isBad (l.drop (k+1))=true∧z=false∧o=⟨#[]⟩∧x=0∧p=k+1+badPlace (l.drop (k+1))∧c=2) ∨
    (isBad (l.drop (k+1))=false ∧
     ((r=47∧(∃ e,df (dI (tV (l.drop (k+1))) 0)=nu false ⟨#[1]⟩ e∧df (dI (tV (l.take k)) (-e))=nu z o x)∧p=0∧c=0) ∨
      (r=47∧(∀ e,df (dI (tV (l.drop (k+1))) 0)≠nu false ⟨#[1]⟩ e)∧z=false∧o=⟨#[]⟩∧x=0∧p=0∧c=1) ∨
      (r=112∧(-32768≤tV (l.drop (k+1))∧tV (l.drop (k+1))≤32768)∧df (dI (tV (l.take k)) (tV (l.drop (k+1))))=nu z o x∧p=0∧c=0) ∨
      (r=112∧¬ (-32768≤tV (l.drop (k+1))∧tV (l.drop (k+1))≤32768)∧z=false∧o=⟨#[]⟩∧x=0∧p=0∧c=3)))))))
theorem head_text (t:ByteArray) (k:Nat):(t.extract 0 k).data.toList=t.data.toList.take k:=by
 rw [ByteArray.data_extract];simp
theorem tail_text (t:ByteArray) (k:Nat):(t.extract k t.size).data.toList=t.data.toList.drop k:=by
 rw [ByteArray.data_extract];simp;exact List.take_of_length_le (by rw [List.length_drop];exact Nat.le_refl _)
theorem bad_high {s:ByteArray} {k:Nat} (hk:k≤s.size) (h:highIn s k):isBad (s.data.toList.take k)=true:=by
 obtain ⟨j,hj,hjs,h128⟩:=h
 cases hb:isBad (s.data.toList.take k) with
 | true=>rfl
 | false =>
  exfalso
  have hl:s.data.toList.length=s.size:=rfl;have hjl:j<(s.data.toList.take k).length:=by rw [List.length_take];omega
  have hg:=(not_bad hb).1 j hjl;rw [badAt_get hjl] at hg;have hge:(s.data.toList.take k)[j].toNat=(s[j]'hjs).toNat:=by rw [List.getElem_take];rfl
  have h45:((s.data.toList.take k)[j] == 45)=false:=by
   rw [beq_nat,hge];exact decide_eq_false (by show ¬ _=45;omega)
  have hd:isDig (s.data.toList.take k)[j]=false:=by
   unfold isDig;rw [hge];exact decide_eq_false (by omega)
  rw [h45,hd] at hg;simp at hg
theorem partR_sep {l:List UInt8} (h:partAt l<l.length):partR l=112∨partR l=47:=by
 have hp:=List.findIdx_getElem (p:=isSep) (w:=h);unfold partR;rw [List.getElem?_eq_getElem h];rw [isSep_nat] at hp;show ((l[partAt l].toNat:Nat):Int)=112∨((l[partAt l].toNat:Nat):Int)=47;have hp1:(l[List.findIdx isSep l]).toNat=112∨(l[List.findIdx isSep l]).toNat=47:=by simpa using hp
 have hp2:l[partAt l].toNat=112∨l[partAt l].toNat=47:=hp1;omega
theorem tV_small {l:List UInt8} {z:Bool} {o:ByteArray} {q:Nat} (hbad:isBad l=false) (hz:wf (tV l)=wi z o) (hq:l.length≤q):o.size≤q:=by
 obtain ⟨g1,_,_⟩:=good_text hbad;have h1:=dV_lt _ g1;have h2:(tV l).natAbs=dV (bodyOf l):=by
  unfold tV
  split <;> simp
 have h3:(bodyOf l).length≤q:=by
  unfold bodyOf;rw [List.length_drop];omega
 obtain ⟨n,s,e,_,hs⟩:=nmw (z:=tV l) (k:=q) (by
  rw [h2];exact Nat.lt_of_lt_of_le h1 (Nat.le_trans (Nat.pow_le_pow_right (by decide) h3) (Nat.pow_le_pow_left (by decide) _)))
 obtain ⟨_,rfl⟩:=wi_inj (e.symm.trans hz);exact hs
theorem tV_named {l:List UInt8} {q:Nat} (hbad:isBad l=false) (hq:l.length≤q):∃ z o,wf (tV l)=wi z o∧wv z o=tV l∧o.size≤q:=by
 refine ⟨decide (tV l<0),fb (tV l).natAbs,rfl,?_,tV_small hbad rfl hq⟩;unfold wv;rw [num_fb]
 by_cases hz:tV l<0
 ·simp [hz];omega
 ·simp [hz];omega
theorem dI_self (x:Dyadic):dI (dm x) (de x)=x:=by
 obtain ⟨m,s,e,h⟩:=df_some x;obtain ⟨h1,h2,h3,_⟩:=df_parts h;rw [← h1,← h2];exact h3
theorem own_part {x:Dyadic} {s:ByteArray} (hs:s.data.toList=numT (dm x) (de x)) {k:Nat} {r:Int} (hP:PartOk s k r):k=(itoa (dm x)).length∧r=if de x=0 then 0 else 112:=by
 obtain ⟨h1,h2,-⟩:=numT_parts (dm x) (de x)
 rcases hP.2 with h|⟨j,hj,hjs,h⟩
 ·rw [hs,h1,h2] at h;exact h
 ·exfalso
  have hm:s.data.toList[j]'(by show j<s.size;exact hjs)∈s.data.toList:=List.getElem_mem _;have hb:(s.data.toList[j]'(by show j<s.size;exact hjs)).toNat=(s[j]'hjs).toNat:=rfl;generalize s.data.toList[j]'(by show j<s.size;exact hjs)=b at hm hb;rw [hs] at hm
  have:=numT_byte hm
  omega
theorem own_parsed {x:Dyadic} {s:ByteArray} (hs:s.data.toList=numT (dm x) (de x)) (he:-32768≤de x∧de x≤32768) {k:Nat} {r:Int} {z:Bool} {o:ByteArray} {e p c:Int} (hP:PartOk s k r) (h:LitAt s.data.toList k r z o e p c) :
  df x=nu z o e∧p=0∧c=0:=by
 obtain ⟨hk,hr⟩:=own_part hs hP;obtain ⟨-,-,h3,h4,h5⟩:=numT_parts (dm x) (de x);obtain ⟨g1,g2⟩:=itoa_good (dm x);obtain ⟨g3,g4⟩:=itoa_good (de x);have hl:=dI_self x;unfold LitAt at h;rw [hs,hk,h3,g1,g2] at h
 rcases h with h|⟨-,h⟩
 ·cases h.1
 rcases h with ⟨h6,h7,h8,h9⟩|⟨h6,h⟩
 ·have h0:de x=0:=by
   by_cases hd:de x=0
   ·exact hd
   ·have:=(h4 hd).2
    omega
  rw [h0] at hl;rw [hl] at h7;exact ⟨h7,h8,h9⟩
 ·have h0:de x≠0:=by
   intro hd
   have:=h5 hd
   omega
  rw [(h4 h0).1,g3,g4] at h;rw [if_neg h0] at hr
  rcases h with h|⟨-,h⟩
  ·cases h.1
  rcases h with h|h|h|h
  ·omega
  ·omega
  ·rw [hl] at h;exact ⟨h.2.2.1,h.2.2.2.1,h.2.2.2.2⟩
  ·exact absurd he h.2.1
theorem lit_kinds {l:List UInt8} {k:Nat} {r:Int} {z:Bool} {o:ByteArray} {x p c:Int} (h:LitAt l k r z o x p c) :
  (c=0∧p=0∧∃ X,df X=nu z o x)∨(c≠0∧z=false∧o=⟨#[]⟩∧x=0):=by
 unfold LitAt at h
 rcases h with ⟨-,h1,h2,h3,-,h4⟩|⟨-,⟨-,h1,h2,h3⟩|⟨-,⟨-,h1,h2,h3,-,h4⟩|⟨-,⟨-,⟨e,-,h1⟩,h2,h3⟩|⟨-,-,h1,h2,h3,-,h4⟩|⟨-,-,h1,h2,h3⟩|⟨-,-,h1,h2,h3,-,h4⟩⟩⟩⟩
 ·exact .inr ⟨by omega,h1,h2,h3⟩
 ·exact .inl ⟨h3,h2,_,h1⟩
 ·exact .inr ⟨by omega,h1,h2,h3⟩
 ·exact .inl ⟨h3,h2,_,h1⟩
 ·exact .inr ⟨by omega,h1,h2,h3⟩
 ·exact .inl ⟨h3,h2,_,h1⟩
 ·exact .inr ⟨by omega,h1,h2,h3⟩
end Go.Proofs.YtiddgplapodleaaGreatDoor
