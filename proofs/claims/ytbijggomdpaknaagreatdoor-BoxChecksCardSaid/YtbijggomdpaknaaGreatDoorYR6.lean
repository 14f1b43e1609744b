/- The document's answer for dyadic numbers: Sub, Cmp, Add; walked. -/
import Derived.Test.YtbijggomdpaknaaGreatDoorYR5
import Derived.Test.YtbijggomdpaknaaGreatDoorHP
namespace Go.Proofs.YtbijggomdpaknaaGreatDoor
set_option maxRecDepth 100000
set_option maxHeartbeats 1600000
open Go.RowKit Go.Shelf
theorem neg_form {n n1:Bool} {t t1:ByteArray} {e e1:Int} (h:df (nv (!n) t e)=nu n1 t1 e1) (ht:t.size≤1000) (he:-10000≤e∧e≤10000):nv n1 t1 e1=-nv n t e∧t1.size≤1000∧-20000≤e1∧e1≤20000:=by
 obtain ⟨h1,h2⟩:=df_exp h ht;refine ⟨?_,h2,by omega,by omega⟩;rw [(df_parts h).2.2.1,nv_neg]
theorem form_size {m n m1:Bool} {s t s1:ByteArray} {d e e1:Int} (h:df (nv m s d-nv n t e)=nu m1 s1 e1) (hs:s.size≤1000) (ht:t.size≤1000) (hd0:-10000≤d∧d≤10000) (he:-10000≤e∧e≤10000):s1.size≤90000:=by
 obtain ⟨z1,o1,f1,g1⟩:=scaled (m:=m) (s:=s) (e:=d) 10000 (B:=1000) (K:=2500) hs (by omega) (by omega);obtain ⟨z2,o2,f2,g2⟩:=scaled (m:=!n) (s:=t) (e:=e) 10000 (B:=1000) (K:=2500) ht (by omega) (by omega);rw [dy_sub,nv_neg,f1,f2] at h;obtain ⟨z,o,f3,g3⟩:=nv_add_same (m:=z1) (n:=z2) (-((10000:Nat):Int)) g1 g2;rw [f3] at h
 have:=(df_exp h g3).2
 omega
theorem rysub_any (w:World) (m n:Bool) (s t:ByteArray) (d e:Int) (hs:s.size≤1000) (ht:t.size≤1000) (hd0:-10000≤d∧d≤10000) (he:-10000≤e∧e≤10000) (m' : Bool) (s' : ByteArray) (e' : Int) (hd:df (nv m s d-nv n t e)=nu m' s' e') :
  Calls Tryz.prog 71 #[nu m s d,nu n t e] w (Ret (.agg #[.bool m',.string s',.int .i64 e']) w):=by
 obtain ⟨n1,t1,e1,h1⟩:=df_some (nv (!n) t e);obtain ⟨g1,g2,g3,g4⟩:=neg_form h1 ht he;rw [dy_sub,← g1] at hd;have HZ:=Lib.hid (And.intro h1 hd);clear h1 hd g1;unfold nu;go_enter Tryz.func71,Tryz.ntmps71;go_wp2_with fail;obtain ⟨hA,hB,hR,hb⟩:=nblk3 w m n false s t ⟨#[]⟩ d e 0;generalize (((w.alloc (.cells #[.bool m,.string s,.int .i64 d] 36)).alloc (.cells #[.bool n,.string t,.int .i64 e] 36)).alloc (.cells #[.bool false,.string ⟨#[]⟩,.int .i64 0] 36))=W0 at *;have hin:=And.intro hA.drew.cells hB.drew.cells;replace hb:=hb.drew;replace hR:=hR.drew;clear hA hB
 go_region_held3 (fun w'=>(w'.cell? ⟨w.heap.size,0,none⟩=some (.bool m)∧w'.cell? ⟨w.heap.size,1,none⟩=some (.string s)∧w'.cell? ⟨w.heap.size,2,none⟩=some (.int .i64 d))∧(w'.cell? ⟨w.heap.size+1,0,none⟩=some (.bool n)∧w'.cell? ⟨w.heap.size+1,1,none⟩=some (.string t)∧w'.cell? ⟨w.heap.size+1,2,none⟩=some (.int .i64 e)))
  (first|assumption|exact h_nn (by assumption) (by assumption)|exact a_nn (by assumption)|exact s_nn (by assumption) (by simp <;> omega))
  (first
   | (go_at_call 101;go_fit (ryneg_any _ n t e (by omega) (by omega) n1 t1 e1 HZ.out.1);rintro e V ⟨rfl,hq⟩;replace hb:=below_next hb hq;replace hR:=hR.below hq)
   | (go_at_call 100;go_fit (ryplus_any _ m n1 s t1 d e1 (by omega) (by omega) (by omega) (by omega) m' s' e' HZ.out.2);rintro e V ⟨rfl,hq⟩;replace hb:=below_next hb hq;replace hR:=hR.below hq;obtain ⟨_,_,_,_,_,_⟩:=hR.facts))
 go_wp2;exact ret_num rfl rfl (hR.set3 _ _ _) ⟨rfl,below_set3 hb (by omega) _ _ _ _ _ _⟩
theorem rycmp_any (w:World) (m n:Bool) (s t:ByteArray) (d e:Int) (hs:s.size≤1000) (ht:t.size≤1000) (hd0:-10000≤d∧d≤10000) (he:-10000≤e∧e≤10000) (c:Int) (hc:dsg (nv m s d-nv n t e)=c) :
  Calls Tryz.prog 33 #[nu m s d,nu n t e] w (Ret (.int .i64 c) w):=by
 obtain ⟨m1,s1,e1,h1⟩:=df_some (nv m s d-nv n t e);have hs1:s1.size≤90000:=form_size h1 hs ht hd0 he;have HZ:=Lib.hid (And.intro h1 (show sg (wv m1 s1)=c by rw [dsg_form h1,hc]));clear h1 hc;unfold nu;go_enter Tryz.func33,Tryz.ntmps33;go_wp2_with fail;obtain ⟨hA,hB,hb⟩:=nblk2 w m n s t d e;generalize ((w.alloc (.cells #[.bool m,.string s,.int .i64 d] 36)).alloc (.cells #[.bool n,.string t,.int .i64 e] 36))=W0 at *;refine (rysub_any _ m n s t d e hs ht hd0 he m1 s1 e1 HZ.out.1).mono ?_;rintro e W ⟨rfl,hq⟩;replace hb:=below_next hb hq;clear hq;go_wp2_with fail;refine (rysign_any _ m1 s1 e1 (by omega) c HZ.out.2).mono ?_;rintro e V ⟨rfl,hq⟩;replace hb:=below_next hb hq;clear hq;go_wp2;go_ret;exact ⟨rfl,hb⟩
end Go.Proofs.YtbijggomdpaknaaGreatDoor
