/- BoxEnds (package ogeelaw11). -/
import Derived.Test.YtlmckjodahbgbaaGreatDoorBX13a
namespace Go.Proofs.YtlmckjodahbgbaaGreatDoor
set_option maxRecDepth 100000
set_option maxHeartbeats 6400000
open Go.RowKit Go.Shelf
theorem boxends_law (w:World) (ad:Option Addr) (l:List SV) (n c:Nat) (hn:l.length=n) (_hc:n≤c∧(ad=none→c=0)) (hl:SAt w ad l) (hm:n≤maxLen) (_hw:∀ x∈l,(x.1.2.1.size≤maxLen∧(Lit.int .i64 x.1.2.2).wf=true)∧(x.2.2.1.size≤maxLen∧(Lit.int .i64 x.2.2.2).wf=true))
  (z:Int) (_hz:(Lit.int .i64 z).wf=true) :
  Calls Tryz.prog 7 #[.slice ad n c,.int .i64 z] w (Ret (.bool true) w):=by
 have hv:=vast_any w ad none l [] n c 0 0 hn rfl hm (Nat.zero_le _) hl (fun i h=>absurd h (Nat.not_lt_zero _));obtain ⟨r,hr⟩:∃ r,vastB l []=r:=⟨_,rfl⟩;rw [hr] at hv;have HR:=Lib.hid hr;clear hr _hw hm _hc _hz;go_enter Tryz.func7,Tryz.ntmps7;go_wp2_with fail;refine hv.mono ?_;rintro e W ⟨rfl,hb⟩;clear hv
 cases r with
 | true =>
  have ha:=awake_any W;clear hl HR;go_wp2_with fail;refine ha.mono ?_;rintro e W2 ⟨rfl,hq⟩;go_wp2;go_ret;exact ⟨rfl,below_next hb hq⟩
 | false =>
  obtain ⟨h8,-,hs,-⟩:=vast_no HR.out;clear HR;have HS:=Lib.hid hs;clear hs;obtain ⟨q,hq255,hand⟩:=and255 z;obtain ⟨i0,hi0,hz0,hsz,hbt⟩:=info_parts infoNz;go_wp2
  go_loopw [6,7,8] (fun v6 v7 iv wr=>∃ i:Nat,iv=.int .i64 i∧i≤n∧wr.ownsRow w.heap.size 36 3 v6 i (ncells ((bitsN q n).take i))∧wr.ownsRow w.heap.size 36 3 v7 i (ncells ((hfs n).take i))∧(∀ g,v6.ownBlock=some g→v7.ownBlock≠some g)∧Below w.heap.size w wr) (fun _ _ iv _=>n-intY iv)
  case atStart=>exact ⟨0,rfl,Nat.zero_le _,World.ownsRow_nil _ _ _ _,World.ownsRow_nil _ _ _ _,fun g h=>(by cases h),hb⟩
  case round =>
   clear hb;obtain ⟨i,rfl,hi,hT,hH,hne,hb⟩:=hrel
   by_cases hlt:i<n
   ·have h9:i+1≤1000000:=by omega
    have htk:=bits_take (q:=q) hlt;have hhk:=hfs_take hlt;have hbit:=and_bit q i (by omega);have hi62:i<62:=by omega
    obtain ⟨tb,htb⟩:∃ tb,q / 2 ^ i % 2=tb:=⟨_,rfl⟩;have htb1:tb≤1:=by omega
    rw [htb] at htk hbit;clear htb;have hbit2:bits BinOp.and IntKind.i64 ((q:Int) / 2 ^ i) 1=(tb:Int):=hbit;clear hbit;have hc1:=fun W=>yof_any W (tb:Int) (by omega) (by omega) (iN tb).1 (iN tb).2.1 (iN tb).2.2 (canonN_df _);have hc2:=fun W=>yof_any W 1 (by omega) (by omega) (iN 1).1 (iN 1).2.1 (iN 1).2.2 (canonN_df _);have hraw:Raw (iN 1):=by unfold Raw;decide +kernel
    have hc3:=fun W=>yshift_any W (iN 1).1 (iN 1).2.1 (iN 1).2.2 (-1) (by have:=hraw.1;omega) (by have:=hraw.2;omega) (by omega) hfN.1 hfN.2.1 hfN.2.2 (by
     rw [nv_halved]
     have:nv (iN 1).1 (iN 1).2.1 (iN 1).2.2=1:=nv_one
     rw [this];exact canonN_df _)
    generalize iN (tb:Int)=y1 at *;generalize iN 1=y2 at *;generalize hfN=y3 at *;obtain ⟨m1,s1,d1⟩:=y1;obtain ⟨m2,s2,d2⟩:=y2;obtain ⟨m3,s3,d3⟩:=y3;simp only at hc1 hc2 hc3;replace hc3:∀ W,Calls Tryz.prog 37 #[.agg #[.bool m2,.string s2,.int .i64 d2],.int .i64 (-1)] W (Ret (.agg #[.bool m3,.string s3,.int .i64 d3]) W):=hc3;have HX:=Lib.hid (And.intro hc1 (And.intro hc2 (And.intro hc3 (And.intro htk (And.intro hhk (And.intro hne h9))))));clear hc1 hc2 hc3 htk hhk hraw hne h9 hand;have hi0' : (0:Int)≤(i:Int):=by omega
    go_wp2_with fail;refine (HX.out.1 _).mono ?_;rintro e V ⟨rfl,hq⟩;replace hb:=below_next hb hq;replace hT:=ownsRow_below hT hq;replace hH:=ownsRow_below hH hq;clear hq;have hnew:=NAt.new V 36 [(m1,s1,d1)] _ rfl;replace hT:=hT.alloc (.cells #[.bool m1,.string s1,.int .i64 d1] 36);replace hH:=hH.alloc (.cells #[.bool m1,.string s1,.int .i64 d1] 36);replace hb:=hb.alloc hb.size (.cells #[.bool m1,.string s1,.int .i64 d1] 36);go_wp2_with (first|(at_builtin;refine wpList_append_two Tryz.underlying25 hi0 hz0 hsz hbt rfl (by decide) (by decide) rfl (.tmp 26) (.tmp 32) rfl (m:=1) rfl hT hb.size rfl hnew rfl (by decide) HX.out.2.2.2.2.2.2 ?_));intro v6' V2 ho hg hw6;rw [← HX.out.2.2.2.1] at ho;have hne2:∀ g,v6'.ownBlock=some g→u7.ownBlock≠some g:=fun g h1 h2=>by
     rcases hw6 g h1 with h3|h3
     ·exact HX.out.2.2.2.2.2.1 g h3 h2
     ·have:=(hH.lt g h2).2
      rw [World.size_alloc] at this;omega
    replace hb:=grown_own hb hb.size hT hg;replace hH:=hH.kept hg (by
     cases h7:u7.ownBlock with
     | none=>exact .inl rfl
     | some g=>exact .inr (fun h=>HX.out.2.2.2.2.2.1 g h.symm h7))
    clear hT hg hw6 hnew;go_wp2_with fail;refine (HX.out.2.1 _).mono ?_;rintro e V3 ⟨rfl,hq⟩;replace hb:=below_next hb hq;replace ho:=ownsRow_below ho hq;replace hH:=ownsRow_below hH hq;clear hq;go_wp2_with fail;refine (HX.out.2.2.1 _).mono ?_;rintro e V4 ⟨rfl,hq⟩;replace hb:=below_next hb hq;replace ho:=ownsRow_below ho hq;replace hH:=ownsRow_below hH hq;clear hq;have hnew:=NAt.new V4 36 [(m3,s3,d3)] _ rfl;replace ho:=ho.alloc (.cells #[.bool m3,.string s3,.int .i64 d3] 36);replace hH:=hH.alloc (.cells #[.bool m3,.string s3,.int .i64 d3] 36);replace hb:=hb.alloc hb.size (.cells #[.bool m3,.string s3,.int .i64 d3] 36);go_wp2_with (first|(at_builtin;refine wpList_append_two Tryz.underlying25 hi0 hz0 hsz hbt rfl (by decide) (by decide) rfl (.tmp 34) (.tmp 37) rfl (m:=1) rfl hH hb.size rfl hnew rfl (by decide) HX.out.2.2.2.2.2.2 ?_));intro v7' V5 ho7 hg hw7;rw [← HX.out.2.2.2.2.1] at ho7;have hne3:∀ g,v6'.ownBlock=some g→v7'.ownBlock≠some g:=fun g h1 h2=>by
     rcases hw7 g h2 with h3|h3
     ·exact hne2 g h1 h3
     ·have:=(ho.lt g h1).2
      rw [World.size_alloc] at this;omega
    replace hb:=grown_own hb hb.size hH hg;replace ho:=ho.kept hg (by
     cases h6:v6'.ownBlock with
     | none=>exact .inl rfl
     | some g=>exact .inr (fun h=>hne2 g h6 h.symm))
    clear hH hg hw7 hnew hne2 HX;have HE:=Lib.hid hne3;clear hne3;go_wp2;exact ⟨⟨i+1,rfl,hlt,ho,ho7,HE.out,hb⟩,by simp [intY];omega⟩
   ·obtain rfl:i=n:=by omega
    rw [List.take_of_length_le (by rw [bits_len];exact Nat.le_refl _)] at hT;rw [List.take_of_length_le (by rw [hfs_len];exact Nat.le_refl _)] at hH;obtain ⟨td,tc,rfl,-,hTN⟩:=own_nat (by rw [bits_len]) hT;obtain ⟨hd,hc',rfl,-,hHN⟩:=own_nat (by rw [hfs_len]) hH;clear hT hH hne hand;have e1:=corner_place q l (by omega);have e2:=mid_place l;rw [hn] at e1 e2;have e3:=corner_has q l;have e4:=mid_has0 l;have l1:(l.zipIdx.map fun x=>cornN q x.2 (fS x.1)).length=i:=by simp [hn]
    have l2:(l.map fun x=>canonN (mS x)).length=i:=by simp [hn]
    have k1:∀ y∈(l.zipIdx.map fun x=>cornN q x.2 (fS x.1)),Ok3 y.2.1 y.2.2:=fun y hy=>by
     obtain ⟨x,hx,rfl⟩:=List.mem_map.1 hy;have hx2:x.1∈l:=by
      have:=List.mem_zipIdx hx
      rw [this.2.2];exact List.getElem_mem _
     have:=((HS.out x.1 hx2).form (by omega) (by omega)).o2.o3
     unfold cornN
     split
     ·exact this.2
     ·exact this.1
    have k2:∀ y∈(l.map fun x=>canonN (mS x)),Ok3 y.2.1 y.2.2:=fun y hy=>by
     obtain ⟨x,hx,rfl⟩:=List.mem_map.1 hy
     have:=(HS.out x hx).mid.canon
     unfold Ok3;omega
    have hc1:=fun W h=>bcorner_any W ad l i c hn (by omega) h (fun x h=>(HS.out x h).o2) (q:Int) (by omega);have hc2:=fun W h=>bmid_any W ad l i c hn (by omega) h (fun x h=>(HS.out x h).o2);have hc3:=fun W h t=>bplace_any W ad l i c hn (by omega) h td (bitsN q i) i tc (bits_len q i) t HS.out (bits_gd q i) (by omega) (by omega);have hc4:=fun W h t=>bplace_any W ad l i c hn (by omega) h hd (hfs i) i hc' (hfs_len i) t HS.out (hfs_gd i) (by omega) (by omega);simp only [Int.toNat_natCast] at hc1;rw [← e1] at hc3;rw [← e2] at hc4;clear e1 e2;generalize (l.zipIdx.map fun x=>cornN q x.2 (fS x.1))=C at *;generalize (l.map fun x=>canonN (mS x))=M at *;have HC:=Lib.hid (And.intro hc1 (And.intro hc2 (And.intro hc3 (And.intro hc4 (And.intro e3 (And.intro e4 (And.intro k1 k2)))))));clear hc1 hc2 hc3 hc4 e3 e4 k1 k2;go_wp2_with fail;refine (HC.out.1 _ (hl.below hb)).mono ?_;rintro e V ⟨g1,rfl,hg1,hR1,hq⟩;replace hb:=below_next hb hq;replace hTN:=hTN.below hq;replace hHN:=hHN.below hq;clear hq hg1;go_wp2_with fail;refine (HC.out.2.1 _ (hl.below hb)).mono ?_;rintro e V2 ⟨g2,rfl,hg2,hR2,hq⟩;replace hb:=below_next hb hq;replace hTN:=hTN.below hq;replace hHN:=hHN.below hq;replace hR1:=hR1.below hq;clear hq hg2;go_wp2_with fail;refine (HC.out.2.2.1 _ (hl.below hb) hTN).mono ?_;rintro e V3 ⟨g3,rfl,hg3,hR3,hq⟩;replace hb:=below_next hb hq;replace hHN:=hHN.below hq;replace hR1:=hR1.below hq;replace hR2:=hR2.below hq;clear hq hg3 hTN;go_wp2_with fail
    refine (HC.out.2.2.2.1 _ (hl.below hb) hHN).mono ?_;rintro e V4 ⟨g4,rfl,hg4,hR4,hq⟩;replace hb:=below_next hb hq;replace hR1:=hR1.below hq;replace hR2:=hR2.below hq;replace hR3:=hR3.below hq;clear hq hg4 hHN;have hc:=bhas_any V4 ad (some ⟨g1,0,none⟩) l C i c i i hn l1 (by omega) (by omega) (hl.below hb) hR1.nat (fun x h=>(HS.out x h).o2.o3) HC.out.2.2.2.2.2.2.1;rw [HC.out.2.2.2.2.1] at hc;go_wp2_with fail;refine hc.mono ?_;rintro e V5 ⟨rfl,hq⟩;replace hb:=below_next hb hq;replace hR1:=hR1.below hq;replace hR2:=hR2.below hq;replace hR3:=hR3.below hq;replace hR4:=hR4.below hq;clear hq hc;have hc:=bhas_any V5 ad (some ⟨g2,0,none⟩) l M i c i i hn l2 (by omega) (by omega) (hl.below hb) hR2.nat (fun x h=>(HS.out x h).o2.o3) HC.out.2.2.2.2.2.2.2;rw [HC.out.2.2.2.2.2.1] at hc;go_wp2_with fail;refine hc.mono ?_;rintro e V6 ⟨rfl,hq⟩;replace hb:=below_next hb hq;replace hR1:=hR1.below hq;replace hR2:=hR2.below hq;replace hR3:=hR3.below hq;replace hR4:=hR4.below hq;clear hq hc HC;replace hR1:=hR1.nat;replace hR2:=hR2.nat;replace hR3:=hR3.nat;replace hR4:=hR4.nat;go_wp2
    go_loopw [13] (fun iv wr=>∃ j:Nat,iv=.int .i64 j∧j≤i∧NAt wr (some ⟨g1,0,none⟩) C∧NAt wr (some ⟨g2,0,none⟩) M∧NAt wr (some ⟨g3,0,none⟩) C∧NAt wr (some ⟨g4,0,none⟩) M∧Below w.heap.size w wr) (fun iv _=>i-intY iv)
    case atStart=>exact ⟨0,rfl,Nat.zero_le _,hR1,hR2,hR3,hR4,hb⟩
    case round =>
     clear hR1 hR2 hR3 hR4 hb;obtain ⟨j,rfl,hj,hR1,hR2,hR3,hR4,hb⟩:=hrel
     by_cases hjl:j<i
     ·have hj1:j<C.length:=by omega
      have hj2:j<M.length:=by omega
      obtain ⟨_,_,x1,-,a0,a1,a2⟩:=hR1 j hj1;obtain ⟨_,_,x2,-,b0,b1,b2⟩:=hR2 j hj2;obtain ⟨_,_,x3,-,c0,c1,c2⟩:=hR3 j hj1;obtain ⟨_,_,x4,-,d0,d1,d2⟩:=hR4 j hj2
      injection x1 with x1;injection x1 with y1 y2;subst y1 y2
      injection x2 with x2;injection x2 with y1 y2;subst y1 y2
      injection x3 with x3;injection x3 with y1 y2;subst y1 y2
      injection x4 with x4;injection x4 with y1 y2;subst y1 y2
      generalize C[j]=y1 at *;generalize M[j]=y2 at *;obtain ⟨m1,s1,e1⟩:=y1;obtain ⟨m2,s2,e2⟩:=y2;simp only [Nat.zero_add] at a0 a1 a2 b0 b1 b2 c0 c1 c2 d0 d1 d2;have hin:(wr.drew.cell? ⟨g1,j*3,none⟩=some (.bool m1)∧wr.drew.cell? ⟨g1,j*3+1,none⟩=some (.string s1)∧wr.drew.cell? ⟨g1,j*3+2,none⟩=some (.int .i64 e1))∧(wr.drew.cell? ⟨g2,j*3,none⟩=some (.bool m2)∧wr.drew.cell? ⟨g2,j*3+1,none⟩=some (.string s2)∧wr.drew.cell? ⟨g2,j*3+2,none⟩=some (.int .i64 e2))∧(wr.drew.cell? ⟨g3,j*3,none⟩=some (.bool m1)∧wr.drew.cell? ⟨g3,j*3+1,none⟩=some (.string s1)∧wr.drew.cell? ⟨g3,j*3+2,none⟩=some (.int .i64 e1))∧(wr.drew.cell? ⟨g4,j*3,none⟩=some (.bool m2)∧wr.drew.cell? ⟨g4,j*3+1,none⟩=some (.string s2)∧wr.drew.cell? ⟨g4,j*3+2,none⟩=some (.int .i64 e2))∧NAt wr.drew (some ⟨g1,0,none⟩) C∧NAt wr.drew (some ⟨g2,0,none⟩) M∧NAt wr.drew (some ⟨g3,0,none⟩) C∧NAt wr.drew (some ⟨g4,0,none⟩) M∧Below w.heap.size w wr.drew:=⟨⟨a0,a1,a2⟩,⟨b0,b1,b2⟩,⟨c0,c1,c2⟩,⟨d0,d1,d2⟩,hR1.drew,hR2.drew,hR3.drew,hR4.drew,hb.drew⟩;have hj0:(0:Int)≤(j:Int):=by omega
      have hj3:(j:Int)<i:=by omega
      clear a0 a1 a2 b0 b1 b2 c0 c1 c2 d0 d1 d2 hR1 hR2 hR3 hR4 hb hl HS;go_wp2
      go_region_held3 (fun W'=>(W'.cell? ⟨g1,j*3,none⟩=some (.bool m1)∧W'.cell? ⟨g1,j*3+1,none⟩=some (.string s1)∧W'.cell? ⟨g1,j*3+2,none⟩=some (.int .i64 e1))∧(W'.cell? ⟨g2,j*3,none⟩=some (.bool m2)∧W'.cell? ⟨g2,j*3+1,none⟩=some (.string s2)∧W'.cell? ⟨g2,j*3+2,none⟩=some (.int .i64 e2))∧(W'.cell? ⟨g3,j*3,none⟩=some (.bool m1)∧W'.cell? ⟨g3,j*3+1,none⟩=some (.string s1)∧W'.cell? ⟨g3,j*3+2,none⟩=some (.int .i64 e1))∧(W'.cell? ⟨g4,j*3,none⟩=some (.bool m2)∧W'.cell? ⟨g4,j*3+1,none⟩=some (.string s2)∧W'.cell? ⟨g4,j*3+2,none⟩=some (.int .i64 e2))∧NAt W' (some ⟨g1,0,none⟩) C∧NAt W' (some ⟨g2,0,none⟩) M∧NAt W' (some ⟨g3,0,none⟩) C∧NAt W' (some ⟨g4,0,none⟩) M∧Below w.heap.size w W') (first|assumption) (first|fail)
      all_goals
       obtain ⟨-,-,-,-,hR1,hR2,hR3,hR4,hb⟩:=hin;go_wp2;exact ⟨⟨j+1,rfl,hjl,hR1,hR2,hR3,hR4,hb⟩,by simp [intY];omega⟩
     ·obtain rfl:j=i:=by omega
      clear hR1 hR2 hR3 hR4;have hc:=bform_any wr ad l j c hn (by omega) (hl.below hb) (fun x h=>(HS.out x h).o2);go_wp2_with fail;refine hc.mono ?_;rintro e V ⟨g5,rfl,hg5,hF,hq⟩;replace hb:=below_next hb hq;clear hq hc hg5;have hFS:=SAt.of_flat hF.nat;clear hF;have hsg0:=bnd_vol2 (B:=80) (E:=200) HS.out ⟨by omega,by decide,by decide⟩;obtain ⟨y8,h8y⟩:∃ y,canonN (volD l)=y:=⟨_,rfl⟩;have hsg:sg (wv y8.1 y8.2.1)=dsg (volD l):=by rw [← h8y];exact dsg_form (canonN_df _)
      rw [h8y] at hsg0;have hvol:=fun W (h:SAt W ad l)=>bvol_any W ad l j c hn (by omega) h HS.out (by decide) (by decide);rw [h8y] at hvol;have hrm:=room_vol l;have hf3:∀ x∈l.map fS,O3 x:=fun x hx=>by
       obtain ⟨y,hy,rfl⟩:=List.mem_map.1 hx;exact ((HS.out y hy).form (by omega) (by omega)).o2.o3
      have hck:=bcheck_any V (some ⟨g5,0,none⟩) (l.map fS) j j (by rw [List.length_map,hn]) (by omega) hFS hf3;generalize checkB (l.map fS)=cv at *;have vol0:l=[]→0≤dsg (volD l):=fun e=>by subst e;decide +kernel
      generalize dsg (volD l)=sv at *;clear h8y HS hFS hf3;obtain ⟨m8,s8,d8⟩:=y8;simp only at hsg hsg0;have hsn:=fun W=>ysign_any W m8 s8 d8 (by omega) sv hsg;replace hvol:∀ W,SAt W ad l→Calls Tryz.prog 22 #[.slice ad j c] W (Ret (.agg #[.bool m8,.string s8,.int .i64 d8]) W):=hvol;replace hsn:∀ W,Calls Tryz.prog 38 #[.agg #[.bool m8,.string s8,.int .i64 d8]] W (Ret (.int .i64 sv) W):=hsn
      by_cases hj0:j=0
      ·subst hj0;have hsv:0≤sv:=by
        have hl0:l=[]:=List.eq_nil_of_length_eq_zero hn;exact vol0 hl0
       have HV:=Lib.hid (And.intro hvol hsn);clear hvol hsn hrm hck hsg hsg0;go_wp2_with fail;refine (HV.out.1 _ (hl.below hb)).mono ?_;rintro e Vf ⟨rfl,hq⟩;replace hb:=below_next hb hq;clear hq;go_wp2_with fail;refine (HV.out.2 _).mono ?_;rintro e Vg ⟨rfl,hq⟩;replace hb:=below_next hb hq;clear hq HV hl;have ha:=awake_any Vg;go_wp2_with fail;refine ha.mono ?_;rintro e Vh ⟨rfl,hq⟩;go_wp2;go_ret;exact ⟨rfl,below_next hb hq⟩
      ·have hj1:¬(j:Int)=0:=by omega
       have hl0:l≠[]:=fun e=>by subst e;exact hj0 hn.symm
       obtain ⟨hr1,hsv⟩:=hrm hl0;have HV:=Lib.hid (And.intro hvol hsn);clear hvol hsn hrm hsg hsg0 hl0 hj0;go_wp2_with fail;refine hck.mono ?_;rintro e Vc ⟨rfl,hq⟩;replace hb:=below_next hb hq;clear hq hck;go_wp2_with fail;refine (HV.out.1 _ (hl.below hb)).mono ?_;rintro e Vd ⟨rfl,hq⟩;replace hb:=below_next hb hq;clear hq;go_wp2_with fail;refine (HV.out.2 _).mono ?_;rintro e Ve ⟨rfl,hq⟩;replace hb:=below_next hb hq;clear hq
       by_cases hpos:0<sv
       ·obtain rfl:=hr1.2 hpos;clear hr1;go_wp2_with fail;refine (HV.out.1 _ (hl.below hb)).mono ?_;rintro e Vf ⟨rfl,hq⟩;replace hb:=below_next hb hq;clear hq;go_wp2_with fail;refine (HV.out.2 _).mono ?_;rintro e Vg ⟨rfl,hq⟩;replace hb:=below_next hb hq;clear hq HV hl;have ha:=awake_any Vg;go_wp2_with fail;refine ha.mono ?_;rintro e Vh ⟨rfl,hq⟩;go_wp2;go_ret;exact ⟨rfl,below_next hb hq⟩
       ·have hcv:¬ cv=0:=fun h=>hpos (hr1.1 h);have hE1:(cv == 0)=false:=by simpa using hcv
        have hE2:decide (0<sv)=false:=decide_eq_false hpos;have hE:(cv == 0)=decide (0<sv):=by rw [hE1,hE2]
        clear hr1;go_wp2_with fail;refine (HV.out.1 _ (hl.below hb)).mono ?_;rintro e Vf ⟨rfl,hq⟩;replace hb:=below_next hb hq;clear hq;go_wp2_with fail;refine (HV.out.2 _).mono ?_;rintro e Vg ⟨rfl,hq⟩;replace hb:=below_next hb hq;clear hq HV hl;have ha:=awake_any Vg;go_wp2_with fail;refine ha.mono ?_;rintro e Vh ⟨rfl,hq⟩;go_wp2;go_ret;exact ⟨rfl,below_next hb hq⟩
end Go.Proofs.YtlmckjodahbgbaaGreatDoor
