/- Package span: gathered; walked. -/
import Derived.Test.YtbijggomdpaknaaGreatDoorS4
namespace Go.Proofs.YtbijggomdpaknaaGreatDoor
open Go.RowKit Go.Shelf
theorem infoNz:(Tryz.prog.info? 36).map (fun i=>(i.zero,i.size,i.bytes))=some (some (.agg #[.bool false,.string ⟨#[]⟩,.int .i64 0]),3,32):=by kernel_rfl
def noughts (n:Nat):List NV:=List.replicate n (false,⟨#[]⟩,0)
theorem made_nums (n:Nat):madeCells (Value.cells (.agg #[.bool false,.string ⟨#[]⟩,.int .i64 0])) (n*3)=(ncells (noughts n)).toArray:=by
 have hz:Value.cells (.agg #[.bool false,.string ⟨#[]⟩,.int .i64 0])=#[.bool false,.string ⟨#[]⟩,.int .i64 0]:=rfl;rw [hz]
 apply Array.toList_inj.1
 unfold madeCells noughts;rw [Array.toList_map,Array.toList_range,List.toList_toArray]
 induction n with
 | zero=>rfl
 | succ n ih =>
  have h1:(List.replicate (n+1) ((false,⟨#[]⟩,0):NV))=List.replicate n (false,⟨#[]⟩,0)++[(false,⟨#[]⟩,0)]:=List.replicate_succ';have h2:∀ (a b:List NV),ncells (a++b)=ncells a++ncells b:=by
   intro a b
   induction a with
   | nil=>rfl
   | cons x a ih=>simp [ncells,ih]
  rw [h1,h2,← ih];rw [show (n+1)*3=n*3+1+1+1 by omega];simp only [List.range_succ,List.map_append,List.append_assoc]
  congr 1
  simp [ncells,Nat.add_mod]
theorem make_nums (n:Nat) (hmax:n≤1000000):∀ w:World,
  (Instr.makeSlice 24 (.int .i64 n) (.int .i64 n)).run Tryz.prog w=.ok (.slice (some ⟨w.heap.size,0,none⟩) n n) (w.alloc (.cells (ncells (noughts n)).toArray 36)):=by
 intro w;obtain ⟨i,hi,hz,hs,hb⟩:=info_parts infoNz;have h:=run_make (P:=Tryz.prog) w 24 36 i _ Tryz.underlying24 hi hz .i64 .i64 (n:Int) (n:Int) (by omega) (by omega) (by rw [hb];omega) (by omega);rw [h,hs];simp only [Int.toNat_natCast];rw [made_nums]
def fillN (f:SV→NV) (l:List SV) (n k:Nat):List NV:=(l.take k).map f++noughts (n-k)
theorem fillN_len {f:SV→NV} {l:List SV} {n k:Nat} (hn:l.length=n) (hk:k≤n):(fillN f l n k).length=n:=by
 unfold fillN noughts;rw [List.length_append,List.length_map,List.length_take,List.length_replicate];omega
theorem fillN_set {f:SV→NV} {l:List SV} {n k:Nat} (hn:l.length=n) (hk:k<l.length):(fillN f l n k).set k (f l[k])=fillN f l n (k+1):=by
 unfold fillN noughts;obtain ⟨j,hj⟩:∃ j,n-k=j+1:=⟨n-k-1,by omega⟩;rw [List.set_append_right _ _ (by rw [List.length_map,List.length_take];omega),List.length_map,List.length_take,show k-min k l.length=0 by omega,hj,List.replicate_succ,List.set_cons_zero,show n-(k+1)=j by omega,List.take_succ_eq_append_getElem hk,List.map_append,List.append_assoc];rfl
theorem fillN_all {f:SV→NV} {l:List SV} {n:Nat} (hn:l.length=n):fillN f l n n=l.map f:=by
 unfold fillN noughts;rw [List.take_of_length_le (by omega),Nat.sub_self];simp
def lowS (x:SV):NV:=lowN x.1 x.2
def highS (x:SV):NV:=highN x.1 x.2
end Go.Proofs.YtbijggomdpaknaaGreatDoor
