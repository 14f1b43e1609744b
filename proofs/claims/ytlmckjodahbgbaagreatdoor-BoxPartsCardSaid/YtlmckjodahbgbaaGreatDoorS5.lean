/- Package span: gathered; walked. -/
import Derived.Test.YtlmckjodahbgbaaGreatDoorS4
namespace Go.Proofs.YtlmckjodahbgbaaGreatDoor
open Go.RowKit Go.Shelf
theorem infoNz:(Tryz.prog.info? 36).map (fun i=>(i.zero,i.size,i.bytes))=some (some (.agg #[.bool false,.string ⟨#[]⟩,.int .i64 0]),3,32):=by kernel_rfl
def noughts (n:Nat):List NV:=List.replicate n (false,⟨#[]⟩,0)
theorem made_nums (n:Nat):madeCells (Value.cells (.agg #[.bool false,.string ⟨#[]⟩,.int .i64 0])) (n*3)=(ncells (noughts n)).toArray:=by
 have hz:Value.cells (.agg #[.bool false,.string ⟨#[]⟩,.int .i64 0])=#[.bool false,.string ⟨#[]⟩,.int .i64 0]:=rfl;rw [hz]
 apply Array.toList_inj.1
 unfold madeCells noughts;rw [Array.toList_map,Array.toList_range,List.toList_toArray]
 induction n with
 | zero=>rfl
 | succ n ih =>
  have h1:(List.replicate (n+1) ((false,⟨#[]⟩,0):NV))=List.replicate n (false,⟨#[]⟩,0)++[(false,⟨#[]⟩,0)]:=List.replicate_succ';have h2:∀ (a b:List NV),ncells (a++b)=ncells a++ncells b:=by
   intro a b
   induction a with
   | nil=>rfl
   | cons x a ih=>simp [ncells,ih]
  rw [h1,h2,← ih];rw [show (n+1)*3=n*3+1+1+1 by omega];simp only [List.range_succ,List.map_append,List.append_assoc]
  congr 1
  simp [ncells,Nat.add_mod]
theorem make_nums (n:Nat) (hmax:n≤1000000):∀ w:World,
  (Instr.makeSlice 24 (.int .i64 n) (.int .i64 n)).run Tryz.prog w=.ok (.slice (some ⟨w.heap.size,0,none⟩) n n) (w.alloc (.cells (ncells (noughts n)).toArray 36)):=by
 intro w;obtain ⟨i,hi,hz,hs,hb⟩:=info_parts infoNz;have h:=run_make (P:=Tryz.prog) w 24 36 i _ Tryz.underlying24 hi hz .i64 .i64 (n:Int) (n:Int) (by omega) (by omega) (by rw [hb];omega) (by omega);rw [h,hs];simp only [Int.toNat_natCast];rw [made_nums]
end Go.Proofs.YtlmckjodahbgbaaGreatDoor
