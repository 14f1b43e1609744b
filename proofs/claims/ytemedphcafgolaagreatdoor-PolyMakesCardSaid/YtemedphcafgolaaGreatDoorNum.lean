/- Plain facts on numbers as digits to the base 2^64 and on natural numbers as bytes: no program stands in this text. -/
namespace Go.Proofs.YtemedphcafgolaaGreatDoor
def B64:Nat:=18446744073709551616
theorem B64_eq:B64=18446744073709551616:=rfl
theorem B64_pos:0<B64:=by unfold B64;omega
def val:List Nat→Nat
 | []=>0
 | d::ds=>d+B64*val ds
def Dig (ds:List Nat):Prop:=∀ d∈ds,d<B64
theorem Dig.nil:Dig []:=fun _ h=>by cases h
theorem Dig.cons {d:Nat} {ds:List Nat} (h:d<B64) (hs:Dig ds):Dig (d::ds):=by
 intro x hx
 rcases List.mem_cons.1 hx with rfl|hx
 ·exact h
 ·exact hs x hx
theorem Dig.append {xs ys:List Nat} (hx:Dig xs) (hy:Dig ys):Dig (xs++ys):=by
 intro d hd
 rcases List.mem_append.1 hd with h|h
 ·exact hx d h
 ·exact hy d h
theorem Dig.snoc {xs:List Nat} {d:Nat} (hx:Dig xs) (h:d<B64):Dig (xs++[d]):=hx.append (Dig.nil.cons h)
theorem Dig.take {xs:List Nat} (hx:Dig xs) (n:Nat):Dig (xs.take n):=fun d hd=>hx d (List.mem_of_mem_take hd)
theorem Dig.drop {xs:List Nat} (hx:Dig xs) (n:Nat):Dig (xs.drop n):=fun d hd=>hx d (List.mem_of_mem_drop hd)
theorem Dig.get {xs:List Nat} (hx:Dig xs) {i:Nat} (h:i<xs.length):xs[i]<B64:=hx _ (List.getElem_mem h)
theorem Dig.of_append {xs ys:List Nat} (h:Dig (xs++ys)):Dig xs∧Dig ys:=
 ⟨fun d hd=>h d (List.mem_append_left _ hd),fun d hd=>h d (List.mem_append_right _ hd)⟩
theorem Dig.replicate (n:Nat):Dig (List.replicate n 0):=fun d hd=>by rw [(List.mem_replicate.1 hd).2];exact B64_pos
theorem val_append (xs ys:List Nat):val (xs++ys)=val xs+B64 ^ xs.length*val ys:=by
 induction xs with
 | nil=>simp [val]
 | cons d ds ih =>
  simp only [List.cons_append,val,ih,List.length_cons,Nat.pow_succ,Nat.mul_add];rw [Nat.mul_comm (B64 ^ ds.length) B64,Nat.mul_assoc];omega
theorem val_single (d:Nat):val [d]=d:=by simp [val]
theorem val_snoc (xs:List Nat) (d:Nat):val (xs++[d])=val xs+B64 ^ xs.length*d:=by rw [val_append,val_single]
theorem val_lt {ds:List Nat} (h:Dig ds):val ds<B64 ^ ds.length:=by
 induction ds with
 | nil=>simp [val]
 | cons d ds ih =>
  have h1:=ih (fun x hx=>h x (List.mem_cons_of_mem _ hx));have h2:d<B64:=h d (List.mem_cons_self ..);simp only [val,List.length_cons,Nat.pow_succ]
  have:B64*(val ds+1)≤B64*B64 ^ ds.length:=Nat.mul_le_mul_left _ h1
  rw [Nat.mul_comm (B64 ^ ds.length)];rw [Nat.mul_add] at this;omega
theorem val_replicate (n:Nat):val (List.replicate n 0)=0:=by
 induction n with
 | zero=>rfl
 | succ n ih=>simp [List.replicate_succ,val,ih]
theorem take_succ_val (ds:List Nat) {i:Nat} (h:i<ds.length):val (ds.take (i+1))=val (ds.take i)+B64 ^ i*ds[i]:=by
 rw [List.take_succ_eq_append_getElem h,val_snoc,List.length_take,Nat.min_eq_left (Nat.le_of_lt h)]
theorem val_split (ds:List Nat) (i:Nat) (h:i≤ds.length):val ds=val (ds.take i)+B64 ^ i*val (ds.drop i):=by
 conv=>lhs;rw [← List.take_append_drop i ds]
 rw [val_append,List.length_take,Nat.min_eq_left h]
theorem digit_plus {d m n o hi lo s1 c1 s2 c2:Nat} (hd:d<B64) (hm:m<B64) (hn:n<B64) (ho:o<B64) (h1:hi*B64+lo=m*n) (hlo:lo<B64)
  (h2:s1+B64*c1=lo+o) (hs1:s1<B64) (h3:s2+B64*c2=d+s1) (hs2:s2<B64) :
  hi+c1<B64∧hi+c1+c2<B64∧s2+B64*(hi+c1+c2)=d+m*n+o:=by
 have hp:m*n≤(B64-1)*(B64-1):=Nat.mul_le_mul (by omega) (by omega);unfold B64 at *;generalize m*n=p at *;refine ⟨by omega,by omega,by omega⟩
theorem plus_step {E D X P d m n o e o' : Nat} (h:E+P*o=D+n*X) (hs:e+B64*o'=d+m*n+o):(E+P*e)+(P*B64)*o'=(D+P*d)+n*(X+P*m):=by
 have:P*(e+B64*o')=P*(d+m*n+o):=by rw [hs]
 simp only [Nat.mul_add] at this ⊢;rw [← Nat.mul_assoc P B64] at this;have e1:P*(m*n)=n*(P*m):=by rw [Nat.mul_comm m n,Nat.mul_left_comm]
 rw [e1] at this;omega
theorem digit_minus {d m n o hi lo s1 c1 s2 c2:Nat} (hd:d<B64) (hm:m<B64) (hn:n<B64) (ho:o<B64) (h1:hi*B64+lo=m*n) (hlo:lo<B64)
  (h2:s1+B64*c1=lo+o) (hs1:s1<B64) (h3:s2+s1=d+B64*c2) (hs2:s2<B64) :
  hi+c1<B64∧hi+c1+c2<B64∧s2+m*n+o=d+B64*(hi+c1+c2):=by
 have hp:m*n≤(B64-1)*(B64-1):=Nat.mul_le_mul (by omega) (by omega);unfold B64 at *;generalize m*n=p at *;refine ⟨by omega,by omega,by omega⟩
theorem minus_step {E D X P d m n o e o' : Nat} (h:E+n*X=D+P*o) (hs:e+m*n+o=d+B64*o'):(E+P*e)+n*(X+P*m)=(D+P*d)+(P*B64)*o':=by
 have:P*(e+m*n+o)=P*(d+B64*o'):=by rw [hs]
 simp only [Nat.mul_add] at this ⊢;rw [← Nat.mul_assoc P B64] at this;have e1:P*(m*n)=n*(P*m):=by rw [Nat.mul_comm m n,Nat.mul_left_comm]
 rw [e1] at this;omega
/-! ### Shifts -/
theorem B64_split {n:Nat} (h:n≤64):2 ^ n*2 ^ (64-n)=B64:=by
 rw [← Nat.pow_add,show n+(64-n)=64 by omega];rfl
theorem or_add (x y k:Nat) (h:y<2 ^ k):x*2 ^ k ||| y=x*2 ^ k+y:=by
 rw [← Nat.shiftLeft_eq,← Nat.shiftLeft_add_eq_or_of_lt h]
theorem mul_pow_mod {d n:Nat} (h:n≤64):d*2 ^ n % B64=d % 2 ^ (64-n)*2 ^ n:=by
 rw [← B64_split h,Nat.mul_comm (2 ^ n),Nat.mul_mod_mul_right]
theorem or_up {d e n:Nat} (he:e<B64) (h:n<64):d*2 ^ n % B64 ||| e / 2 ^ (64-n)=d*2 ^ n % B64+e / 2 ^ (64-n):=by
 rw [mul_pow_mod (by omega)];refine or_add _ _ _ ?_;rw [Nat.div_lt_iff_lt_mul (Nat.two_pow_pos _),B64_split (by omega)];exact he
theorem or_down {d e n:Nat} (hd:d<B64) (h:n<64):d / 2 ^ n ||| e*2 ^ (64-n) % B64=d / 2 ^ n+e*2 ^ (64-n) % B64:=by
 rw [mul_pow_mod (n:=64-n) (by omega),Nat.or_comm,Nat.add_comm,show 64-(64-n)=n by omega];refine or_add _ _ _ ?_;rw [Nat.div_lt_iff_lt_mul (Nat.two_pow_pos _),Nat.mul_comm,B64_split (by omega)];exact hd
def downs (n:Nat):List Nat→List Nat
 | []=>[]
 | d::ds=>(d / 2 ^ n+ds.headD 0*2 ^ (64-n) % B64)::downs n ds
theorem length_downs (n:Nat) (ds:List Nat):(downs n ds).length=ds.length:=by
 induction ds with
 | nil=>rfl
 | cons d ds ih=>simp [downs,ih]
theorem downs_get (n:Nat) (ds:List Nat):∀ (k:Nat) (h:k<ds.length),(downs n ds)[k]'(by rw [length_downs];exact h)=ds[k] / 2 ^ n+ds.getD (k+1) 0*2 ^ (64-n) % B64:=by
 induction ds with
 | nil=>intro k h;simp at h
 | cons d ds ih =>
  intro k h
  cases k with
  | zero=>cases ds <;> simp [downs]
  | succ k=>simp [downs,ih k (by simpa using h)]
theorem down_digit_lt {d e n:Nat} (hd:d<B64) (h:n<64):d / 2 ^ n+e*2 ^ (64-n) % B64<B64:=by
 have h1:d / 2 ^ n<2 ^ (64-n):=by
  rw [Nat.div_lt_iff_lt_mul (Nat.two_pow_pos _),Nat.mul_comm,B64_split (by omega)];exact hd
 have h2:e % 2 ^ n<2 ^ n:=Nat.mod_lt _ (Nat.two_pow_pos _);rw [mul_pow_mod (n:=64-n) (by omega),show 64-(64-n)=n by omega];have h3:(e % 2 ^ n+1)*2 ^ (64-n)≤2 ^ n*2 ^ (64-n):=Nat.mul_le_mul_right _ h2;rw [B64_split (by omega),Nat.add_mul] at h3;omega
theorem dig_downs {n:Nat} (h:n<64) {ds:List Nat} (hd:Dig ds):Dig (downs n ds):=by
 induction ds with
 | nil=>exact Dig.nil
 | cons d ds ih=>exact Dig.cons (down_digit_lt (hd d (List.mem_cons_self ..)) h) (ih fun x hx=>hd x (List.mem_cons_of_mem _ hx))
theorem val_downs {n:Nat} (h:n<64) (ds:List Nat):val (downs n ds)=val ds / 2 ^ n:=by
 induction ds with
 | nil=>simp [downs,val]
 | cons d ds ih =>
  have hB:=B64_split (n:=n) (by omega);simp only [downs,val,ih];have e0:d+B64*val ds=d+2 ^ n*(2 ^ (64-n)*val ds):=by rw [← Nat.mul_assoc,hB]
  rw [e0,Nat.add_mul_div_left _ _ (Nat.two_pow_pos _)];have e1:val ds % 2 ^ n=ds.headD 0 % 2 ^ n:=by
   cases ds with
   | nil=>rfl
   | cons a as =>
    simp only [val,List.headD_cons];rw [← hB,Nat.mul_assoc,Nat.add_mul_mod_self_left]
  rw [mul_pow_mod (n:=64-n) (by omega),show 64-(64-n)=n by omega,← e1];have e2:2 ^ (64-n)*val ds=2 ^ (64-n)*(2 ^ n*(val ds / 2 ^ n)+val ds % 2 ^ n):=by rw [Nat.div_add_mod]
  rw [e2,Nat.mul_add,← Nat.mul_assoc,Nat.mul_comm (2 ^ (64-n)) (2 ^ n),hB,Nat.mul_comm (2 ^ (64-n)) (val ds % 2 ^ n)];omega
def ups (n:Nat):Nat→List Nat→List Nat
 | c,[]=>[c]
 | c,d::ds=>(d*2 ^ n % B64+c)::ups n (d / 2 ^ (64-n)) ds
theorem length_ups (n:Nat) (ds:List Nat):∀ c,(ups n c ds).length=ds.length+1:=by
 induction ds with
 | nil=>intro c;rfl
 | cons d ds ih=>intro c;simp [ups,ih]
theorem ups_get (n:Nat) (ds:List Nat):∀ (c k:Nat) (h:k<(ups n c ds).length),(ups n c ds)[k]=ds.getD k 0*2 ^ n % B64+(if k=0 then c else ds.getD (k-1) 0 / 2 ^ (64-n)):=by
 induction ds with
 | nil =>
  intro c k h
  have:k=0:=by simpa [ups] using h
  subst this;simp [ups]
 | cons d ds ih =>
  intro c k h
  cases k with
  | zero=>simp [ups]
  | succ k =>
   simp only [ups,List.getElem_cons_succ];rw [ih]
   cases k <;> simp
theorem up_digit_lt {d c n:Nat} (hc:c<2 ^ n) (h:n<64):d*2 ^ n % B64+c<B64:=by
 rw [mul_pow_mod (by omega)];have h2:d % 2 ^ (64-n)<2 ^ (64-n):=Nat.mod_lt _ (Nat.two_pow_pos _);have h3:(d % 2 ^ (64-n)+1)*2 ^ n≤2 ^ (64-n)*2 ^ n:=Nat.mul_le_mul_right _ h2;rw [Nat.mul_comm (2 ^ (64-n)),B64_split (by omega),Nat.add_mul] at h3;omega
theorem up_carry_lt {d n:Nat} (hd:d<B64) (h:n<64):d / 2 ^ (64-n)<2 ^ n:=by
 rw [Nat.div_lt_iff_lt_mul (Nat.two_pow_pos _),B64_split (by omega)];exact hd
theorem dig_ups {n:Nat} (h:n<64) {ds:List Nat} (hd:Dig ds):∀ {c},c<2 ^ n→Dig (ups n c ds):=by
 induction ds with
 | nil =>
  intro c hc;refine Dig.cons (Nat.lt_of_lt_of_le hc ?_) Dig.nil;rw [← B64_split (n:=n) (by omega)];exact Nat.le_mul_of_pos_right _ (Nat.two_pow_pos _)
 | cons d ds ih =>
  intro c hc;exact Dig.cons (up_digit_lt hc h) (ih (fun x hx=>hd x (List.mem_cons_of_mem _ hx)) (up_carry_lt (hd d (List.mem_cons_self ..)) h))
theorem val_ups {n:Nat} (h:n<64) (ds:List Nat):∀ c,val (ups n c ds)=val ds*2 ^ n+c:=by
 induction ds with
 | nil=>intro c;simp [ups,val]
 | cons d ds ih =>
  intro c;have hB:=B64_split (n:=n) (by omega);simp only [ups,val,ih];rw [mul_pow_mod (by omega)];have e1:d*2 ^ n=(2 ^ (64-n)*(d / 2 ^ (64-n))+d % 2 ^ (64-n))*2 ^ n:=by rw [Nat.div_add_mod]
  rw [Nat.add_mul,e1,Nat.add_mul,Nat.mul_right_comm,Nat.mul_comm (2 ^ (64-n)) (2 ^ n),hB,Nat.mul_add,Nat.mul_assoc B64 (val ds)];omega
end Go.Proofs.YtemedphcafgolaaGreatDoor
