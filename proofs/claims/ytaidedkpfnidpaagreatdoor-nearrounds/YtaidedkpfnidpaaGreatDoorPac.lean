/- Of what NearRoundsRow stands on: Plain. -/

namespace Go.Proofs.YtaidedkpfnidpaaGreatDoor.Pl
def val:List Nat→Nat
 | []=>0
 | x::xs=>x+4294967296*val xs
def top:Nat:=16384
theorem top_eq:top=16384:=rfl
def Wf(xs:List Nat):Prop:=∀x,x∈xs→x<4294967296
def Norm(xs:List Nat):Prop:=xs.getLast?≠some 0
theorem wf_nil:Wf []:=by intro x h;cases h
theorem wf_cons{x:Nat}{xs:List Nat}(h:x<4294967296)(k:Wf xs):Wf (x::xs):=by
 intro y hy;rcases List.mem_cons.1 hy with rfl|hy
 ·exact h
 ·exact k y hy
theorem wf_head{x:Nat}{xs:List Nat}(h:Wf (x::xs)):x<4294967296:=h x List.mem_cons_self
theorem qd{x:Nat}{xs:List Nat}(h:Wf (x::xs)):Wf xs:=fun y hy=>h y (List.mem_cons_of_mem _ hy)
theorem wf_append{xs ys:List Nat}(h:Wf xs)(k:Wf ys):Wf (xs++ys):=by
 intro y hy;rcases List.mem_append.1 hy with hy|hy
 ·exact h y hy
 ·exact k y hy
theorem wf_one{x:Nat}(h:x<4294967296):Wf [x]:=wf_cons h wf_nil
theorem wf_take{xs:List Nat}(h:Wf xs)(k:Nat):Wf (xs.take k):=fun y hy=>h y (List.mem_of_mem_take hy)
theorem wf_drop{xs:List Nat}(h:Wf xs)(k:Nat):Wf (xs.drop k):=fun y hy=>h y (List.mem_of_mem_drop hy)
theorem DY{xs:List Nat}(h:Wf xs)(k:Nat):xs.getD k 0<4294967296:=by
 by_cases hk:k<xs.length
 ·rw [List.getD_eq_getElem?_getD,List.getElem?_eq_getElem hk];exact h _ (List.getElem_mem hk)
 ·rw [List.getD_eq_getElem?_getD,List.getElem?_eq_none (by omega)];simp
theorem wf_at{xs:List Nat}(h:Wf xs)(k:Nat):xs[k]?.getD 0<4294967296:=by
 have:=DY h k;rwa [List.getD_eq_getElem?_getD] at this
theorem wf_replicate(n:Nat):Wf (List.replicate n 0):=by
 intro y hy;rw [List.eq_of_mem_replicate hy];decide
theorem val_append(xs ys:List Nat):val (xs++ys)=val xs+4294967296^xs.length*val ys:=by
 induction xs with
 | nil=>simp [val]
 | cons x xs ih=>
  simp only [List.cons_append,val,ih,List.length_cons,Nat.pow_succ];rw [Nat.mul_add,←Nat.mul_assoc,Nat.mul_comm 4294967296 (4294967296^xs.length),Nat.add_assoc]
theorem val_one(x:Nat):val [x]=x:=by simp [val]
theorem val_replicate(n:Nat):val (List.replicate n 0)=0:=by
 induction n with
 | zero=>rfl
 | succ n ih=>simp [List.replicate_succ,val,ih]
theorem val_lt{xs:List Nat}(h:Wf xs):val xs<4294967296^xs.length:=by
 induction xs with
 | nil=>simp [val]
 | cons x xs ih=>
  have a:=ih (qd h);have b:=wf_head h;simp only [val,List.length_cons,Nat.pow_succ];omega
theorem take_snoc(xs:List Nat)(k:Nat)(h:k<xs.length):xs.take (k+1)=xs.take k ++ [xs[k]?.getD 0]:=by
 rw [List.take_succ_eq_append_getElem h];simp [h]
theorem val_take_succ(xs:List Nat)(k:Nat)(h:k<xs.length):val (xs.take (k+1))=val (xs.take k)+4294967296^k*xs[k]?.getD 0:=by
 rw [take_snoc xs k h,val_append,val_one,List.length_take,Nat.min_eq_left (by omega)]
theorem drop_cons(xs:List Nat)(k:Nat)(h:k<xs.length):xs.drop k=xs[k]?.getD 0::xs.drop (k+1):=by
 rw [List.drop_eq_getElem_cons h];simp [h]
theorem val_split(xs:List Nat)(k:Nat)(h:k≤xs.length):val xs=val (xs.take k)+4294967296^k*val (xs.drop k):=by
 conv=>lhs;rw [←List.take_append_drop k xs]
 rw [val_append,List.length_take,Nat.min_eq_left h]
theorem norm_nil:Norm []:=by simp [Norm]
theorem norm_last{xs:List Nat}(h:Norm xs)(k:0<xs.length):xs[xs.length-1]?.getD 0≠0:=by
 unfold Norm at h;rw [List.getLast?_eq_getElem?] at h;intro e;rw [List.getElem?_eq_getElem (by omega)] at h e;simp at e;exact h (by rw [e])
theorem norm_of{xs:List Nat}(h:xs.length=0∨xs[xs.length-1]?.getD 0≠0):Norm xs:=by
 unfold Norm;rw [List.getLast?_eq_getElem?];rcases h with h|h
 ·rw [List.getElem?_eq_none (by omega)];simp
 ·intro e;rw [e] at h;simp at h
theorem norm_lower{xs:List Nat}(h:Norm xs)(k:0<xs.length):4294967296^(xs.length-1)≤val xs:=by
 have a:=norm_last h k;rw [val_split xs (xs.length-1) (by omega),drop_cons xs (xs.length-1) (by omega)];have e:xs.drop (xs.length-1+1) = []:=List.drop_eq_nil_of_le (by omega);rw [e];simp only [val,Nat.mul_zero,Nat.add_zero];have:4294967296^(xs.length-1)*1≤4294967296^(xs.length-1)*xs[xs.length-1]?.getD 0:=Nat.mul_le_mul_left _ (by omega);omega
theorem pow_le{a b:Nat}(h:a≤b):4294967296^a≤4294967296^b:=Nat.pow_le_pow_right (by decide) h
theorem GY{xs ys:List Nat}(a:Wf xs)(b:Wf ys)(c:Norm xs)(d:Norm ys)(e:val xs=val ys):xs.length=ys.length:=by
 have h1:=val_lt a;have h2:=val_lt b;rcases Nat.lt_trichotomy xs.length ys.length with h|h|h
 ·have h3:=norm_lower d (by omega);have h4:=pow_le (show xs.length≤ys.length-1 by omega);omega
 ·exact h
 ·have h3:=norm_lower c (by omega);have h4:=pow_le (show ys.length≤xs.length-1 by omega);omega
theorem mZ:∀{xs ys:List Nat},Wf xs→Wf ys→xs.length=ys.length→val xs=val ys→xs=ys
 | [],[],_,_,_,_=>rfl
 | [],_::_,_,_,h,_=>by simp at h
 | _::_,[],_,_,h,_=>by simp at h
 | x::xs,y::ys,a,b,h,e=>by
  have h1:=wf_head a;have h2:=wf_head b;simp only [val] at e;have hx:x=y:=by omega
  have ht:val xs=val ys:=by omega
  rw [hx,mZ (qd a) (qd b) (by simpa using h) ht]
theorem val_inj{xs ys:List Nat}(a:Wf xs)(b:Wf ys)(c:Norm xs)(d:Norm ys)(e:val xs=val ys):xs=ys:=
 mZ a b (GY a b c d e) e
theorem norm_zero{xs:List Nat}(h:Norm xs)(e:val xs=0):xs = []:=by
 cases xs with
 | nil=>rfl
 | cons x xs=>
  have:=norm_lower h (by simp);have:0<4294967296^((x::xs).length-1):=Nat.pow_pos (by decide);omega
theorem take_of_zeros(xs:List Nat)(n:Nat)(h:n≤xs.length)(z:∀j,n≤j→j<xs.length→xs[j]?.getD 0=0):val (xs.take n)=val xs:=by
 have hz:xs.drop n=List.replicate (xs.length-n) 0:=by
  apply List.ext_getElem
  ·simp
  ·intro i h1 h2;simp at h1 ⊢;have:=z (n+i) (by omega) (by omega);simpa [show n+i<xs.length by omega] using this
 rw [val_split xs n h,hz,val_replicate];simp
theorem val_le_len{xs:List Nat}(w:Wf xs)(h:Norm xs)(n:Nat):xs.length≤n↔val xs<4294967296^n:=by
 constructor
 ·intro k;have:=val_lt w;have:=pow_le k;omega
 ·intro k;by_cases hx:xs.length≤n
  ·exact hx
  ·have h1:=norm_lower h (by omega);have h2:=pow_le (show n≤xs.length-1 by omega);omega
theorem step_mul{p o c d f s B:Nat}(B':Nat)(hB:B'=B*4294967296)(h:o+B*c=d+f*p)(t q r:Nat)(ht:t=q*4294967296+r)(x:Nat)(hx:t=c+s*f+x) :
  (o+B*r)+B'*q=(d+B*x)+f*(p+B*s):=by
 subst hB;have e1:B*t=B*c+B*(s*f)+B*x:=by rw [hx,Nat.mul_add,Nat.mul_add]
 have e2:B*t=B*4294967296*q+B*r:=by rw [ht,Nat.mul_add,Nat.mul_assoc,Nat.mul_comm q]
 have e3:f*(p+B*s)=f*p+B*(s*f):=by rw [Nat.mul_add,Nat.mul_left_comm,Nat.mul_comm f s]
 rw [e3];omega
end Go.Proofs.YtaidedkpfnidpaaGreatDoor.Pl
