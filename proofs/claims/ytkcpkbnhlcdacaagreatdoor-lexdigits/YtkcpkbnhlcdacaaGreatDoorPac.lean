/- Of what LexDigitsRow stands on: Plain. -/

namespace Go.Proofs.YtkcpkbnhlcdacaaGreatDoor.Pl
def val:List Nat→Nat
 | []=>0
 | x :: xs=>x+4294967296 * val xs
def top:Nat:=16384
theorem top_eq:top = 16384:=rfl
def Wf (xs:List Nat):Prop:=∀ x,x∈xs→x < 4294967296
def Norm (xs:List Nat):Prop:=xs.getLast?≠some 0
theorem wf_head {x:Nat} {xs:List Nat} (h:Wf (x :: xs)):x < 4294967296:=h x List.mem_cons_self
theorem wf_tail {x:Nat} {xs:List Nat} (h:Wf (x :: xs)):Wf xs:=fun y hy=>h y (List.mem_cons_of_mem _ hy)
theorem val_append (xs ys:List Nat):val (xs ++ ys) = val xs+4294967296 ^ xs.length * val ys:=by
 induction xs with
 | nil=>simp [val]
 | cons x xs ih=>
  simp only [List.cons_append,val,ih,List.length_cons,Nat.pow_succ]
  rw [Nat.mul_add,← Nat.mul_assoc,Nat.mul_comm 4294967296 (4294967296 ^ xs.length),Nat.add_assoc]
theorem val_lt {xs:List Nat} (h:Wf xs):val xs < 4294967296 ^ xs.length:=by
 induction xs with
 | nil=>simp [val]
 | cons x xs ih=>
  have a:=ih (wf_tail h)
  have b:=wf_head h
  simp only [val,List.length_cons,Nat.pow_succ]
  omega
theorem drop_cons (xs:List Nat) (k:Nat) (h:k < xs.length):xs.drop k = xs[k]?.getD 0 :: xs.drop (k+1):=by
 rw [List.drop_eq_getElem_cons h]; simp [h]
theorem val_split (xs:List Nat) (k:Nat) (h:k≤xs.length):val xs = val (xs.take k)+4294967296 ^ k * val (xs.drop k):=by
 conv=>lhs; rw [← List.take_append_drop k xs]
 rw [val_append,List.length_take,Nat.min_eq_left h]
theorem norm_last {xs:List Nat} (h:Norm xs) (k:0 < xs.length):xs[xs.length - 1]?.getD 0≠0:=by
 unfold Norm at h
 rw [List.getLast?_eq_getElem?] at h
 intro e
 rw [List.getElem?_eq_getElem (by omega)] at h e
 simp at e
 exact h (by rw [e])
theorem norm_lower {xs:List Nat} (h:Norm xs) (k:0 < xs.length):4294967296 ^ (xs.length - 1)≤val xs:=by
 have a:=norm_last h k
 rw [val_split xs (xs.length - 1) (by omega),drop_cons xs (xs.length - 1) (by omega)]
 have e:xs.drop (xs.length - 1+1) = []:=List.drop_eq_nil_of_le (by omega)
 rw [e]
 simp only [val,Nat.mul_zero,Nat.add_zero]
 have:4294967296 ^ (xs.length - 1) * 1≤4294967296 ^ (xs.length - 1) * xs[xs.length - 1]?.getD 0:=Nat.mul_le_mul_left _ (by omega)
 omega
theorem pow_le {a b:Nat} (h:a≤b):4294967296 ^ a≤4294967296 ^ b:=Nat.pow_le_pow_right (by decide) h
theorem len_eq {xs ys:List Nat} (a:Wf xs) (b:Wf ys) (c:Norm xs) (d:Norm ys) (e:val xs = val ys):xs.length = ys.length:=by
 have h1:=val_lt a
 have h2:=val_lt b
 rcases Nat.lt_trichotomy xs.length ys.length with h|h|h
 ·have h3:=norm_lower d (by omega)
  have h4:=pow_le (show xs.length≤ys.length - 1 by omega)
  omega
 ·exact h
 ·have h3:=norm_lower c (by omega)
  have h4:=pow_le (show ys.length≤xs.length - 1 by omega)
  omega
theorem val_inj_len:∀ {xs ys:List Nat},Wf xs→Wf ys→xs.length = ys.length→val xs = val ys→xs = ys
 | [],[],_,_,_,_=>rfl
 | [],_ :: _,_,_,h,_=>by simp at h
 | _ :: _,[],_,_,h,_=>by simp at h
 | x :: xs,y :: ys,a,b,h,e=>by
  have h1:=wf_head a
  have h2:=wf_head b
  simp only [val] at e
  have hx:x = y:=by omega
  have ht:val xs = val ys:=by omega
  rw [hx,val_inj_len (wf_tail a) (wf_tail b) (by simpa using h) ht]
theorem val_inj {xs ys:List Nat} (a:Wf xs) (b:Wf ys) (c:Norm xs) (d:Norm ys) (e:val xs = val ys):xs = ys:=
 val_inj_len a b (len_eq a b c d e) e
theorem norm_zero {xs:List Nat} (h:Norm xs) (e:val xs = 0):xs = []:=by
 cases xs with
 | nil=>rfl
 | cons x xs=>
  have:=norm_lower h (by simp)
  have:0 < 4294967296 ^ ((x :: xs).length - 1):=Nat.pow_pos (by decide)
  omega
theorem val_le_len {xs:List Nat} (w:Wf xs) (h:Norm xs) (n:Nat):xs.length≤n↔val xs < 4294967296 ^ n:=by
 constructor
 ·intro k; have:=val_lt w; have:=pow_le k; omega
 ·intro k
  by_cases hx:xs.length≤n
  ·exact hx
  ·have h1:=norm_lower h (by omega)
   have h2:=pow_le (show n≤xs.length - 1 by omega)
   omega
end Go.Proofs.YtkcpkbnhlcdacaaGreatDoor.Pl
