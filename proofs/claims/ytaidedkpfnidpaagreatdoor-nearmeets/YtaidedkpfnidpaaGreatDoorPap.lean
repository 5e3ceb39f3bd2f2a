/- Of what NearMeetsRow stands on: RatMath. -/
import Init.Data.Rat
namespace Go.Proofs.YtaidedkpfnidpaaGreatDoor.Rm
def sgn (s:Bool) (n:Nat):Int:=if s then -(n:Int) else n
theorem sgn_abs (s:Bool) (n:Nat):(sgn s n).natAbs = n:=by cases s <;> simp [sgn]
theorem sgn_zero (s:Bool):sgn s 0 = 0:=by cases s <;> rfl
theorem sgn_neg {s:Bool} {n:Nat} (h:n = 0→s = false):decide (sgn s n < 0) = s:=by
 cases s
 ·simp [sgn]
 ·have:n≠0:=fun e=>by simp at h; omega
  simp [sgn]; omega
theorem sgn_scale (s:Bool) (m n:Nat):sgn s (m * n) = sgn s m * (n:Int):=by
 cases s <;> simp [sgn,Int.neg_mul]
structure Q (x:Rat) (s:Bool) (n d:Nat):Prop where
 num:x.num = sgn s n
 den:x.den = d
 zero:n = 0→s = false
theorem Q.pos {x:Rat} {s:Bool} {n d:Nat} (h:Q x s n d):0 < d:=by have:=x.den_nz; have:=h.den; omega
theorem Q.co {x:Rat} {s:Bool} {n d:Nat} (h:Q x s n d):Nat.gcd n d = 1:=by
 have:=x.reduced
 rw [h.num,h.den,sgn_abs] at this
 exact this
theorem Q.neg {x:Rat} {s:Bool} {n d:Nat} (h:Q x s n d):decide (x.num < 0) = s:=by rw [h.num]; exact sgn_neg h.zero
theorem Q.self (x:Rat):Q x (decide (x.num < 0)) x.num.natAbs x.den:=by
 refine ⟨?_,rfl,fun h=>?_⟩
 ·by_cases h:x.num < 0 <;> simp only [sgn,h,decide_true,decide_false,if_true,Bool.false_eq_true,if_false] <;> omega
 ·have:¬ x.num < 0:=by omega
  simpa using this
theorem Q.uniq {x y:Rat} {s:Bool} {n d:Nat} (h:Q x s n d) (k:Q y s n d):x = y:=Rat.ext (h.num.trans k.num.symm) (h.den.trans k.den.symm)
theorem Q.of {z:Rat} {N:Int} {D:Nat} {s:Bool} {n d:Nat} (hz:z = mkRat N D) (hD:D≠0) (hd:0 < d) (hc:Nat.gcd n d = 1) (h0:n = 0→s = false) (h:N * d = sgn s n * D):Q z s n d:=by
 have e:z = ⟨sgn s n,d,by omega,by rw [sgn_abs]; exact hc⟩:=by
  rw [hz,Rat.mk_eq_mkRat]
  exact (Rat.mkRat_eq_iff hD (by omega)).2 h
 exact ⟨by rw [e],by rw [e],h0⟩
theorem Q.made {s:Bool} {n d:Nat} (hd:d≠0):Q (mkRat (sgn s n) d) (s && !decide (n / Nat.gcd n d = 0)) (n / Nat.gcd n d) (d / Nat.gcd n d):=by
 have hg:0 < Nat.gcd n d:=Nat.gcd_pos_of_pos_right _ (by omega)
 have e1:n / Nat.gcd n d * Nat.gcd n d = n:=Nat.div_mul_cancel (Nat.gcd_dvd_left _ _)
 have e2:d / Nat.gcd n d * Nat.gcd n d = d:=Nat.div_mul_cancel (Nat.gcd_dvd_right _ _)
 refine Q.of rfl hd (Nat.div_pos (Nat.le_of_dvd (by omega) (Nat.gcd_dvd_right _ _)) hg) (Nat.coprime_div_gcd_div_gcd hg) (fun h=>by simp [h]) ?_
 generalize hG:Nat.gcd n d = g at *
 by_cases h0:n / g = 0
 ·have:n = 0:=by rw [← e1,h0,Nat.zero_mul]
  subst this
  simp [sgn_zero]
 ·have:(s && !decide (n / g = 0)) = s:=by simp [h0]
  rw [this]
  conv=>lhs; rw [← e1,sgn_scale]
  conv=>rhs; rw [← e2]
  rw [Int.natCast_mul,Int.mul_assoc,Int.mul_comm (g:Int)]
theorem co_mul {a b c:Nat} (h:Nat.gcd a c = 1) (k:Nat.gcd b c = 1):Nat.gcd (a * b) c = 1:=Nat.Coprime.mul_left h k
theorem co_dvd' {a b c:Nat} (h:Nat.gcd a c = 1) (k:b ∣ c):Nat.gcd a b = 1:=Nat.Coprime.coprime_dvd_right k h
structure V (x:Rat) (s:Bool) (n d:Nat):Prop where
 num:x.num = sgn s n
 den:x.den = d
theorem Q.v {x:Rat} {s:Bool} {n d:Nat} (h:Q x s n d):V x s n d:=⟨h.num,h.den⟩
theorem V.pos {x:Rat} {s:Bool} {n d:Nat} (h:V x s n d):0 < d:=by have:=x.den_nz; have:=h.den; omega
theorem V.co {x:Rat} {s:Bool} {n d:Nat} (h:V x s n d):Nat.gcd n d = 1:=by
 have:=x.reduced
 rw [h.num,h.den,sgn_abs] at this
 exact this
theorem gcd_mod {a b k g:Int} (h:a = b+k * g):Int.gcd a g = Int.gcd b g:=by
 subst h
 apply Nat.dvd_antisymm
 ·refine Int.dvd_gcd ?_ (Int.gcd_dvd_right ..)
  have h1:((Int.gcd (b+k * g) g:Nat):Int) ∣ b+k * g:=Int.gcd_dvd_left ..
  have h2:((Int.gcd (b+k * g) g:Nat):Int) ∣ k * g:=Int.dvd_trans (Int.gcd_dvd_right ..) (Int.dvd_mul_left ..)
  have:=Int.dvd_sub h1 h2
  rwa [Int.add_sub_cancel] at this
 ·refine Int.dvd_gcd ?_ (Int.gcd_dvd_right ..)
  exact Int.dvd_add (Int.gcd_dvd_left ..) (Int.dvd_trans (Int.gcd_dvd_right ..) (Int.dvd_mul_left ..))
def one (same:Bool):Int:=if same then 1 else -1
def dist (a b:Nat):Nat:=if a < b then b - a else a - b
theorem dist_abs (a b:Nat):dist a b = ((a:Int) - b).natAbs:=by unfold dist; split <;> omega
def lost (same:Bool) (n1 d1 n2 d2:Nat):Nat:=
 Nat.gcd (dist (n1 % d1 * (d2 / Nat.gcd d1 d2) % Nat.gcd d1 d2)
  (if same then Nat.gcd d1 d2 - n2 % d2 * (d1 / Nat.gcd d1 d2) % Nat.gcd d1 d2 else n2 % d2 * (d1 / Nat.gcd d1 d2) % Nat.gcd d1 d2)) (Nat.gcd d1 d2)
def sden (same:Bool) (n1 d1 n2 d2:Nat):Nat:=d1 / Nat.gcd d1 d2 * (d2 / lost same n1 d1 n2 d2)
def partA (same:Bool) (n1 d1 n2 d2:Nat):Nat:=n1 % d1 * (d2 / Nat.gcd d1 d2) / lost same n1 d1 n2 d2
def partB (same:Bool) (n1 d1 n2 d2:Nat):Nat:=n2 % d2 * (d1 / Nat.gcd d1 d2) / lost same n1 d1 n2 d2
def broken (same:Bool) (n1 d1 n2 d2:Nat):Nat:=n1 % d1 * (d2 / Nat.gcd d1 d2) % lost same n1 d1 n2 d2
theorem sum_core (same:Bool) {n1 d1 n2 d2:Nat} (h1:0 < d1) (h2:0 < d2) (c1:Nat.gcd n1 d1 = 1) (c2:Nat.gcd n2 d2 = 1) :
  ∃ g t1 t2 l k:Nat,0 < g∧0 < l∧d1 = g * t2∧d2 = g * t1∧lost same n1 d1 n2 d2 = l∧g = l * k∧sden same n1 d1 n2 d2 = t2 * (t1 * k)∧d2 / Nat.gcd d1 d2 = t1∧d1 / Nat.gcd d1 d2 = t2∧0 < t1∧0 < t2∧0 < k ∧
   Nat.gcd ((n1:Int) * t1+one same * ((n2:Int) * t2)).natAbs (g * (t1 * t2)) = l:=by
 have hg:0 < Nat.gcd d1 d2:=Nat.gcd_pos_of_pos_left _ h1
 have e1:d1 = Nat.gcd d1 d2 * (d1 / Nat.gcd d1 d2):=(Nat.mul_div_cancel' (Nat.gcd_dvd_left _ _)).symm
 have e2:d2 = Nat.gcd d1 d2 * (d2 / Nat.gcd d1 d2):=(Nat.mul_div_cancel' (Nat.gcd_dvd_right _ _)).symm
 have ct:Nat.gcd (d1 / Nat.gcd d1 d2) (d2 / Nat.gcd d1 d2) = 1:=Nat.coprime_div_gcd_div_gcd hg
 have hl:lost same n1 d1 n2 d2 ∣ Nat.gcd d1 d2:=Nat.gcd_dvd_right _ _
 have hl0:0 < lost same n1 d1 n2 d2:=Nat.gcd_pos_of_pos_right _ hg
 obtain ⟨k,hk⟩:=hl
 have hld:lost same n1 d1 n2 d2 = Nat.gcd (dist (n1 % d1 * (d2 / Nat.gcd d1 d2) % Nat.gcd d1 d2)
  (if same then Nat.gcd d1 d2 - n2 % d2 * (d1 / Nat.gcd d1 d2) % Nat.gcd d1 d2 else n2 % d2 * (d1 / Nat.gcd d1 d2) % Nat.gcd d1 d2)) (Nat.gcd d1 d2):=rfl
 have hsd:sden same n1 d1 n2 d2 = d1 / Nat.gcd d1 d2 * (d2 / lost same n1 d1 n2 d2):=rfl
 generalize lost same n1 d1 n2 d2 = l at *
 generalize sden same n1 d1 n2 d2 = sd at *
 generalize Nat.gcd d1 d2 = g at *
 generalize d1 / g = t2 at *
 generalize d2 / g = t1 at *
 have p1:0 < t1:=by rcases Nat.eq_zero_or_pos t1 with h|h; (rw [h,Nat.mul_zero] at e2; omega); exact h
 have p2:0 < t2:=by rcases Nat.eq_zero_or_pos t2 with h|h; (rw [h,Nat.mul_zero] at e1; omega); exact h
 have pk:0 < k:=by rcases Nat.eq_zero_or_pos k with h|h; (rw [h,Nat.mul_zero] at hk; omega); exact h
 have hdl:d2 / l = t1 * k:=by
  rw [e2,hk,Nat.mul_assoc,Nat.mul_div_cancel_left _ hl0,Nat.mul_comm]
 refine ⟨g,t1,t2,l,k,hg,hl0,e1,e2,rfl,hk,by rw [hsd,hdl],rfl,rfl,p1,p2,pk,?_⟩
 have z1:Int.gcd ((n1:Int) * t1+one same * ((n2:Int) * t2)) t1 = 1:=by
  rw [gcd_mod (b:=one same * ((n2:Int) * t2)) (k:=n1) (by omega)]
  have:Nat.gcd (n2 * t2) t1 = 1:=co_mul (co_dvd' c2 ⟨g,by rw [e2,Nat.mul_comm]⟩) ct
  have e:(one same * ((n2:Int) * t2)).natAbs = n2 * t2:=by
   cases same <;> simp [one,Int.natAbs_mul]
  rw [Int.gcd,e]; exact this
 have z2:Int.gcd ((n1:Int) * t1+one same * ((n2:Int) * t2)) t2 = 1:=by
  rw [gcd_mod (b:=(n1:Int) * t1) (k:=one same * n2) (by rw [Int.mul_assoc])]
  have:Nat.gcd (n1 * t1) t2 = 1:=co_mul (co_dvd' c1 ⟨g,by rw [e1,Nat.mul_comm]⟩) (by rw [Nat.gcd_comm]; exact ct)
  rw [Int.gcd,Int.natAbs_mul]; exact this
 have z3:Int.gcd ((n1:Int) * t1+one same * ((n2:Int) * t2)) g = l:=by
  have q1:n1 = d1 * (n1 / d1)+n1 % d1:=(Nat.div_add_mod _ _).symm
  have q2:n2 = d2 * (n2 / d2)+n2 % d2:=(Nat.div_add_mod _ _).symm
  have m1:n1 % d1 * t1 = g * (n1 % d1 * t1 / g)+n1 % d1 * t1 % g:=(Nat.div_add_mod _ _).symm
  have m2:n2 % d2 * t2 = g * (n2 % d2 * t2 / g)+n2 % d2 * t2 % g:=(Nat.div_add_mod _ _).symm
  have b2:n2 % d2 * t2 % g < g:=Nat.mod_lt _ hg
  rw [hld,dist_abs]
  generalize n1 / d1 = W1 at *
  generalize n2 / d2 = W2 at *
  generalize n1 % d1 = r1 at *
  generalize n2 % d2 = r2 at *
  generalize r1 * t1 / g = u1 at *
  generalize r1 * t1 % g = left at *
  generalize r2 * t2 / g = u2 at *
  generalize r2 * t2 % g = right at *
  have N1:(n1:Int) * t1 = g * (t2 * W1 * t1+u1)+left:=by
   have:n1 * t1 = g * (t2 * W1 * t1+u1)+left:=by
    rw [q1,Nat.add_mul,m1,e1,Nat.mul_add]; simp only [Nat.mul_assoc,Nat.add_assoc]
   exact_mod_cast this
  have N2:(n2:Int) * t2 = g * (t1 * W2 * t2+u2)+right:=by
   have:n2 * t2 = g * (t1 * W2 * t2+u2)+right:=by
    rw [q2,Nat.add_mul,m2,e2,Nat.mul_add]; simp only [Nat.mul_assoc,Nat.add_assoc]
   exact_mod_cast this
  rw [N1,N2]
  generalize ((t2:Int) * W1 * t1+u1) = P1
  generalize ((t1:Int) * W2 * t2+u2) = P2
  cases same
  ·simp only [one,Bool.false_eq_true,if_false]
   rw [gcd_mod (b:=(left:Int) - right) (k:=P1 - P2) (by rw [Int.sub_mul,Int.mul_comm (g:Int),Int.mul_comm (g:Int)]; omega)]
   rfl
  ·simp only [one,if_true]
   have hr:(((g - right:Nat):Nat):Int) = (g:Int) - right:=by omega
   rw [hr,gcd_mod (b:=(left:Int) - ((g:Int) - right)) (k:=P1+P2+1) (by rw [Int.add_mul,Int.add_mul,Int.mul_comm (g:Int),Int.mul_comm (g:Int)]; omega)]
   rfl
 rw [Int.gcd,Int.natAbs_natCast] at z1 z2 z3
 have z4:=Nat.Coprime.mul_right z1 z2
 rw [← z3]
 exact Nat.Coprime.gcd_mul_right_cancel_right g (Nat.Coprime.symm z4)
structure Parts (same:Bool) (n1 d1 n2 d2:Nat) (N1 N2 l L D A B ra rb:Nat):Prop where
 l0:0 < l
 D0:0 < D
 hL:L = l * D
 ha:N1 = n1 / d1 * L+(l * A+ra)
 hb:N2 = n2 / d2 * L+(l * B+rb)
 hra:ra < l
 hrb:rb < l
 hA:A < D
 hB:B < D
 co:Nat.gcd ((N1:Int)+one same * N2).natAbs (l * D) = l
theorem parts (same:Bool) {n1 d1 n2 d2:Nat} (h1:0 < d1) (h2:0 < d2) (c1:Nat.gcd n1 d1 = 1) (c2:Nat.gcd n2 d2 = 1) :
  ∃ g t1 t2 L:Nat,d1 = g * t2∧d2 = g * t1∧L = g * (t1 * t2)∧0 < g∧0 < t1∧0 < t2 ∧
   Parts same n1 d1 n2 d2 (n1 * t1) (n2 * t2) (lost same n1 d1 n2 d2) L (sden same n1 d1 n2 d2) (partA same n1 d1 n2 d2) (partB same n1 d1 n2 d2) (broken same n1 d1 n2 d2) (n2 % d2 * t2 % lost same n1 d1 n2 d2):=by
 obtain ⟨g,t1,t2,l,k,hg,hl,e1,e2,hle,hk,hsd,ht1,ht2,p1,p2,pk,hco⟩:=sum_core same h1 h2 c1 c2
 refine ⟨g,t1,t2,g * (t1 * t2),e1,e2,rfl,hg,p1,p2,?_⟩
 have hL:g * (t1 * t2) = l * (t2 * (t1 * k)):=by rw [hk]; simp only [Nat.mul_comm,Nat.mul_left_comm]
 have hA:partA same n1 d1 n2 d2 = n1 % d1 * t1 / l:=by rw [partA,hle,ht1]
 have hB:partB same n1 d1 n2 d2 = n2 % d2 * t2 / l:=by rw [partB,hle,ht2]
 have hC:broken same n1 d1 n2 d2 = n1 % d1 * t1 % l:=by rw [broken,hle,ht1]
 rw [hA,hB,hC,hle,hsd]
 have q1:n1 = d1 * (n1 / d1)+n1 % d1:=(Nat.div_add_mod _ _).symm
 have q2:n2 = d2 * (n2 / d2)+n2 % d2:=(Nat.div_add_mod _ _).symm
 have m1:l * (n1 % d1 * t1 / l)+n1 % d1 * t1 % l = n1 % d1 * t1:=Nat.div_add_mod _ _
 have m2:l * (n2 % d2 * t2 / l)+n2 % d2 * t2 % l = n2 % d2 * t2:=Nat.div_add_mod _ _
 have b1:n1 % d1 * t1 < g * (t1 * t2):=by
  have:g * (t1 * t2) = d1 * t1:=by rw [e1,Nat.mul_assoc,Nat.mul_comm t1]
  rw [this]; exact Nat.mul_lt_mul_of_pos_right (Nat.mod_lt _ h1) p1
 have b2:n2 % d2 * t2 < g * (t1 * t2):=by
  have:g * (t1 * t2) = d2 * t2:=by rw [e2,Nat.mul_assoc]
  rw [this]; exact Nat.mul_lt_mul_of_pos_right (Nat.mod_lt _ h2) p2
 refine ⟨hl,Nat.mul_pos p2 (Nat.mul_pos p1 pk),hL,?_,?_,Nat.mod_lt _ hl,Nat.mod_lt _ hl,?_,?_,?_⟩
 ·rw [m1]
  conv=>lhs; rw [q1,Nat.add_mul]
  have:d1 * (n1 / d1) * t1 = n1 / d1 * (g * (t1 * t2)):=by
   generalize n1 / d1 = W; rw [e1]; simp only [Nat.mul_comm,Nat.mul_left_comm]
  rw [this]
 ·rw [m2]
  conv=>lhs; rw [q2,Nat.add_mul]
  have:d2 * (n2 / d2) * t2 = n2 / d2 * (g * (t1 * t2)):=by
   generalize n2 / d2 = W; rw [e2]; simp only [Nat.mul_comm,Nat.mul_left_comm]
  rw [this]
 ·rw [hL] at b1; exact Nat.div_lt_of_lt_mul b1
 ·rw [hL] at b2; exact Nat.div_lt_of_lt_mul b2
 ·rw [← hL]; rw [Int.natCast_mul,Int.natCast_mul]; exact hco
def low (n1 d1 n2 d2:Nat):Prop:=n1 / d1 < n2 / d2∨n1 / d1 = n2 / d2∧partA false n1 d1 n2 d2 < partB false n1 d1 n2 d2
instance (n1 d1 n2 d2:Nat):Decidable (low n1 d1 n2 d2):=by unfold low; infer_instance
end Go.Proofs.YtaidedkpfnidpaaGreatDoor.Rm
