/- Of what NearRoundsRow stands on: RatMath. -/
import Init.Data.Rat
namespace Go.Proofs.YtaidedkpfnidpaaGreatDoor.Rm
def sgn(s:Bool)(n:Nat):Int:=if s then -(n:Int) else n
theorem sgn_abs(s:Bool)(n:Nat):(sgn s n).natAbs=n:=by cases s<;>simp [sgn]
theorem sgn_zero(s:Bool):sgn s 0=0:=by cases s<;>rfl
theorem sgn_neg{s:Bool}{n:Nat}(h:n=0→s=false):decide (sgn s n<0)=s:=by
 cases s
 ·simp [sgn]
 ·have:n≠0:=fun e=>by simp at h;omega
  simp [sgn];omega
theorem vv(s:Bool)(n:Nat):sgn (!s) n = - sgn s n:=by cases s<;>simp [sgn]
theorem EL(s t:Bool)(m n:Nat):sgn (s != t) (m*n)=sgn s m*sgn t n:=by
 cases s<;>cases t<;>simp [sgn,Int.neg_mul,Int.mul_neg]
theorem sgn_scale(s:Bool)(m n:Nat):sgn s (m*n)=sgn s m*(n:Int):=by
 cases s<;>simp [sgn,Int.neg_mul]
theorem pK(s:Bool)(m n:Nat):sgn s (m+n)=sgn s m+sgn s n:=by
 cases s<;>simp [sgn];omega
structure Q(x:Rat)(s:Bool)(n d:Nat):Prop where
 num:x.num=sgn s n
 den:x.den=d
 zero:n=0→s=false
theorem Q.pos{x:Rat}{s:Bool}{n d:Nat}(h:Q x s n d):0<d:=by have:=x.den_nz;have:=h.den;omega
theorem Q.co{x:Rat}{s:Bool}{n d:Nat}(h:Q x s n d):Nat.gcd n d=1:=by
 have:=x.reduced;rw [h.num,h.den,sgn_abs] at this;exact this
theorem Q.neg{x:Rat}{s:Bool}{n d:Nat}(h:Q x s n d):decide (x.num<0)=s:=by rw [h.num];exact sgn_neg h.zero
theorem Q.self(x:Rat):Q x (decide (x.num<0)) x.num.natAbs x.den:=by
 refine ⟨?_,rfl,fun h=>?_⟩
 ·by_cases h:x.num<0<;>simp only [sgn,h,decide_true,decide_false,if_true,Bool.false_eq_true,if_false]<;>omega
 ·have:¬x.num<0:=by omega
  simpa using this
theorem Q.uniq{x y:Rat}{s:Bool}{n d:Nat}(h:Q x s n d)(k:Q y s n d):x=y:=Rat.ext (h.num.trans k.num.symm) (h.den.trans k.den.symm)
theorem Q.of{z:Rat}{N:Int}{D:Nat}{s:Bool}{n d:Nat}(hz:z=mkRat N D)(hD:D≠0)(hd:0<d)(hc:Nat.gcd n d=1)(h0:n=0→s=false)(h:N*d=sgn s n*D):Q z s n d:=by
 have e:z=⟨sgn s n,d,by omega,by rw [sgn_abs];exact hc⟩:=by
  rw [hz,Rat.mk_eq_mkRat];exact (Rat.mkRat_eq_iff hD (by omega)).2 h
 exact ⟨by rw [e],by rw [e],h0⟩
theorem Q.rat{x:Rat}{s:Bool}{n d:Nat}(h:Q x s n d):x=mkRat (sgn s n) d:=by
 rw [←h.num,←h.den];exact (Rat.mkRat_self x).symm
theorem Q.add{x y:Rat}{s t:Bool}{n d m e:Nat}(h:Q x s n d)(k:Q y t m e):x+y=mkRat (sgn s n*e+sgn t m*d) (d*e):=by
 rw [Rat.add_def',h.num,h.den,k.num,k.den]
theorem Q.mul{x y:Rat}{s t:Bool}{n d m e:Nat}(h:Q x s n d)(k:Q y t m e):x*y=mkRat (sgn s n*sgn t m) (d*e):=by
 rw [Rat.mul_def',h.num,h.den,k.num,k.den]
theorem Q.inv{x:Rat}{s:Bool}{n d:Nat}(h:Q x s n d)(hn:n≠0):Q x⁻¹ s d n:=by
 refine ⟨?_,?_,fun e=>absurd e (by have:=h.pos;omega)⟩
 ·rw [Rat.num_inv,h.num,h.den];cases s
  ·have:(sgn false n).sign=1:=by simp only [sgn];exact Int.sign_eq_one_of_pos (by simp;omega)
   rw [this];simp [sgn]
  ·have:(sgn true n).sign = -1:=by simp only [sgn];exact Int.sign_eq_neg_one_of_neg (by simp;omega)
   rw [this];simp [sgn]
 ·rw [Rat.den_inv,if_neg (by rw [h.num];intro e;have:=sgn_abs s n;rw [e] at this;simp at this;omega),h.num,sgn_abs]
theorem Q.made{s:Bool}{n d:Nat}(hd:d≠0):Q (mkRat (sgn s n) d) (s && !decide (n/Nat.gcd n d=0)) (n/Nat.gcd n d) (d/Nat.gcd n d):=by
 have hg:0<Nat.gcd n d:=Nat.gcd_pos_of_pos_right _ (by omega);have e1:n/Nat.gcd n d*Nat.gcd n d=n:=Nat.div_mul_cancel (Nat.gcd_dvd_left _ _);have e2:d/Nat.gcd n d*Nat.gcd n d=d:=Nat.div_mul_cancel (Nat.gcd_dvd_right _ _);refine Q.of rfl hd (Nat.div_pos (Nat.le_of_dvd (by omega) (Nat.gcd_dvd_right _ _)) hg) (Nat.coprime_div_gcd_div_gcd hg) (fun h=>by simp [h]) ?_;generalize hG:Nat.gcd n d=g at *;by_cases h0:n/g=0
 ·have:n=0:=by rw [←e1,h0,Nat.zero_mul]
  subst this;simp [sgn_zero]
 ·have:(s && !decide (n/g=0))=s:=by simp [h0]
  rw [this]
  conv=>lhs;rw [←e1,sgn_scale]
  conv=>rhs;rw [←e2]
  rw [Int.natCast_mul,Int.mul_assoc,Int.mul_comm (g:Int)]
theorem tY{a b c:Nat}(h:Nat.gcd a c=1)(k:Nat.gcd b c=1):Nat.gcd (a*b) c=1:=Nat.Coprime.mul_left h k
theorem yF{a b c:Nat}(h:Nat.gcd a c=1)(k:b∣a):Nat.gcd b c=1:=Nat.Coprime.coprime_dvd_left k h
theorem mE{a b c:Nat}(h:Nat.gcd a c=1)(k:b∣c):Nat.gcd a b=1:=Nat.Coprime.coprime_dvd_right k h
theorem Q.product{x y:Rat}{s t:Bool}{n d m e:Nat}(h:Q x s n d)(k:Q y t m e) :
  Q (x*y) ((s != t) && !decide (n/Nat.gcd n e*(m/Nat.gcd m d)=0)) (n/Nat.gcd n e*(m/Nat.gcd m d)) (d/Nat.gcd m d*(e/Nat.gcd n e)):=by
 have hd:=h.pos;have he:=k.pos;have hf:0<Nat.gcd n e:=Nat.gcd_pos_of_pos_right _ he;have hr:0<Nat.gcd m d:=Nat.gcd_pos_of_pos_right _ hd;have e1:n/Nat.gcd n e*Nat.gcd n e=n:=Nat.div_mul_cancel (Nat.gcd_dvd_left _ _);have e2:e/Nat.gcd n e*Nat.gcd n e=e:=Nat.div_mul_cancel (Nat.gcd_dvd_right _ _);have e3:m/Nat.gcd m d*Nat.gcd m d=m:=Nat.div_mul_cancel (Nat.gcd_dvd_left _ _);have e4:d/Nat.gcd m d*Nat.gcd m d=d:=Nat.div_mul_cancel (Nat.gcd_dvd_right _ _);have c1:Nat.gcd (n/Nat.gcd n e) (e/Nat.gcd n e)=1:=Nat.coprime_div_gcd_div_gcd hf;have c2:Nat.gcd (m/Nat.gcd m d) (d/Nat.gcd m d)=1:=Nat.coprime_div_gcd_div_gcd hr;have p1:0<d/Nat.gcd m d:=Nat.div_pos (Nat.le_of_dvd hd (Nat.gcd_dvd_right _ _)) hr;have p2:0<e/Nat.gcd n e:=Nat.div_pos (Nat.le_of_dvd he (Nat.gcd_dvd_right _ _)) hf;have hco:=h.co;have kco:=k.co;generalize Nat.gcd n e=f at *;generalize Nat.gcd m d=r at *;generalize n/f=n1 at *;generalize e/f=e1' at *;generalize m/r=m1 at *;generalize d/r=d1 at *;have c3:Nat.gcd n1 d1=1:=mE (yF hco ⟨f,e1.symm⟩) ⟨r,e4.symm⟩;have c4:Nat.gcd m1 e1'=1:=mE (yF kco ⟨r,e3.symm⟩) ⟨f,e2.symm⟩;refine Q.of (h.mul k) (by have:=Nat.mul_pos hd he;omega) (Nat.mul_pos p1 p2) ?_ (fun hh=>by simp [hh]) ?_
 ·exact tY (Nat.Coprime.mul_right c3 c1) (Nat.Coprime.mul_right c2 c4)
 ·rw [←EL];have hN:n*m=n1*m1*(f*r):=by rw [←e1,←e3];simp only [Nat.mul_comm,Nat.mul_left_comm]
  have hD:d*e=d1*e1'*(f*r):=by rw [←e2,←e4];simp only [Nat.mul_comm,Nat.mul_left_comm]
  rw [hN,hD];by_cases h0:n1*m1=0
  ·rw [h0,Nat.zero_mul];simp [sgn_zero]
  ·have:((s != t) && !decide (n1*m1=0))=(s != t):=by simp [h0]
   rw [this,sgn_scale,Int.natCast_mul (d1*e1') (f*r)];generalize ((d1*e1':Nat):Int)=P;generalize ((f*r:Nat):Int)=R;rw [Int.mul_assoc,Int.mul_comm R P]
structure V(x:Rat)(s:Bool)(n d:Nat):Prop where
 num:x.num=sgn s n
 den:x.den=d
theorem Q.v{x:Rat}{s:Bool}{n d:Nat}(h:Q x s n d):V x s n d:=⟨h.num,h.den⟩
theorem V.pos{x:Rat}{s:Bool}{n d:Nat}(h:V x s n d):0<d:=by have:=x.den_nz;have:=h.den;omega
theorem V.co{x:Rat}{s:Bool}{n d:Nat}(h:V x s n d):Nat.gcd n d=1:=by
 have:=x.reduced;rw [h.num,h.den,sgn_abs] at this;exact this
theorem V.add{x y:Rat}{s t:Bool}{n d m e:Nat}(h:V x s n d)(k:V y t m e):x+y=mkRat (sgn s n*e+sgn t m*d) (d*e):=by
 rw [Rat.add_def',h.num,h.den,k.num,k.den]
theorem mF{a b k g:Int}(h:a=b+k*g):Int.gcd a g=Int.gcd b g:=by
 subst h;apply Nat.dvd_antisymm
 ·refine Int.dvd_gcd ?_ (Int.gcd_dvd_right ..);have h1:((Int.gcd (b+k*g) g:Nat):Int)∣b+k*g:=Int.gcd_dvd_left ..;have h2:((Int.gcd (b+k*g) g:Nat):Int)∣k*g:=Int.dvd_trans (Int.gcd_dvd_right ..) (Int.dvd_mul_left ..);have:=Int.dvd_sub h1 h2
  rwa [Int.add_sub_cancel] at this
 ·refine Int.dvd_gcd ?_ (Int.gcd_dvd_right ..);exact Int.dvd_add (Int.gcd_dvd_left ..) (Int.dvd_trans (Int.gcd_dvd_right ..) (Int.dvd_mul_left ..))
def one(same:Bool):Int:=if same then 1 else -1
def dist(a b:Nat):Nat:=if a<b then b-a else a-b
theorem CX(a b:Nat):dist a b=((a:Int)-b).natAbs:=by unfold dist;split<;>omega
def lost(same:Bool)(n1 d1 n2 d2:Nat):Nat:=
 Nat.gcd (dist (n1%d1*(d2/Nat.gcd d1 d2)%Nat.gcd d1 d2)
  (if same then Nat.gcd d1 d2-n2%d2*(d1/Nat.gcd d1 d2)%Nat.gcd d1 d2 else n2%d2*(d1/Nat.gcd d1 d2)%Nat.gcd d1 d2)) (Nat.gcd d1 d2)
def sden(same:Bool)(n1 d1 n2 d2:Nat):Nat:=d1/Nat.gcd d1 d2*(d2/lost same n1 d1 n2 d2)
def partA(same:Bool)(n1 d1 n2 d2:Nat):Nat:=n1%d1*(d2/Nat.gcd d1 d2)/lost same n1 d1 n2 d2
def partB(same:Bool)(n1 d1 n2 d2:Nat):Nat:=n2%d2*(d1/Nat.gcd d1 d2)/lost same n1 d1 n2 d2
def broken(same:Bool)(n1 d1 n2 d2:Nat):Nat:=n1%d1*(d2/Nat.gcd d1 d2)%lost same n1 d1 n2 d2
theorem BL(same:Bool){n1 d1 n2 d2:Nat}(h1:0<d1)(h2:0<d2)(c1:Nat.gcd n1 d1=1)(c2:Nat.gcd n2 d2=1) :
  ∃g t1 t2 l k:Nat,0<g∧0<l∧d1=g*t2∧d2=g*t1∧lost same n1 d1 n2 d2=l∧g=l*k∧sden same n1 d1 n2 d2=t2*(t1*k)∧d2/Nat.gcd d1 d2=t1∧d1/Nat.gcd d1 d2=t2∧0<t1∧0<t2∧0<k ∧
   Nat.gcd ((n1:Int)*t1+one same*((n2:Int)*t2)).natAbs (g*(t1*t2))=l:=by
 have hg:0<Nat.gcd d1 d2:=Nat.gcd_pos_of_pos_left _ h1;have e1:d1=Nat.gcd d1 d2*(d1/Nat.gcd d1 d2):=(Nat.mul_div_cancel' (Nat.gcd_dvd_left _ _)).symm;have e2:d2=Nat.gcd d1 d2*(d2/Nat.gcd d1 d2):=(Nat.mul_div_cancel' (Nat.gcd_dvd_right _ _)).symm;have ct:Nat.gcd (d1/Nat.gcd d1 d2) (d2/Nat.gcd d1 d2)=1:=Nat.coprime_div_gcd_div_gcd hg;have hl:lost same n1 d1 n2 d2∣Nat.gcd d1 d2:=Nat.gcd_dvd_right _ _;have hl0:0<lost same n1 d1 n2 d2:=Nat.gcd_pos_of_pos_right _ hg;obtain ⟨k,hk⟩:=hl;have hld:lost same n1 d1 n2 d2=Nat.gcd (dist (n1%d1*(d2/Nat.gcd d1 d2)%Nat.gcd d1 d2)
  (if same then Nat.gcd d1 d2-n2%d2*(d1/Nat.gcd d1 d2)%Nat.gcd d1 d2 else n2%d2*(d1/Nat.gcd d1 d2)%Nat.gcd d1 d2)) (Nat.gcd d1 d2):=rfl
 have hsd:sden same n1 d1 n2 d2=d1/Nat.gcd d1 d2*(d2/lost same n1 d1 n2 d2):=rfl;generalize lost same n1 d1 n2 d2=l at *;generalize sden same n1 d1 n2 d2=sd at *;generalize Nat.gcd d1 d2=g at *;generalize d1/g=t2 at *;generalize d2/g=t1 at *;have p1:0<t1:=by rcases Nat.eq_zero_or_pos t1 with h|h;(rw [h,Nat.mul_zero] at e2;omega);exact h
 have p2:0<t2:=by rcases Nat.eq_zero_or_pos t2 with h|h;(rw [h,Nat.mul_zero] at e1;omega);exact h
 have pk:0<k:=by rcases Nat.eq_zero_or_pos k with h|h;(rw [h,Nat.mul_zero] at hk;omega);exact h
 have hdl:d2/l=t1*k:=by
  rw [e2,hk,Nat.mul_assoc,Nat.mul_div_cancel_left _ hl0,Nat.mul_comm]
 refine ⟨g,t1,t2,l,k,hg,hl0,e1,e2,rfl,hk,by rw [hsd,hdl],rfl,rfl,p1,p2,pk,?_⟩;have z1:Int.gcd ((n1:Int)*t1+one same*((n2:Int)*t2)) t1=1:=by
  rw [mF (b:=one same*((n2:Int)*t2)) (k:=n1) (by omega)];have:Nat.gcd (n2*t2) t1=1:=tY (mE c2 ⟨g,by rw [e2,Nat.mul_comm]⟩) ct;have e:(one same*((n2:Int)*t2)).natAbs=n2*t2:=by
   cases same<;>simp [one,Int.natAbs_mul]
  rw [Int.gcd,e];exact this
 have z2:Int.gcd ((n1:Int)*t1+one same*((n2:Int)*t2)) t2=1:=by
  rw [mF (b:=(n1:Int)*t1) (k:=one same*n2) (by rw [Int.mul_assoc])];have:Nat.gcd (n1*t1) t2=1:=tY (mE c1 ⟨g,by rw [e1,Nat.mul_comm]⟩) (by rw [Nat.gcd_comm];exact ct);rw [Int.gcd,Int.natAbs_mul];exact this
 have z3:Int.gcd ((n1:Int)*t1+one same*((n2:Int)*t2)) g=l:=by
  have q1:n1=d1*(n1/d1)+n1%d1:=(Nat.div_add_mod _ _).symm;have q2:n2=d2*(n2/d2)+n2%d2:=(Nat.div_add_mod _ _).symm;have m1:n1%d1*t1=g*(n1%d1*t1/g)+n1%d1*t1%g:=(Nat.div_add_mod _ _).symm;have m2:n2%d2*t2=g*(n2%d2*t2/g)+n2%d2*t2%g:=(Nat.div_add_mod _ _).symm;have b2:n2%d2*t2%g<g:=Nat.mod_lt _ hg;rw [hld,CX];generalize n1/d1=W1 at *;generalize n2/d2=W2 at *;generalize n1%d1=r1 at *;generalize n2%d2=r2 at *;generalize r1*t1/g=u1 at *;generalize r1*t1%g=left at *;generalize r2*t2/g=u2 at *;generalize r2*t2%g=right at *;have N1:(n1:Int)*t1=g*(t2*W1*t1+u1)+left:=by
   have:n1*t1=g*(t2*W1*t1+u1)+left:=by
    rw [q1,Nat.add_mul,m1,e1,Nat.mul_add];simp only [Nat.mul_assoc,Nat.add_assoc]
   exact_mod_cast this
  have N2:(n2:Int)*t2=g*(t1*W2*t2+u2)+right:=by
   have:n2*t2=g*(t1*W2*t2+u2)+right:=by
    rw [q2,Nat.add_mul,m2,e2,Nat.mul_add];simp only [Nat.mul_assoc,Nat.add_assoc]
   exact_mod_cast this
  rw [N1,N2];generalize ((t2:Int)*W1*t1+u1)=P1;generalize ((t1:Int)*W2*t2+u2)=P2;cases same
  ·simp only [one,Bool.false_eq_true,if_false];rw [mF (b:=(left:Int)-right) (k:=P1-P2) (by rw [Int.sub_mul,Int.mul_comm (g:Int),Int.mul_comm (g:Int)];omega)];rfl
  ·simp only [one,if_true];have hr:(((g-right:Nat):Nat):Int)=(g:Int)-right:=by omega
   rw [hr,mF (b:=(left:Int)-((g:Int)-right)) (k:=P1+P2+1) (by rw [Int.add_mul,Int.add_mul,Int.mul_comm (g:Int),Int.mul_comm (g:Int)];omega)];rfl
 rw [Int.gcd,Int.natAbs_natCast] at z1 z2 z3;have z4:=Nat.Coprime.mul_right z1 z2;rw [←z3];exact Nat.Coprime.gcd_mul_right_cancel_right g (Nat.Coprime.symm z4)
structure Parts(same:Bool)(n1 d1 n2 d2:Nat)(N1 N2 l L D A B ra rb:Nat):Prop where
 l0:0<l
 D0:0<D
 hL:L=l*D
 ha:N1=n1/d1*L+(l*A+ra)
 hb:N2=n2/d2*L+(l*B+rb)
 hra:ra<l
 hrb:rb<l
 hA:A<D
 hB:B<D
 co:Nat.gcd ((N1:Int)+one same*N2).natAbs (l*D)=l
theorem parts(same:Bool){n1 d1 n2 d2:Nat}(h1:0<d1)(h2:0<d2)(c1:Nat.gcd n1 d1=1)(c2:Nat.gcd n2 d2=1) :
  ∃g t1 t2 L:Nat,d1=g*t2∧d2=g*t1∧L=g*(t1*t2)∧0<g∧0<t1∧0<t2 ∧
   Parts same n1 d1 n2 d2 (n1*t1) (n2*t2) (lost same n1 d1 n2 d2) L (sden same n1 d1 n2 d2) (partA same n1 d1 n2 d2) (partB same n1 d1 n2 d2) (broken same n1 d1 n2 d2) (n2%d2*t2%lost same n1 d1 n2 d2):=by
 obtain ⟨g,t1,t2,l,k,hg,hl,e1,e2,hle,hk,hsd,ht1,ht2,p1,p2,pk,hco⟩:=BL same h1 h2 c1 c2;refine ⟨g,t1,t2,g*(t1*t2),e1,e2,rfl,hg,p1,p2,?_⟩;have hL:g*(t1*t2)=l*(t2*(t1*k)):=by rw [hk];simp only [Nat.mul_comm,Nat.mul_left_comm]
 have hA:partA same n1 d1 n2 d2=n1%d1*t1/l:=by rw [partA,hle,ht1]
 have hB:partB same n1 d1 n2 d2=n2%d2*t2/l:=by rw [partB,hle,ht2]
 have hC:broken same n1 d1 n2 d2=n1%d1*t1%l:=by rw [broken,hle,ht1]
 rw [hA,hB,hC,hle,hsd];have q1:n1=d1*(n1/d1)+n1%d1:=(Nat.div_add_mod _ _).symm;have q2:n2=d2*(n2/d2)+n2%d2:=(Nat.div_add_mod _ _).symm;have m1:l*(n1%d1*t1/l)+n1%d1*t1%l=n1%d1*t1:=Nat.div_add_mod _ _;have m2:l*(n2%d2*t2/l)+n2%d2*t2%l=n2%d2*t2:=Nat.div_add_mod _ _;have b1:n1%d1*t1<g*(t1*t2):=by
  have:g*(t1*t2)=d1*t1:=by rw [e1,Nat.mul_assoc,Nat.mul_comm t1]
  rw [this];exact Nat.mul_lt_mul_of_pos_right (Nat.mod_lt _ h1) p1
 have b2:n2%d2*t2<g*(t1*t2):=by
  have:g*(t1*t2)=d2*t2:=by rw [e2,Nat.mul_assoc]
  rw [this];exact Nat.mul_lt_mul_of_pos_right (Nat.mod_lt _ h2) p2
 refine ⟨hl,Nat.mul_pos p2 (Nat.mul_pos p1 pk),hL,?_,?_,Nat.mod_lt _ hl,Nat.mod_lt _ hl,?_,?_,?_⟩
 ·rw [m1]
  conv=>lhs;rw [q1,Nat.add_mul]
  have:d1*(n1/d1)*t1=n1/d1*(g*(t1*t2)):=by
   generalize n1/d1=W;rw [e1];simp only [Nat.mul_comm,Nat.mul_left_comm]
  rw [this]
 ·rw [m2]
  conv=>lhs;rw [q2,Nat.add_mul]
  have:d2*(n2/d2)*t2=n2/d2*(g*(t1*t2)):=by
   generalize n2/d2=W;rw [e2];simp only [Nat.mul_comm,Nat.mul_left_comm]
  rw [this]
 ·rw [hL] at b1;exact Nat.div_lt_of_lt_mul b1
 ·rw [hL] at b2;exact Nat.div_lt_of_lt_mul b2
 ·rw [←hL];rw [Int.natCast_mul,Int.natCast_mul];exact hco
theorem pG{N n l D:Nat}(hl:0<l)(hn:N=l*n)(h:Nat.gcd N (l*D)=l):Nat.gcd n D=1:=by
 subst hn;rw [Nat.gcd_mul_left] at h;exact Nat.eq_of_mul_eq_mul_left hl (by rw [h,Nat.mul_one])
def snum(n1 d1 n2 d2:Nat):Nat:=(n1/d1+n2/d2)*sden true n1 d1 n2 d2+(partA true n1 d1 n2 d2+partB true n1 d1 n2 d2+(if broken true n1 d1 n2 d2=0 then 0 else 1))
theorem sum_same{x y:Rat}{s:Bool}{n1 d1 n2 d2:Nat}(hx:V x s n1 d1)(hy:V y s n2 d2) :
  Q (x+y) (s && !decide (snum n1 d1 n2 d2=0)) (snum n1 d1 n2 d2) (sden true n1 d1 n2 d2):=by
 obtain ⟨g,t1,t2,L,e1,e2,eL,hg,p1,p2,P⟩:=parts true hx.pos hy.pos hx.co hy.co;have hsum:=P.co;simp only [one,if_true,Int.one_mul] at hsum;have hab:((n1*t1:Nat):Int)+((n2*t2:Nat):Int)=((n1*t1+n2*t2:Nat):Int):=by omega
 rw [hab,Int.natAbs_natCast] at hsum;unfold snum;generalize hb:broken true n1 d1 n2 d2=ra at *;generalize n2%d2*t2%lost true n1 d1 n2 d2=rb at *;generalize lost true n1 d1 n2 d2=l at *;generalize sden true n1 d1 n2 d2=D at *;generalize partA true n1 d1 n2 d2=A at *;generalize partB true n1 d1 n2 d2=B at *;have hdv:l∣n1*t1+n2*t2:=by
  have:=Nat.gcd_dvd_left (n1*t1+n2*t2) (l*D)
  rwa [hsum] at this
 have ha:=P.ha;have hb':=P.hb;have hL:=P.hL;have hra:=P.hra;have hrb:=P.hrb;have hN:n1*t1+n2*t2=l*((n1/d1+n2/d2)*D+(A+B))+(ra+rb):=by
  rw [ha,hb',hL];generalize n1/d1=W1;generalize n2/d2=W2;have w1:W1*(l*D)=l*(W1*D):=by rw [Nat.mul_left_comm]
  have w2:W2*(l*D)=l*(W2*D):=by rw [Nat.mul_left_comm]
  rw [w1,w2,Nat.mul_add,Nat.add_mul,Nat.mul_add,Nat.mul_add];omega
 have hdr:l∣ra+rb:=by
  rw [hN] at hdv;exact (Nat.dvd_add_right (Nat.dvd_mul_right _ _)).1 hdv
 have hrr:ra+rb=l*(if ra=0 then 0 else 1):=by
  obtain ⟨c,hc⟩:=hdr;by_cases h0:ra=0
  ·rw [if_pos h0,Nat.mul_zero];have:c=0:=by
    rcases Nat.eq_zero_or_pos c with h|h
    ·exact h
    ·have:=Nat.mul_le_mul_left l h;omega
   subst this;omega
  ·rw [if_neg h0,Nat.mul_one];have:c=1:=by
    rcases Nat.lt_or_ge c 2 with h|h
    ·rcases Nat.lt_or_ge c 1 with h'|h'
     ·have:c=0:=by omega
      subst this;omega
     ·omega
    ·have:=Nat.mul_le_mul_left l h;omega
   subst this;omega
 have hN2:n1*t1+n2*t2=l*((n1/d1+n2/d2)*D+(A+B+if ra=0 then 0 else 1)):=by
  rw [hN,hrr,←Nat.mul_add,Nat.add_assoc,Nat.add_assoc]
 have hpos1:=hx.pos;have hpos2:=hy.pos;refine Q.of (hx.add hy) (by have:=Nat.mul_pos hpos1 hpos2;omega) P.D0 (pG P.l0 hN2 hsum) (fun h=>by rw [h];simp) ?_;clear hb' ha hN hdv hdr hrr hsum hra hrb hb hab;generalize (n1/d1+n2/d2)*D+(A+B+if ra=0 then 0 else 1)=M at *;have hDD:D*l=g*(t1*t2):=by rw [Nat.mul_comm,←hL,eL]
 have hs:sgn (s && !decide (M=0)) M=sgn s M:=by
  by_cases h0:M=0
  ·rw [h0,sgn_zero,sgn_zero]
  ·simp [h0]
 rw [hs];have lhs:sgn s n1*(d2:Int)+sgn s n2*(d1:Int)=sgn s (n1*t1+n2*t2)*(g:Int):=by
  rw [pK,sgn_scale,sgn_scale,Int.add_mul];rw [e1,e2,Int.natCast_mul,Int.natCast_mul,Int.mul_assoc,Int.mul_assoc,Int.mul_comm (g:Int),Int.mul_comm (g:Int)]
 rw [lhs,hN2,Nat.mul_comm l M,sgn_scale];have rhs:d1*d2=l*D*g:=by
  rw [Nat.mul_comm l D,hDD,e1,e2];simp only [Nat.mul_comm,Nat.mul_left_comm]
 rw [rhs,Int.natCast_mul,Int.natCast_mul];simp only [Int.mul_assoc,Int.mul_comm,Int.mul_left_comm]
def low(n1 d1 n2 d2:Nat):Prop:=n1/d1<n2/d2∨n1/d1=n2/d2∧partA false n1 d1 n2 d2<partB false n1 d1 n2 d2
instance (n1 d1 n2 d2:Nat):Decidable (low n1 d1 n2 d2):=by unfold low;infer_instance
def uA(n1 d1 n2 d2:Nat):Nat:=n1/d1*sden false n1 d1 n2 d2+partA false n1 d1 n2 d2
def uB(n1 d1 n2 d2:Nat):Nat:=n2/d2*sden false n1 d1 n2 d2+partB false n1 d1 n2 d2
def dnum(n1 d1 n2 d2:Nat):Nat:=if low n1 d1 n2 d2 then uB n1 d1 n2 d2-uA n1 d1 n2 d2 else uA n1 d1 n2 d2-uB n1 d1 n2 d2
theorem FL{W1 W2 A B D:Nat}(hA:A<D)(hB:B<D):(W1<W2∨W1=W2∧A<B)↔W1*D+A<W2*D+B:=by
 constructor
 ·rintro (h|⟨rfl,h⟩)
  ·have:=Nat.mul_le_mul_right D (show W1+1≤W2 from h);rw [Nat.add_mul] at this;omega
  ·omega
 ·intro h;rcases Nat.lt_trichotomy W1 W2 with h1|h1|h1
  ·exact Or.inl h1
  ·subst h1;exact Or.inr ⟨rfl,by omega⟩
  ·have:=Nat.mul_le_mul_right D (show W2+1≤W1 from h1);rw [Nat.add_mul] at this;omega
theorem sum_diff{x y:Rat}{s:Bool}{n1 d1 n2 d2:Nat}(hx:V x s n1 d1)(hy:V y (!s) n2 d2) :
  Q (x+y) ((if low n1 d1 n2 d2 then !s else s) && !decide (dnum n1 d1 n2 d2=0)) (dnum n1 d1 n2 d2) (sden false n1 d1 n2 d2):=by
 obtain ⟨g,t1,t2,L,e1,e2,eL,hg,p1,p2,P⟩:=parts false hx.pos hy.pos hx.co hy.co;have hsum:=P.co;simp only [one,Bool.false_eq_true,if_false] at hsum;have hlx:=FL (W1:=n1/d1) (W2:=n2/d2) P.hA P.hB;unfold dnum;have hlow:low n1 d1 n2 d2↔uA n1 d1 n2 d2<uB n1 d1 n2 d2:=hlx;have hnot:¬low n1 d1 n2 d2↔uB n1 d1 n2 d2≤uA n1 d1 n2 d2:=by rw [hlow];omega
 clear hlx;have hUA:uA n1 d1 n2 d2=n1/d1*sden false n1 d1 n2 d2+partA false n1 d1 n2 d2:=rfl;have hUB:uB n1 d1 n2 d2=n2/d2*sden false n1 d1 n2 d2+partB false n1 d1 n2 d2:=rfl;generalize uA n1 d1 n2 d2=U1 at *;generalize uB n1 d1 n2 d2=U2 at *;generalize hb:broken false n1 d1 n2 d2=ra at *;generalize n2%d2*t2%lost false n1 d1 n2 d2=rb at *;generalize lost false n1 d1 n2 d2=l at *;generalize sden false n1 d1 n2 d2=D at *;generalize partA false n1 d1 n2 d2=A at *;generalize partB false n1 d1 n2 d2=B at *;have hL:=P.hL;have hra:=P.hra;have hrb:=P.hrb;have hl0:=P.l0;have ha:n1*t1=l*U1+ra:=by
  rw [P.ha,hL,hUA,Nat.mul_left_comm,Nat.mul_add];omega
 have hb':n2*t2=l*U2+rb:=by
  rw [P.hb,hL,hUB,Nat.mul_left_comm,Nat.mul_add];omega
 have hdv:(l:Int)∣((n1*t1:Nat):Int)+-1*((n2*t2:Nat):Int):=by
  have:=Nat.gcd_dvd_left ((((n1*t1:Nat):Int)+-1*((n2*t2:Nat):Int)).natAbs) (l*D);rw [hsum] at this;exact Int.ofNat_dvd_left.2 this
 have hrr:ra=rb:=by
  rw [ha,hb'] at hdv;have h3:(l:Int)∣(ra:Int)-rb:=by
   have h4:((l*U1+ra:Nat):Int)+-1*((l*U2+rb:Nat):Int)=(l:Int)*((U1:Int)-U2)+((ra:Int)-rb):=by
    rw [Int.natCast_add,Int.natCast_add,Int.natCast_mul,Int.natCast_mul,Int.mul_sub];omega
   rw [h4] at hdv;exact (Int.dvd_add_right (Int.dvd_mul_right _ _)).1 hdv
  have h5:((ra:Int)-rb).natAbs<l:=by omega
  have:=Int.eq_zero_of_dvd_of_natAbs_lt_natAbs h3 (by simpa using h5);omega
 have hpos1:=hx.pos;have hpos2:=hy.pos;have hDD:D*l=g*(t1*t2):=by rw [Nat.mul_comm,←hL,eL]
 have rhs:d1*d2=l*D*g:=by
  rw [Nat.mul_comm l D,hDD,e1,e2];simp only [Nat.mul_comm,Nat.mul_left_comm]
 have tot:sgn s n1*(d2:Int)+sgn (!s) n2*(d1:Int)=(sgn s (n1*t1)-sgn s (n2*t2))*(g:Int):=by
  rw [vv,sgn_scale,sgn_scale,Int.sub_mul,Int.neg_mul];rw [e1,e2,Int.natCast_mul,Int.natCast_mul,Int.mul_assoc,Int.mul_assoc,Int.mul_comm (g:Int),Int.mul_comm (g:Int)];omega
 subst hrr;clear hra hrb hdv hb P hUA hUB;by_cases h:low n1 d1 n2 d2
 ·rw [if_pos h,if_pos h];have hlt:=hlow.1 h;have hN:n2*t2=n1*t1+l*(U2-U1):=by
   rw [ha,hb',Nat.mul_sub];have:=Nat.mul_le_mul_left l (Nat.le_of_lt hlt);omega
  generalize U2-U1=M at *;have hg2:Nat.gcd (l*M) (l*D)=l:=by
   have:(((n1*t1:Nat):Int)+-1*((n2*t2:Nat):Int)).natAbs=l*M:=by rw [hN];omega
   rw [this] at hsum;exact hsum
  refine Q.of (hx.add hy) (by have:=Nat.mul_pos hpos1 hpos2;omega) (by rcases Nat.eq_zero_or_pos D with h|h;(subst h;simp at hDD;exact absurd (Nat.mul_pos hg (Nat.mul_pos p1 p2)) (by omega));exact h) (pG hl0 rfl hg2) (fun h=>by rw [h];simp) ?_;have hs:sgn (!s && !decide (M=0)) M=sgn (!s) M:=by
   by_cases h0:M=0
   ·rw [h0,sgn_zero,sgn_zero]
   ·simp [h0]
  rw [hs,tot,hN,pK,Nat.mul_comm l M,sgn_scale s M l,rhs,vv,Int.natCast_mul,Int.natCast_mul];have:sgn s (n1*t1)-(sgn s (n1*t1)+sgn s M * ↑l) = - (sgn s M*l):=by omega
  rw [this,Int.neg_mul,Int.neg_mul,Int.neg_mul]
  congr 1
  simp only [Int.mul_assoc,Int.mul_comm,Int.mul_left_comm]
 ·rw [if_neg h,if_neg h];have hle:=hnot.1 h;have hN:n1*t1=n2*t2+l*(U1-U2):=by
   rw [ha,hb',Nat.mul_sub];have:=Nat.mul_le_mul_left l hle;omega
  generalize U1-U2=M at *;have hg2:Nat.gcd (l*M) (l*D)=l:=by
   have:(((n1*t1:Nat):Int)+-1*((n2*t2:Nat):Int)).natAbs=l*M:=by rw [hN];omega
   rw [this] at hsum;exact hsum
  refine Q.of (hx.add hy) (by have:=Nat.mul_pos hpos1 hpos2;omega) (by rcases Nat.eq_zero_or_pos D with h|h;(subst h;simp at hDD;exact absurd (Nat.mul_pos hg (Nat.mul_pos p1 p2)) (by omega));exact h) (pG hl0 rfl hg2) (fun h=>by rw [h];simp) ?_;have hs:sgn (s && !decide (M=0)) M=sgn s M:=by
   by_cases h0:M=0
   ·rw [h0,sgn_zero,sgn_zero]
   ·simp [h0]
  rw [hs,tot,hN,pK,Nat.mul_comm l M,sgn_scale s M l,rhs,Int.natCast_mul,Int.natCast_mul];have:sgn s (n2*t2)+sgn s M * ↑l-sgn s (n2*t2)=sgn s M*l:=by omega
  rw [this];simp only [Int.mul_assoc,Int.mul_comm,Int.mul_left_comm]
end Go.Proofs.YtaidedkpfnidpaaGreatDoor.Rm
