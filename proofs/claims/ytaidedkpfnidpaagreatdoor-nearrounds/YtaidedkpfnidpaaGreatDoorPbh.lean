/- Of what NearRoundsRow stands on: RyMake SRatC RsAll RcM SOrdA RySame Rc8Rat SOrdLaw RzDif RsHalfM RsLaw RcM2. -/
import Derived.Test.YtaidedkpfnidpaaGreatDoorPbg
import Derived.Test.YtaidedkpfnidpaaGreatDoorPbe
namespace Go.Proofs.YtaidedkpfnidpaaGreatDoor
open Go.RowKit
set_option maxHeartbeats 2000000
set_option maxRecDepth 20000
def JR(t:Bool)(a:Array Value):Value:=match a.getD 2 undef,a.getD 3 undef with
 | .agg x,.agg y=>.tuple #[.agg #[.bool t,x.getD 0 undef,y.getD 0 undef],.int .i64 0]
 | _,_=>undef
theorem Dn(s:Bool)(a b:Option Addr)(n c k l m d:Nat)(h0:0<m)(hd:0<d)(hg:Nat.gcd m d=1)(W:World)(h1:Num W a n m)(h2:Num W b k d) :
  Calls Tryz.prog 12 #[.agg #[.bool s,.slice a n c,.slice b k l]] W fun e W'=>e = .returned (.int .i64 0)∧Below W.heap.size W W':=by
 have hk:0<k:=by have:=h2.zero;omega
 have hn:0<n:=by have:=h1.zero;omega
 cases s
 ·exact kD a n c m b k l d W hk h1 h2 hg
 ·exact kK a n c m b k l d W hk hn h1 h2 hg
theorem Mine.limb{w:World}{B:Nat}{a:Option Addr}{n c m:Nat}(h:Mine w B a n c m)(h0:0<m)(h1:m<4294967296):n=1∧∃b,a=some ⟨b,0,none⟩∧w.cell? ⟨b,0,none⟩=some (.int .u32 (m:Int)):=by
 have hn:n=1:=by
  obtain ⟨xs,hl,-,hw,hN,hv,-⟩:=h
  match xs,hl,hw,hN,hv with
  | [],hl,_,_,hv=>simp [Pl.val] at hv;omega
  | [x],hl,_,_,_=>simpa using hl.symm
  | x::y::r,hl,hw,hN,hv=>
   exfalso;have h3:Pl.val (y::r)≠0:=by
    intro h4;have:=Pl.norm_lower (xs:=x::y::r) hN (by simp);simp only [Pl.val] at this hv h4;have h5:(4294967296:Nat)^1≤4294967296^((x::y::r).length-1):=Nat.pow_le_pow_right (by omega) (by simp);omega
   simp only [Pl.val] at hv h3;omega
 refine ⟨hn,?_⟩;subst hn;obtain ⟨xs,hl,ho,hw,hN,hv,-⟩:=h
 match xs,hl,ho,hv with
 | [x],_,ho,hv=>
  simp [Pl.val] at hv;subst hv;rcases ho with ⟨e,-⟩|⟨g,cap,cur,e,hg,hh,-,-,-,hc⟩
  ·cases e
  ·injection e with e1 e2 e3
   refine ⟨g,e1,?_⟩;rw [cell_of_row w g 0 _ _ _ hh];have:=hc 0 (by simp);simpa using this
theorem Aw{E F S I B G:Nat}(h:Fm E F S I)(hB:B=2^(E-1)-1)(hG:(G:Int)=(B:Int)+(F:Int)-1){p d:Nat}(h0:0<p)(hd:0<d)(hg:Nat.gcd p d=1)(bp:aK p≤100000)(bd:aK d≤100000)(hr1:aK d≤aK p+4096)(hr2:aK p≤aK d+4096) :
  ∃(M K:Nat) (X:Int) (r0 ρ w:Nat),mM p d B F G M K X r0 ρ w∧∀(md:Nat)(s ng:Bool)(a:Option Addr)(n c:Nat)(b:Option Addr)(k l:Nat)(W:World),md≤4→Tb W→Num W a n p→Num W b k d →
   Calls Tryz.prog 28 #[.agg #[.int .i64 (E:Int),.int .i64 (F:Int)],.agg #[.bool s,.slice a n c,.slice b k l],.bool ng,.int .u8 (md:Int)] W fun e w'=>e = .returned (.tuple #[.int .u64 (fD S I md s (dz B F md s M K X):Int),.int .u8 (dG B F I md s M K X:Int),.int .i64 0])∧Below W.heap.size W w':=by
 obtain ⟨K,hK⟩:∃K,K=204300:=⟨_,rfl⟩;have hl:gH p d≤4096:=by unfold gH;omega
 have hmo:fK p d≤100065:=by unfold fK;omega
 have hall:dS p d<2^K:=by
  have e:dS p d=p*2^(gH p d+fK p d):=by unfold dS jE;rw [Nat.pow_add,Nat.mul_assoc]
  rw [e];refine Nat.lt_of_lt_of_le (Nat.mul_lt_mul_of_pos_right (bu p).1 (Nat.pow_pos (by omega))) ?_;rw [←Nat.pow_add];exact Nat.pow_le_pow_right (by omega) (by omega)
 have hpos:0<dS p d:=Nat.mul_pos (Nat.mul_pos h0 (Nat.pow_pos (by omega))) (Nat.pow_pos (by omega));have hdm:=Nat.div_add_mod (dS p d) d;have hdl:dS p d/d≤dS p d:=Nat.div_le_self _ _;have a1:0<iw p d:=by
  unfold iw
  split
  ·next e=>
   rw [e] at hdm;rcases Nat.eq_zero_or_pos (dS p d/d) with q|q
   ·rw [q] at hdm;omega
   ·omega
  ·omega
 have a2:iw p d<2^(K+1):=by
  rw [Nat.pow_succ];unfold iw
  split<;>omega
 obtain ⟨z,⟨q,hq⟩,hz⟩:=oF a1 a2;obtain ⟨r0,ρ,w,hP⟩:=lU (Fh h0 hd hq (bu _)) (B:=B) h.fo.f52 h.fo.f1 hG;refine ⟨_,_,_,r0,ρ,w,hP,fun md s ng a n c b k l W hm hT h1 h2=>?_⟩;exact yN h hB hm ng s a b n c k l p d W hT h1 h2 (by omega) hd bp bd hr1 hr2 (hide fun W q1 q2=>Dn s a b n c k l p d h0 hd hg W q1 q2) z (2*q+1) (aK (2*q+1)) _ ⟨q,hq⟩ (by omega) (by rw [hq,Nat.mul_div_cancel_left _ (Nat.pow_pos (by omega))]) rfl (bu _)
theorem mM.whole{p d B F G M K:Nat}{X:Int}{r0 ρ w:Nat}(h:mM p d B F G M K X r0 ρ w){S I:Nat}(hI:r0<I)(h0:ρ=0)(md:Nat)(s:Bool):fD S I md s (dz B F md s M K X)=(if s then S else 0)+r0∧dG B F I md s M K X=0:=by
 have hr:dz B F md s M K X=r0:=by rw [h.row,if_pos h0];omega
 refine ⟨?_,?_⟩
 ·unfold fD;rw [hr,if_pos hI]
 ·unfold dG;rw [hr,if_neg (by omega),if_pos (h.ex.2 h0)]
theorem uR(md:Nat)(s o:Bool):bN md s o 1=bN md s false 1:=by
 match md with
 | 0=>rfl
 | 1=>rfl
 | 2=>rfl
 | 3=>rfl
 | n+4=>rfl
theorem Ey{md:Nat}{s o:Bool}{h:Int}(hh:h≤1)(hf:bN md s o h=true):bN md s false 1=true:=by
 rw [←uR md s o];exact qY hh hf
theorem Jd(a b:Nat):s3 a b≤1:=by unfold s3;split<;>(try split)<;>omega
theorem mM.apart{p d B F G M K:Nat}{X:Int}{r0 ρ w:Nat}(h:mM p d B F G M K X r0 ρ w)(hd:0<d){S I:Nat}(hI0:0<I)(hne:¬(ρ=0∧r0<I)) :
  ∃(lo:Nat) (hh:Int),lo<I∧pv F lo*d<p*2^G∧(lo+1<I→p*2^G<pv F (lo+1)*d∧hh=s3 (2*(p*2^G)) ((pv F lo+pv F (lo+1))*d)) ∧
   ∀md s,fD S I md s (dz B F md s M K X)=(if s then S else 0)+(lo+if bN md s (decide (lo%2=1)) hh then 1 else 0)∧(dG B F I md s M K X=1∨dG B F I md s M K X=3∨dG B F I md s M K X=5):=by
 by_cases hI:r0<I
 ·have h0:ρ≠0:=fun e=>hne ⟨e,hI⟩;have hlt:pv F r0*d<p*2^G:=Nat.lt_of_le_of_ne h.le fun e=>h0 (h.eq.2 e);refine ⟨r0,hlf ρ w,hI,hlt,fun _=>⟨h.lt,h.half⟩,fun md s=>⟨?_,?_⟩⟩
  ·have hr:=h.row md s;rw [if_neg h0] at hr;unfold fD
   congr 1
   rw [hr];by_cases hf:bN md s (decide (r0%2=1)) (hlf ρ w)=true
   ·rw [if_pos hf];by_cases h1:r0+1<I
    ·rw [if_pos h1]
    ·rw [if_neg h1,if_pos (Ey (by rw [tH];exact Jd _ _) hf),show I=r0+1 by omega]
   ·rw [if_neg hf,Nat.add_zero,if_pos hI]
  ·unfold dG;rw [if_neg (c:=bA B F K X≤X) (fun e=>h0 (h.ex.1 e))]
   split
   ·exact Or.inr (Or.inl rfl)
   ·split
    ·exact Or.inr (Or.inr rfl)
    ·exact Or.inl rfl
 ·obtain ⟨J,rfl⟩:∃J,I=J+1:=⟨I-1,by omega⟩;have hge:∀md s,J+1≤dz B F md s M K X:=fun md s=>by rw [h.row];omega
  refine ⟨J,1,by omega,?_,fun h1=>absurd h1 (by omega),fun md s=>⟨?_,?_⟩⟩
  ·refine Nat.lt_of_lt_of_le (Nat.mul_lt_mul_of_pos_right (iD (show J<r0 by omega)) hd) h.le
  ·unfold fD
   congr 1
   rw [if_neg (show ¬dz B F md s M K X<J+1 by have:=hge md s;omega),uR md s (decide (J%2=1))]
   split<;>rfl
  ·unfold dG;rw [if_pos (hge md s)];exact Or.inr (Or.inl rfl)
def bR(md:Nat)(s:Bool)(F a:Nat):Nat:=if md≤1 then pv F a+pv F (a+1) else if bN md s false 1 then 2*pv F a else 2*pv F (a+1)
def lv(md:Nat)(s:Bool)(r:Nat):Bool:=if md=0 then decide (r%2=0) else if md=1 then true else !bN md s false 1
def fV(md:Nat)(s:Bool)(r:Nat):Bool:=if md=0 then decide (r%2=0) else if md=1 then false else bN md s false 1
structure gY(md:Nat)(s:Bool)(F r h d:Nat):Prop where
 lo:r=0∨bR md s F (r-1)*d<h∨(bR md s F (r-1)*d=h∧lv md s r=true)
 hi:h<bR md s F r*d∨(h=bR md s F r*d∧fV md s r=true)
theorem j5{md:Nat}{s:Bool}{F r h d:Nat}:gY md s F r h d↔(r=0∨bR md s F (r-1)*d<h∨(bR md s F (r-1)*d=h∧lv md s r=true))∧(h<bR md s F r*d∨(h=bR md s F r*d∧fV md s r=true)):=
 ⟨fun h=>⟨h.lo,h.hi⟩,fun h=>⟨h.1,h.2⟩⟩
theorem zq{md:Nat}{s:Bool}{F a b:Nat}(h:a<b):bR md s F a<bR md s F b:=by
 have h1:=iD (F:=F) h;have h2:=iD (F:=F) (show a+1<b+1 by omega);unfold bR
 split
 ·omega
 ·split<;>omega
theorem FH(md:Nat)(s:Bool)(r:Nat):lv md s (r+1) = !fV md s r:=by
 unfold lv fV
 split
 ·by_cases h:r%2=0
  ·rw [decide_eq_true h,decide_eq_false (by omega)];rfl
  ·rw [decide_eq_false h,decide_eq_true (by omega)];rfl
 ·split<;>rfl
theorem gY.no{md:Nat}{s:Bool}{F r r' h d:Nat}(hd:0<d)(a:gY md s F r h d)(b:gY md s F r' h d)(hlt:r<r'):False:=by
 have h1:h≤bR md s F r*d:=by rcases a.hi with h|⟨h,-⟩<;>omega
 have h2:bR md s F (r'-1)*d≤h:=by rcases b.lo with h|h|⟨h,-⟩<;>omega
 by_cases e:r=r'-1
 ·obtain rfl:r'=r+1:=by omega
  rw [Nat.add_sub_cancel] at h2;have b1:=b.lo;rw [Nat.add_sub_cancel] at b1;have o:fV md s r=true:=by rcases a.hi with h|⟨-,h⟩<;>first|omega|exact h
  have i:lv md s (r+1)=true:=by rcases b1 with h|h|⟨-,h⟩<;>first|omega|exact h
  rw [FH,o] at i;cases i
 ·have:=Nat.mul_lt_mul_of_pos_right (zq (md:=md) (s:=s) (F:=F) (show r<r'-1 by omega)) hd;omega
theorem gY.uniq{md:Nat}{s:Bool}{F r r' h d:Nat}(hd:0<d)(a:gY md s F r h d)(b:gY md s F r' h d):r=r':=by
 rcases Nat.lt_trichotomy r r' with q|q|q
 ·exact (a.no hd b q).elim
 ·exact q
 ·exact (b.no hd a q).elim
theorem EZ{md:Nat}(hm:2≤md)(s o:Bool)(h:Int):bN md s o h=bN md s false 1:=by
 match md,hm with
 | 2,_=>rfl
 | 3,_=>rfl
 | n+4,_=>rfl
theorem sj(md:Nat)(s:Bool)(F:Nat){d:Nat}(hd:0<d):gY md s F 0 0 d:=by
 refine ⟨Or.inl rfl,?_⟩;have h1:=iD (F:=F) (show 0<1 by omega);rw [fA] at h1;unfold bR fV;simp only [fA,Nat.zero_add];by_cases hm:md≤1
 ·simp only [if_pos hm];exact Or.inl (Nat.mul_pos h1 hd)
 ·simp only [if_neg hm,if_neg (show md≠0 by omega),if_neg (show md≠1 by omega)];cases bN md s false 1
  ·simp only [Bool.false_eq_true,if_false];exact Or.inl (Nat.mul_pos (by omega) hd)
  ·simp only [if_true];refine Or.inr ⟨?_,?_⟩<;>simp
theorem mM.rin{p d B F G M K:Nat}{X:Int}{r0 ρ w:Nat}(h:mM p d B F G M K X r0 ρ w)(hd:0<d)(md:Nat)(s:Bool):gY md s F (dz B F md s M K X) (2*(p*2^G)) d:=by
 have hle:=h.le;have hlt:=h.lt;have hh:=h.half;have hrow:=h.row md s;have heq:=h.eq;obtain ⟨N,hN⟩:∃N,N=p*2^G:=⟨_,rfl⟩;rw [←hN] at hle hlt hh heq ⊢;have g1:=Nat.mul_lt_mul_of_pos_right (iD (F:=F) (show r0<r0+1 by omega)) hd;have g2:=Nat.mul_lt_mul_of_pos_right (iD (F:=F) (show r0+1<r0+1+1 by omega)) hd;have g3:r0=0∨pv F (r0-1)*d<pv F r0*d:=by
  by_cases e:r0=0
  ·exact Or.inl e
  ·exact Or.inr (Nat.mul_lt_mul_of_pos_right (iD (by omega)) hd)
 have e1:∀a,(pv F a+pv F (a+1))*d=pv F a*d+pv F (a+1)*d:=fun a=>Nat.add_mul ..;have e2:∀a,2*pv F a*d=2*(pv F a*d):=fun a=>Nat.mul_assoc ..;have e3:r0=0∨r0-1+1=r0:=by omega
 by_cases h0:ρ=0
 ·have hq:=heq.1 h0;rw [if_pos h0,Nat.add_zero] at hrow;rw [hrow,j5];unfold bR lv fV;by_cases hm:md≤1
  ·simp only [if_pos hm,e1];refine ⟨?_,Or.inl (by omega)⟩;rcases g3 with g|g
   ·exact Or.inl g
   ·rcases e3 with e|e
    ·exact Or.inl e
    ·rw [e];exact Or.inr (Or.inl (by omega))
  ·simp only [if_neg hm,if_neg (show md≠0 by omega),if_neg (show md≠1 by omega)];cases bN md s false 1
   ·simp only [Bool.false_eq_true,if_false,e2,Bool.not_false,and_true,and_false,or_false];refine ⟨?_,by omega⟩;rcases e3 with e|e
    ·exact Or.inl e
    ·rw [e];omega
   ·simp only [if_true,e2,Bool.not_true,and_true,Bool.false_eq_true,and_false,or_false];refine ⟨?_,by omega⟩;omega
 ·have hq:pv F r0*d<N:=Nat.lt_of_le_of_ne hle fun e=>h0 (heq.2 e);rw [if_neg h0] at hrow;by_cases hm:2≤md
  ·rw [EZ hm] at hrow;rw [hrow,j5];unfold bR lv fV;simp only [if_neg (show ¬md≤1 by omega),if_neg (show md≠0 by omega),if_neg (show md≠1 by omega)];cases bN md s false 1
   ·simp only [Bool.false_eq_true,if_false,Nat.add_zero,e2,Bool.not_false,and_true,and_false,or_false];refine ⟨?_,by omega⟩;rcases e3 with e|e
    ·exact Or.inl e
    ·rw [e];omega
   ·simp only [if_true,Nat.add_sub_cancel,e2,Bool.not_true,and_true,Bool.false_eq_true,and_false,or_false];exact ⟨by omega,by omega⟩
  ·rw [hh] at hrow;have hs3:s3 (2*N) ((pv F r0+pv F (r0+1))*d)=if 2*N<pv F r0*d+pv F (r0+1)*d then -1 else if 2*N=pv F r0*d+pv F (r0+1)*d then 0 else 1:=by rw [e1];rfl
   rw [hs3] at hrow;rw [hrow,j5];unfold bR lv fV;simp only [if_pos (show md≤1 by omega)];have lo0:r0=0∨(pv F (r0-1)+pv F (r0-1+1))*d<2*N:=by
    rcases g3 with g|g
    ·exact Or.inl g
    ·rcases e3 with e|e
     ·exact Or.inl e
     ·rw [e,Nat.add_mul];exact Or.inr (by omega)
   rcases Nat.lt_trichotomy (2*N) (pv F r0*d+pv F (r0+1)*d) with q|q|q
   ·have ef:bN md s (decide (r0%2=1)) (if 2*N<pv F r0*d+pv F (r0+1)*d then -1 else if 2*N=pv F r0*d+pv F (r0+1)*d then 0 else 1)=false:=by
     rw [if_pos q];rcases (show md=0∨md=1 by omega) with rfl|rfl<;>rfl
    rw [ef];simp only [Bool.false_eq_true,if_false,Nat.add_zero];refine ⟨?_,Or.inl (by rw [e1];exact q)⟩;rcases lo0 with l|l
    ·exact Or.inl l
    ·exact Or.inr (Or.inl l)
   ·rcases (show md=0∨md=1 by omega) with rfl|rfl
    ·have ef:bN 0 s (decide (r0%2=1)) (if 2*N<pv F r0*d+pv F (r0+1)*d then -1 else if 2*N=pv F r0*d+pv F (r0+1)*d then 0 else 1)=decide (r0%2=1):=by
      rw [if_neg (by omega),if_pos q];simp [bN]
     rw [ef];by_cases ho:r0%2=1
     ·simp only [decide_eq_true ho,if_true,Nat.add_sub_cancel];exact ⟨Or.inr (Or.inr ⟨by rw [e1];omega,decide_eq_true (by omega)⟩),Or.inl (by rw [e1];omega)⟩
     ·simp only [decide_eq_false ho,Bool.false_eq_true,if_false,Nat.add_zero,if_true];refine ⟨?_,Or.inr ⟨by rw [e1];exact q,decide_eq_true (by omega)⟩⟩;rcases lo0 with l|l
      ·exact Or.inl l
      ·exact Or.inr (Or.inl l)
    ·have ef:bN 1 s (decide (r0%2=1)) (if 2*N<pv F r0*d+pv F (r0+1)*d then -1 else if 2*N=pv F r0*d+pv F (r0+1)*d then 0 else 1)=true:=by
      rw [if_neg (by omega),if_pos q];rfl
     rw [ef];simp only [if_true,Nat.add_sub_cancel];exact ⟨Or.inr (Or.inr ⟨by rw [e1];omega,rfl⟩),Or.inl (by rw [e1];omega)⟩
   ·have ef:bN md s (decide (r0%2=1)) (if 2*N<pv F r0*d+pv F (r0+1)*d then -1 else if 2*N=pv F r0*d+pv F (r0+1)*d then 0 else 1)=true:=by
     rw [if_neg (by omega),if_neg (by omega)];rcases (show md=0∨md=1 by omega) with rfl|rfl<;>rfl
    rw [ef];simp only [if_true,Nat.add_sub_cancel];exact ⟨Or.inr (Or.inl (by rw [e1];omega)),Or.inl (by rw [e1];omega)⟩
theorem yB{m i j c K:Nat}{x:Int}(hc:65≤c)(ho:m%2=1)(hK:Bl m K)(hx:x=(i:Int)-(j:Int)):Std (m*2^i) (2^j) (j+c) (m*2^i*2^(j+c)) (aK (m*2^i*2^(j+c)/2^j)) (i+c+1) m K x:=by
 have hp:0<2^j:=Nat.pow_pos (by omega);have e:m*2^i*2^(j+c)=m*2^(i+c)*2^j:=by rw [Nat.pow_add,Nat.pow_add];ac_rfl
 have e1:m*2^i*2^(j+c)/2^j=m*2^(i+c):=by rw [e];exact Nat.mul_div_cancel _ hp
 have e2:m*2^i*2^(j+c)%2^j=0:=by rw [e];exact Nat.mul_mod_left ..
 refine ⟨rfl,hp,?_,ho,hK,bu _,?_,by rw [hx];omega⟩
 ·rw [if_pos e2,e1,Nat.pow_succ];ac_rfl
 ·rw [e1];have h1:2^c≤m*2^(i+c):=Nat.le_trans (Nat.pow_le_pow_right (by omega) (by omega)) (Nat.le_mul_of_pos_left _ (show 0<m by omega));have:=(bu _).gt_of h1;omega
theorem Ho(s:Bool)(a b:Option Addr)(n c k l:Nat)(xs ys:List Nat)(w:World)(hn:xs.length=n)(hnb:n≤9223372036854775807)(hl:bE w a xs)(hw:Pl.Wf xs)(hk:ys.length=k)(hkb:k≤9223372036854775807)(hly:bE w b ys)(hwy:Pl.Wf ys) :
  (∀W:World,Below w.heap.size w W→Calls Tryz.prog 12 #[.agg #[.bool s,.slice a n c,.slice b k l]] W fun e W'=>e = .returned (.int .i64 20)∧Below W.heap.size W W') ∨
  ∃p d:Nat,Num w a n p∧Num w b k d∧0<d∧Nat.gcd p d=1∧(s=true→0<p)∧∀W:World,Num W a n p→Num W b k d→Calls Tryz.prog 12 #[.agg #[.bool s,.slice a n c,.slice b k l]] W fun e W'=>e = .returned (.int .i64 0)∧Below W.heap.size W W':=by
 rcases Nat.eq_zero_or_pos k with z'|z'
 ·subst z';exact Or.inl fun W _=>Hg s a n c b l W
 by_cases hneg:s=true∧n=0
 ·obtain ⟨rfl,rfl⟩:=hneg;exact Or.inl fun W _=>GK a c b k l z' W
 have hs:s=true→0<n:=fun e=>Nat.pos_of_ne_zero fun e2=>hneg ⟨e,e2⟩;by_cases hc:fU xs ys=0
 case neg=>
  refine Or.inl fun W hW=>?_;have hG:∀W':World,Below W.heap.size W W'→Calls Tryz.prog 41 #[.agg #[.slice a n c],.agg #[.slice b k l]] W' fun e w'=>e = .returned (.tuple #[.agg #[.slice none 0 0],.int .i64 (fU xs ys)])∧Below W'.heap.size W' w':=fun W' hW'=>Dt a n c xs b k l ys W' hn hk hnb hkb (hl.below (ai hW hW')) (hly.below (ai hW hW')) hc;cases s
  ·exact CE a n c b k l _ W z' (by simpa using hc) (hide hG)
  ·exact Ar a n c b k l _ W z' (hs rfl) (by simpa using hc) (hide hG)
 have c1:eG xs=0:=by
  unfold fU at hc;by_cases h:eG xs=0
  ·exact h
  ·rw [if_neg h] at hc;exact absurd hc h
 have c2:eG ys=0:=by unfold fU at hc;rw [if_pos c1] at hc;exact hc
 have gN:=uT hn hl hw c1;have gD:=uT hk hly hwy c2;generalize Pl.val xs=p at *;generalize Pl.val ys=d at *;have hD0:0<d:=by have:=gD.zero;omega
 by_cases hg:Nat.gcd p d=1
 case neg=>
  refine Or.inl fun W hW=>?_;cases s
  ·exact Bq a n c p b k l d W z' (gN.kept hW) (gD.kept hW) hg
  ·exact CV a n c p b k l d W z' (hs rfl) (gN.kept hW) (gD.kept hW) hg
 refine Or.inr ⟨p,d,gN,gD,hD0,hg,fun e=>?_,fun W q1 q2=>?_⟩
 ·have:=hs e;have:=gN.zero;omega
 ·cases s
  ·exact kD a n c p b k l d W z' q1 q2 hg
  ·exact kK a n c p b k l d W z' (hs rfl) q1 q2 hg
def wY(I md:Nat)(s:Bool)(r:Nat):Nat:=if r<I then r else if bN md s false 1 then I else I-1
theorem wT(s t:Bool)(a1 a2 a3 a4:Option Addr)(n1 n2 n3 n4 c1 c2 c3 c4:Nat)(he:(s==t&&decide (n1=n3)&&decide (n2=n4))=false)(w:World)  :
  Calls Tryz.prog 38 #[.agg #[.bool s,.slice a1 n1 c1,.slice a2 n2 c2,.bool t,.slice a3 n3 c3,.slice a4 n4 c4]] w fun e w'=>e = .returned (.bool false)∧Below w.heap.size w w':=by
 have hEq:=kR s t n1 n2 n3 n4;rw [he] at hEq;clear he;go_enter Tryz.func38,Tryz.ntmps38
 go_wp2_with fail
 refine wp_region_any (by kernel_rfl) ?_;refine aM [some (3,.pointer (some ⟨w.heap.size,0,none⟩)),some (4,.agg #[.bool s,.slice a1 n1 c1,.slice a2 n2 c2]),some (5,.agg #[.bool s,.int .i64 (n1:Int),.int .i64 (n2:Int)]),some (6,.pointer (some ⟨w.heap.size,3,none⟩)),some (7,.agg #[.bool t,.slice a3 n3 c3,.slice a4 n4 c4]),some (8,.agg #[.bool t,.int .i64 (n3:Int),.int .i64 (n4:Int)]),some (9,.bool false),some (10,.bool false),some (11,undef),some (12,undef),some (13,undef),some (14,undef),some (15,undef),some (16,undef),some (17,undef),some (18,undef),some (19,undef),some (20,.bool false),some (21,.bool false),some (22,undef),some (23,undef),some (24,undef),some (25,undef),some (26,undef),some (27,undef),some (28,undef),some (29,undef),some (30,undef),some (31,.bool false),some (2,.bool false)]
  (fun _ W9=>Fs w W9 [⟨w.heap.size,#[.bool s,.slice a1 n1 c1,.slice a2 n2 c2,.bool t,.slice a3 n3 c3,.slice a4 n4 c4],78⟩]) _ _ rfl (by kernel_rfl) rfl rfl ?_ ?_ (Fs.one w _ _).drew
 ·intro l9 t9 W9 i9 hD hi9 hl9 hM;obtain ⟨o9,ho9,hd9⟩:=(mem_ready.1 hi9).2;have hin9:i9<30:=by
   by_cases h:i9<30
   ·exact h
   ·rw [Array.getElem?_eq_none (by rw [hD.len];simp;omega)] at hl9;cases hl9
  have hcase:i9=0∨i9=1∨i9=2∨i9=3∨i9=4∨i9=5∨i9=6∨i9=7∨i9=8∨i9=9∨i9=10∨i9=11∨i9=12∨i9=13∨i9=14∨i9=15∨i9=16∨i9=17∨i9=18∨i9=19∨i9=20∨i9=21∨i9=22∨i9=23∨i9=24∨i9=25∨i9=26∨i9=27∨i9=28∨i9=29:=by omega
  clear hin9;rcases hcase with rfl|rfl|rfl|rfl|rfl|rfl|rfl|rfl|rfl|rfl|rfl|rfl|rfl|rfl|rfl|rfl|rfl|rfl|rfl|rfl|rfl|rfl|rfl|rfl|rfl|rfl|rfl|rfl|rfl|rfl
  ·cases ho9;have r1:=hD.old 1 _ rfl rfl;refine wpOp_step rfl fun K hK=>?_;go_simp
   exact hK _ _ ⟨rfl,hM⟩
  ·cases ho9;have r3:=hD.od hd9 0 3 _ rfl (by simp);have hM0:=hM;have Q_:=hM0.cellAt (b:=w.heap.size) (cs:=#[.bool s,.slice a1 n1 c1,.slice a2 n2 c2,.bool t,.slice a3 n3 c3,.slice a4 n4 c4]) (t:=78) (by simp);have c9_0:=Q_ 0 _ rfl;have c9_1:=Q_ 1 _ rfl;have c9_2:=Q_ 2 _ rfl;clear Q_;clear hM0;refine wpOp_step rfl fun K hK=>?_;go_simp
   exact hK _ _ ⟨rfl,hM⟩
  ·cases ho9;have r4:=hD.od hd9 1 4 _ rfl (by simp);refine wpOp_step rfl fun K hK=>?_;go_simp
   go_wp2_with fail
   refine (dC _ _ _ _ _ _ _ _).mono ?_;rintro en w9 ⟨rfl,hb9⟩;exact hK _ _ ⟨rfl,hM.kept hb9⟩
  ·cases ho9;have r1:=hD.old 1 _ rfl rfl;refine wpOp_step rfl fun K hK=>?_;go_simp
   exact hK _ _ ⟨rfl,hM⟩
  ·cases ho9;have r6:=hD.od hd9 3 6 _ rfl (by simp);have hM0:=hM;have Q_:=hM0.cellAt (b:=w.heap.size) (cs:=#[.bool s,.slice a1 n1 c1,.slice a2 n2 c2,.bool t,.slice a3 n3 c3,.slice a4 n4 c4]) (t:=78) (by simp);have c9_0:=Q_ 3 _ rfl;have c9_1:=Q_ 4 _ rfl;have c9_2:=Q_ 5 _ rfl;clear Q_;clear hM0;refine wpOp_step rfl fun K hK=>?_;go_simp
   exact hK _ _ ⟨rfl,hM⟩
  ·cases ho9;have r7:=hD.od hd9 4 7 _ rfl (by simp);refine wpOp_step rfl fun K hK=>?_;go_simp
   go_wp2_with fail
   refine (dC _ _ _ _ _ _ _ _).mono ?_;rintro en w9 ⟨rfl,hb9⟩;exact hK _ _ ⟨rfl,hM.kept hb9⟩
  ·cases ho9;have r5:=hD.od hd9 2 5 _ rfl (by simp);have r8:=hD.od hd9 5 8 _ rfl (by simp);refine wpOp_step rfl fun K hK=>?_;go_simp
   exact hK _ _ ⟨aU (by rfl),hM⟩
  ·cases ho9;have r9:=hD.od hd9 6 9 _ rfl (by simp);refine wpOp_step rfl fun K hK=>?_;go_simp
   exact hK _ _ ⟨rfl,hM⟩
  ·cases ho9;have r10:=hD.on 7 10 _ rfl (ak (hd9 ⟨7,.guard⟩ (by simp) rfl));refine wpOp_step rfl fun K hK=>?_;go_simp
   exact hK _ _ ⟨rfl,hM⟩
  ·cases ho9;have r10:=hD.on 7 10 _ rfl (ak (hd9 ⟨7,.guard⟩ (by simp) rfl));refine wpOp_step rfl fun K hK=>?_;go_simp
   exact hK _ _ ⟨rfl,hM⟩
  ·cases ho9;have r10:=hD.on 7 10 _ rfl (ak (hd9 ⟨7,.guard⟩ (by simp) rfl));refine wpOp_step rfl fun K hK=>?_;go_simp
   exact hK _ _ ⟨rfl,hM⟩
  ·cases ho9;have r10:=hD.on 7 10 _ rfl (ak (hd9 ⟨7,.guard⟩ (by simp) rfl));refine wpOp_step rfl fun K hK=>?_;go_simp
   exact hK _ _ ⟨rfl,hM⟩
  ·cases ho9;have r10:=hD.on 7 10 _ rfl (ak (hd9 ⟨7,.guard⟩ (by simp) rfl));refine wpOp_step rfl fun K hK=>?_;go_simp
   exact hK _ _ ⟨rfl,hM⟩
  ·cases ho9;have r10:=hD.on 7 10 _ rfl (ak (hd9 ⟨7,.guard⟩ (by simp) rfl));refine wpOp_step rfl fun K hK=>?_;go_simp
   exact hK _ _ ⟨rfl,hM⟩
  ·cases ho9;have r10:=hD.on 7 10 _ rfl (ak (hd9 ⟨7,.guard⟩ (by simp) rfl));refine wpOp_step rfl fun K hK=>?_;go_simp
   exact hK _ _ ⟨rfl,hM⟩
  ·cases ho9;have r10:=hD.on 7 10 _ rfl (ak (hd9 ⟨7,.guard⟩ (by simp) rfl));refine wpOp_step rfl fun K hK=>?_;go_simp
   exact hK _ _ ⟨rfl,hM⟩
  ·cases ho9;have r10:=hD.on 7 10 _ rfl (ak (hd9 ⟨7,.chain⟩ (by simp) rfl));refine wpOp_step rfl fun K hK=>?_;go_simp
   exact hK _ _ ⟨rfl,hM⟩
  ·cases ho9;have r10:=hD.od hd9 7 10 _ rfl (by simp);have r19:=hD.od hd9 16 19 _ rfl (by simp);refine wpOp_step rfl fun K hK=>?_;go_simp
   exact hK _ _ ⟨rfl,hM⟩
  ·cases ho9;have r20:=hD.od hd9 17 20 _ rfl (by simp);refine wpOp_step rfl fun K hK=>?_;go_simp
   exact hK _ _ ⟨rfl,hM⟩
  ·cases ho9;have r21:=hD.on 18 21 _ rfl (ak (hd9 ⟨18,.guard⟩ (by simp) rfl));refine wpOp_step rfl fun K hK=>?_;go_simp
   exact hK _ _ ⟨rfl,hM⟩
  ·cases ho9;have r21:=hD.on 18 21 _ rfl (ak (hd9 ⟨18,.guard⟩ (by simp) rfl));refine wpOp_step rfl fun K hK=>?_;go_simp
   exact hK _ _ ⟨rfl,hM⟩
  ·cases ho9;have r21:=hD.on 18 21 _ rfl (ak (hd9 ⟨18,.guard⟩ (by simp) rfl));refine wpOp_step rfl fun K hK=>?_;go_simp
   exact hK _ _ ⟨rfl,hM⟩
  ·cases ho9;have r21:=hD.on 18 21 _ rfl (ak (hd9 ⟨18,.guard⟩ (by simp) rfl));refine wpOp_step rfl fun K hK=>?_;go_simp
   exact hK _ _ ⟨rfl,hM⟩
  ·cases ho9;have r21:=hD.on 18 21 _ rfl (ak (hd9 ⟨18,.guard⟩ (by simp) rfl));refine wpOp_step rfl fun K hK=>?_;go_simp
   exact hK _ _ ⟨rfl,hM⟩
  ·cases ho9;have r21:=hD.on 18 21 _ rfl (ak (hd9 ⟨18,.guard⟩ (by simp) rfl));refine wpOp_step rfl fun K hK=>?_;go_simp
   exact hK _ _ ⟨rfl,hM⟩
  ·cases ho9;have r21:=hD.on 18 21 _ rfl (ak (hd9 ⟨18,.guard⟩ (by simp) rfl));refine wpOp_step rfl fun K hK=>?_;go_simp
   exact hK _ _ ⟨rfl,hM⟩
  ·cases ho9;have r21:=hD.on 18 21 _ rfl (ak (hd9 ⟨18,.guard⟩ (by simp) rfl));refine wpOp_step rfl fun K hK=>?_;go_simp
   exact hK _ _ ⟨rfl,hM⟩
  ·cases ho9;have r21:=hD.on 18 21 _ rfl (ak (hd9 ⟨18,.chain⟩ (by simp) rfl));refine wpOp_step rfl fun K hK=>?_;go_simp
   exact hK _ _ ⟨rfl,hM⟩
  ·cases ho9;have r21:=hD.od hd9 18 21 _ rfl (by simp);have r30:=hD.od hd9 27 30 _ rfl (by simp);refine wpOp_step rfl fun K hK=>?_;go_simp
   exact hK _ _ ⟨rfl,hM⟩
  ·cases ho9;have r31:=hD.od hd9 28 31 _ rfl (by simp);refine wpOp_step rfl fun K hK=>?_;go_simp
   exact hK _ _ ⟨rfl,hM⟩
 ·intro l9 W9 hl9 hM;have hS:=hM;clear hM;simp only [ay.lay,List.setIfInBounds_toArray,List.set_cons_zero,List.set_cons_succ];obtain ⟨⟨ya,yb,yc,yd,ye,yf,-⟩,-⟩:=hS.cells;clear hEq;go_wp2
  go_ret
  exact ⟨rfl,hS.fr⟩
theorem Gz(s t:Bool)(a1 a2 a3 a4:Option Addr)(n1 n2 n3 n4 c1 c2 c3 c4:Nat)(he:(s==t&&decide (n1=n3)&&decide (n2=n4))=true)(w:World)(HN:∀W:World,Below w.heap.size w W→Calls Tryz.prog 81 #[.slice a1 n1 c1,.slice a3 n3 c3] W fun e w'=>e = .returned (.bool false)∧Below W.heap.size W w') :
  Calls Tryz.prog 38 #[.agg #[.bool s,.slice a1 n1 c1,.slice a2 n2 c2,.bool t,.slice a3 n3 c3,.slice a4 n4 c4]] w fun e w'=>e = .returned (.bool false)∧Below w.heap.size w w':=by
 have hEq:=kR s t n1 n2 n3 n4;rw [he] at hEq;clear he;go_enter Tryz.func38,Tryz.ntmps38
 go_wp2_with fail
 refine wp_region_any (by kernel_rfl) ?_;refine aM [some (3,.pointer (some ⟨w.heap.size,0,none⟩)),some (4,.agg #[.bool s,.slice a1 n1 c1,.slice a2 n2 c2]),some (5,.agg #[.bool s,.int .i64 (n1:Int),.int .i64 (n2:Int)]),some (6,.pointer (some ⟨w.heap.size,3,none⟩)),some (7,.agg #[.bool t,.slice a3 n3 c3,.slice a4 n4 c4]),some (8,.agg #[.bool t,.int .i64 (n3:Int),.int .i64 (n4:Int)]),some (9,.bool true),some (10,.bool true),some (11,.pointer (some ⟨w.heap.size,0,none⟩)),some (12,.pointer (some ⟨w.heap.size,1,none⟩)),some (13,.pointer (some ⟨w.heap.size,1,none⟩)),some (14,.slice a1 n1 c1),some (15,.pointer (some ⟨w.heap.size,3,none⟩)),some (16,.pointer (some ⟨w.heap.size,4,none⟩)),some (17,.pointer (some ⟨w.heap.size,4,none⟩)),some (18,.slice a3 n3 c3),some (19,.bool false),some (20,.bool false),some (21,.bool false),some (22,undef),some (23,undef),some (24,undef),some (25,undef),some (26,undef),some (27,undef),some (28,undef),some (29,undef),some (30,undef),some (31,.bool false),some (2,.bool false)]
  (fun _ W9=>Fs w W9 [⟨w.heap.size,#[.bool s,.slice a1 n1 c1,.slice a2 n2 c2,.bool t,.slice a3 n3 c3,.slice a4 n4 c4],78⟩]) _ _ rfl (by kernel_rfl) rfl rfl ?_ ?_ (Fs.one w _ _).drew
 ·intro l9 t9 W9 i9 hD hi9 hl9 hM;obtain ⟨o9,ho9,hd9⟩:=(mem_ready.1 hi9).2;have hin9:i9<30:=by
   by_cases h:i9<30
   ·exact h
   ·rw [Array.getElem?_eq_none (by rw [hD.len];simp;omega)] at hl9;cases hl9
  have hcase:i9=0∨i9=1∨i9=2∨i9=3∨i9=4∨i9=5∨i9=6∨i9=7∨i9=8∨i9=9∨i9=10∨i9=11∨i9=12∨i9=13∨i9=14∨i9=15∨i9=16∨i9=17∨i9=18∨i9=19∨i9=20∨i9=21∨i9=22∨i9=23∨i9=24∨i9=25∨i9=26∨i9=27∨i9=28∨i9=29:=by omega
  clear hin9;rcases hcase with rfl|rfl|rfl|rfl|rfl|rfl|rfl|rfl|rfl|rfl|rfl|rfl|rfl|rfl|rfl|rfl|rfl|rfl|rfl|rfl|rfl|rfl|rfl|rfl|rfl|rfl|rfl|rfl|rfl|rfl
  ·cases ho9;have r1:=hD.old 1 _ rfl rfl;refine wpOp_step rfl fun K hK=>?_;go_simp
   exact hK _ _ ⟨rfl,hM⟩
  ·cases ho9;have r3:=hD.od hd9 0 3 _ rfl (by simp);have hM0:=hM;have Q_:=hM0.cellAt (b:=w.heap.size) (cs:=#[.bool s,.slice a1 n1 c1,.slice a2 n2 c2,.bool t,.slice a3 n3 c3,.slice a4 n4 c4]) (t:=78) (by simp);have c9_0:=Q_ 0 _ rfl;have c9_1:=Q_ 1 _ rfl;have c9_2:=Q_ 2 _ rfl;clear Q_;clear hM0;refine wpOp_step rfl fun K hK=>?_;go_simp
   exact hK _ _ ⟨rfl,hM⟩
  ·cases ho9;have r4:=hD.od hd9 1 4 _ rfl (by simp);refine wpOp_step rfl fun K hK=>?_;go_simp
   go_wp2_with fail
   refine (dC _ _ _ _ _ _ _ _).mono ?_;rintro en w9 ⟨rfl,hb9⟩;exact hK _ _ ⟨rfl,hM.kept hb9⟩
  ·cases ho9;have r1:=hD.old 1 _ rfl rfl;refine wpOp_step rfl fun K hK=>?_;go_simp
   exact hK _ _ ⟨rfl,hM⟩
  ·cases ho9;have r6:=hD.od hd9 3 6 _ rfl (by simp);have hM0:=hM;have Q_:=hM0.cellAt (b:=w.heap.size) (cs:=#[.bool s,.slice a1 n1 c1,.slice a2 n2 c2,.bool t,.slice a3 n3 c3,.slice a4 n4 c4]) (t:=78) (by simp);have c9_0:=Q_ 3 _ rfl;have c9_1:=Q_ 4 _ rfl;have c9_2:=Q_ 5 _ rfl;clear Q_;clear hM0;refine wpOp_step rfl fun K hK=>?_;go_simp
   exact hK _ _ ⟨rfl,hM⟩
  ·cases ho9;have r7:=hD.od hd9 4 7 _ rfl (by simp);refine wpOp_step rfl fun K hK=>?_;go_simp
   go_wp2_with fail
   refine (dC _ _ _ _ _ _ _ _).mono ?_;rintro en w9 ⟨rfl,hb9⟩;exact hK _ _ ⟨rfl,hM.kept hb9⟩
  ·cases ho9;have r5:=hD.od hd9 2 5 _ rfl (by simp);have r8:=hD.od hd9 5 8 _ rfl (by simp);refine wpOp_step rfl fun K hK=>?_;go_simp
   exact hK _ _ ⟨aU (by rfl),hM⟩
  ·cases ho9;have r9:=hD.od hd9 6 9 _ rfl (by simp);refine wpOp_step rfl fun K hK=>?_;go_simp
   exact hK _ _ ⟨rfl,hM⟩
  ·cases ho9;have r10:=hD.on 7 10 _ rfl (ak (hd9 ⟨7,.guard⟩ (by simp) rfl));have r1:=hD.old 1 _ rfl rfl;refine wpOp_step rfl fun K hK=>?_;go_simp
   exact hK _ _ ⟨rfl,hM⟩
  ·cases ho9;have r10:=hD.on 7 10 _ rfl (ak (hd9 ⟨7,.guard⟩ (by simp) rfl));have r11:=hD.od hd9 8 11 _ rfl (by simp);refine wpOp_step rfl fun K hK=>?_;go_simp
   exact hK _ _ ⟨rfl,hM⟩
  ·cases ho9;have r10:=hD.on 7 10 _ rfl (ak (hd9 ⟨7,.guard⟩ (by simp) rfl));have r12:=hD.od hd9 9 12 _ rfl (by simp);refine wpOp_step rfl fun K hK=>?_;go_simp
   exact hK _ _ ⟨rfl,hM⟩
  ·cases ho9;have r10:=hD.on 7 10 _ rfl (ak (hd9 ⟨7,.guard⟩ (by simp) rfl));have r13:=hD.od hd9 10 13 _ rfl (by simp);have hM0:=hM;have c9_0:=hM0.cellAt (b:=w.heap.size) (cs:=#[.bool s,.slice a1 n1 c1,.slice a2 n2 c2,.bool t,.slice a3 n3 c3,.slice a4 n4 c4]) (t:=78) (by simp) 1 _ rfl;clear hM0;refine wpOp_step rfl fun K hK=>?_;go_simp
   exact hK _ _ ⟨rfl,hM⟩
  ·cases ho9;have r10:=hD.on 7 10 _ rfl (ak (hd9 ⟨7,.guard⟩ (by simp) rfl));have r1:=hD.old 1 _ rfl rfl;refine wpOp_step rfl fun K hK=>?_;go_simp
   exact hK _ _ ⟨rfl,hM⟩
  ·cases ho9;have r10:=hD.on 7 10 _ rfl (ak (hd9 ⟨7,.guard⟩ (by simp) rfl));have r15:=hD.od hd9 12 15 _ rfl (by simp);refine wpOp_step rfl fun K hK=>?_;go_simp
   exact hK _ _ ⟨rfl,hM⟩
  ·cases ho9;have r10:=hD.on 7 10 _ rfl (ak (hd9 ⟨7,.guard⟩ (by simp) rfl));have r16:=hD.od hd9 13 16 _ rfl (by simp);refine wpOp_step rfl fun K hK=>?_;go_simp
   exact hK _ _ ⟨rfl,hM⟩
  ·cases ho9;have r10:=hD.on 7 10 _ rfl (ak (hd9 ⟨7,.guard⟩ (by simp) rfl));have r17:=hD.od hd9 14 17 _ rfl (by simp);have hM0:=hM;have c9_0:=hM0.cellAt (b:=w.heap.size) (cs:=#[.bool s,.slice a1 n1 c1,.slice a2 n2 c2,.bool t,.slice a3 n3 c3,.slice a4 n4 c4]) (t:=78) (by simp) 4 _ rfl;clear hM0;refine wpOp_step rfl fun K hK=>?_;go_simp
   exact hK _ _ ⟨rfl,hM⟩
  ·cases ho9;have r10:=hD.on 7 10 _ rfl (ak (hd9 ⟨7,.chain⟩ (by simp) rfl));have r14:=hD.od hd9 11 14 _ rfl (by simp);have r18:=hD.od hd9 15 18 _ rfl (by simp);refine wpOp_step rfl fun K hK=>?_;go_simp
   go_wp2_with fail
   refine (HN _ hM.fr).mono ?_;rintro en w9 ⟨rfl,hb9⟩;exact hK _ _ ⟨rfl,hM.kept hb9⟩
  ·cases ho9;have r10:=hD.od hd9 7 10 _ rfl (by simp);have r19:=hD.od hd9 16 19 _ rfl (by simp);refine wpOp_step rfl fun K hK=>?_;go_simp
   exact hK _ _ ⟨rfl,hM⟩
  ·cases ho9;have r20:=hD.od hd9 17 20 _ rfl (by simp);refine wpOp_step rfl fun K hK=>?_;go_simp
   exact hK _ _ ⟨rfl,hM⟩
  ·cases ho9;have r21:=hD.on 18 21 _ rfl (ak (hd9 ⟨18,.guard⟩ (by simp) rfl));refine wpOp_step rfl fun K hK=>?_;go_simp
   exact hK _ _ ⟨rfl,hM⟩
  ·cases ho9;have r21:=hD.on 18 21 _ rfl (ak (hd9 ⟨18,.guard⟩ (by simp) rfl));refine wpOp_step rfl fun K hK=>?_;go_simp
   exact hK _ _ ⟨rfl,hM⟩
  ·cases ho9;have r21:=hD.on 18 21 _ rfl (ak (hd9 ⟨18,.guard⟩ (by simp) rfl));refine wpOp_step rfl fun K hK=>?_;go_simp
   exact hK _ _ ⟨rfl,hM⟩
  ·cases ho9;have r21:=hD.on 18 21 _ rfl (ak (hd9 ⟨18,.guard⟩ (by simp) rfl));refine wpOp_step rfl fun K hK=>?_;go_simp
   exact hK _ _ ⟨rfl,hM⟩
  ·cases ho9;have r21:=hD.on 18 21 _ rfl (ak (hd9 ⟨18,.guard⟩ (by simp) rfl));refine wpOp_step rfl fun K hK=>?_;go_simp
   exact hK _ _ ⟨rfl,hM⟩
  ·cases ho9;have r21:=hD.on 18 21 _ rfl (ak (hd9 ⟨18,.guard⟩ (by simp) rfl));refine wpOp_step rfl fun K hK=>?_;go_simp
   exact hK _ _ ⟨rfl,hM⟩
  ·cases ho9;have r21:=hD.on 18 21 _ rfl (ak (hd9 ⟨18,.guard⟩ (by simp) rfl));refine wpOp_step rfl fun K hK=>?_;go_simp
   exact hK _ _ ⟨rfl,hM⟩
  ·cases ho9;have r21:=hD.on 18 21 _ rfl (ak (hd9 ⟨18,.guard⟩ (by simp) rfl));refine wpOp_step rfl fun K hK=>?_;go_simp
   exact hK _ _ ⟨rfl,hM⟩
  ·cases ho9;have r21:=hD.on 18 21 _ rfl (ak (hd9 ⟨18,.chain⟩ (by simp) rfl));refine wpOp_step rfl fun K hK=>?_;go_simp
   exact hK _ _ ⟨rfl,hM⟩
  ·cases ho9;have r21:=hD.od hd9 18 21 _ rfl (by simp);have r30:=hD.od hd9 27 30 _ rfl (by simp);refine wpOp_step rfl fun K hK=>?_;go_simp
   exact hK _ _ ⟨rfl,hM⟩
  ·cases ho9;have r31:=hD.od hd9 28 31 _ rfl (by simp);refine wpOp_step rfl fun K hK=>?_;go_simp
   exact hK _ _ ⟨rfl,hM⟩
 ·intro l9 W9 hl9 hM;have hS:=hM;clear hM;simp only [ay.lay,List.setIfInBounds_toArray,List.set_cons_zero,List.set_cons_succ];obtain ⟨⟨ya,yb,yc,yd,ye,yf,-⟩,-⟩:=hS.cells;clear hEq;go_wp2
  go_ret
  exact ⟨rfl,hS.fr⟩
theorem EY(s t:Bool)(a1 a2 a3 a4:Option Addr)(n1 n2 n3 n4 c1 c2 c3 c4:Nat)(he:(s==t&&decide (n1=n3)&&decide (n2=n4))=true)(w:World)(HN:∀W:World,Below w.heap.size w W→Calls Tryz.prog 81 #[.slice a1 n1 c1,.slice a3 n3 c3] W fun e w'=>e = .returned (.bool true)∧Below W.heap.size W w')(HD:∀W:World,Below w.heap.size w W→Calls Tryz.prog 81 #[.slice a2 n2 c2,.slice a4 n4 c4] W fun e w'=>e = .returned (.bool true)∧Below W.heap.size W w') :
  Calls Tryz.prog 38 #[.agg #[.bool s,.slice a1 n1 c1,.slice a2 n2 c2,.bool t,.slice a3 n3 c3,.slice a4 n4 c4]] w fun e w'=>e = .returned (.bool true)∧Below w.heap.size w w':=by
 have hEq:=kR s t n1 n2 n3 n4;rw [he] at hEq;clear he;go_enter Tryz.func38,Tryz.ntmps38
 go_wp2_with fail
 refine wp_region_any (by kernel_rfl) ?_;refine aM [some (3,.pointer (some ⟨w.heap.size,0,none⟩)),some (4,.agg #[.bool s,.slice a1 n1 c1,.slice a2 n2 c2]),some (5,.agg #[.bool s,.int .i64 (n1:Int),.int .i64 (n2:Int)]),some (6,.pointer (some ⟨w.heap.size,3,none⟩)),some (7,.agg #[.bool t,.slice a3 n3 c3,.slice a4 n4 c4]),some (8,.agg #[.bool t,.int .i64 (n3:Int),.int .i64 (n4:Int)]),some (9,.bool true),some (10,.bool true),some (11,.pointer (some ⟨w.heap.size,0,none⟩)),some (12,.pointer (some ⟨w.heap.size,1,none⟩)),some (13,.pointer (some ⟨w.heap.size,1,none⟩)),some (14,.slice a1 n1 c1),some (15,.pointer (some ⟨w.heap.size,3,none⟩)),some (16,.pointer (some ⟨w.heap.size,4,none⟩)),some (17,.pointer (some ⟨w.heap.size,4,none⟩)),some (18,.slice a3 n3 c3),some (19,.bool true),some (20,.bool true),some (21,.bool true),some (22,.pointer (some ⟨w.heap.size,0,none⟩)),some (23,.pointer (some ⟨w.heap.size,2,none⟩)),some (24,.pointer (some ⟨w.heap.size,2,none⟩)),some (25,.slice a2 n2 c2),some (26,.pointer (some ⟨w.heap.size,3,none⟩)),some (27,.pointer (some ⟨w.heap.size,5,none⟩)),some (28,.pointer (some ⟨w.heap.size,5,none⟩)),some (29,.slice a4 n4 c4),some (30,.bool true),some (31,.bool true),some (2,.bool true)]
  (fun _ W9=>Fs w W9 [⟨w.heap.size,#[.bool s,.slice a1 n1 c1,.slice a2 n2 c2,.bool t,.slice a3 n3 c3,.slice a4 n4 c4],78⟩]) _ _ rfl (by kernel_rfl) rfl rfl ?_ ?_ (Fs.one w _ _).drew
 ·intro l9 t9 W9 i9 hD hi9 hl9 hM;obtain ⟨o9,ho9,hd9⟩:=(mem_ready.1 hi9).2;have hin9:i9<30:=by
   by_cases h:i9<30
   ·exact h
   ·rw [Array.getElem?_eq_none (by rw [hD.len];simp;omega)] at hl9;cases hl9
  have hcase:i9=0∨i9=1∨i9=2∨i9=3∨i9=4∨i9=5∨i9=6∨i9=7∨i9=8∨i9=9∨i9=10∨i9=11∨i9=12∨i9=13∨i9=14∨i9=15∨i9=16∨i9=17∨i9=18∨i9=19∨i9=20∨i9=21∨i9=22∨i9=23∨i9=24∨i9=25∨i9=26∨i9=27∨i9=28∨i9=29:=by omega
  clear hin9;rcases hcase with rfl|rfl|rfl|rfl|rfl|rfl|rfl|rfl|rfl|rfl|rfl|rfl|rfl|rfl|rfl|rfl|rfl|rfl|rfl|rfl|rfl|rfl|rfl|rfl|rfl|rfl|rfl|rfl|rfl|rfl
  ·cases ho9;have r1:=hD.old 1 _ rfl rfl;refine wpOp_step rfl fun K hK=>?_;go_simp
   exact hK _ _ ⟨rfl,hM⟩
  ·cases ho9;have r3:=hD.od hd9 0 3 _ rfl (by simp);have hM0:=hM;have Q_:=hM0.cellAt (b:=w.heap.size) (cs:=#[.bool s,.slice a1 n1 c1,.slice a2 n2 c2,.bool t,.slice a3 n3 c3,.slice a4 n4 c4]) (t:=78) (by simp);have c9_0:=Q_ 0 _ rfl;have c9_1:=Q_ 1 _ rfl;have c9_2:=Q_ 2 _ rfl;clear Q_;clear hM0;refine wpOp_step rfl fun K hK=>?_;go_simp
   exact hK _ _ ⟨rfl,hM⟩
  ·cases ho9;have r4:=hD.od hd9 1 4 _ rfl (by simp);refine wpOp_step rfl fun K hK=>?_;go_simp
   go_wp2_with fail
   refine (dC _ _ _ _ _ _ _ _).mono ?_;rintro en w9 ⟨rfl,hb9⟩;exact hK _ _ ⟨rfl,hM.kept hb9⟩
  ·cases ho9;have r1:=hD.old 1 _ rfl rfl;refine wpOp_step rfl fun K hK=>?_;go_simp
   exact hK _ _ ⟨rfl,hM⟩
  ·cases ho9;have r6:=hD.od hd9 3 6 _ rfl (by simp);have hM0:=hM;have Q_:=hM0.cellAt (b:=w.heap.size) (cs:=#[.bool s,.slice a1 n1 c1,.slice a2 n2 c2,.bool t,.slice a3 n3 c3,.slice a4 n4 c4]) (t:=78) (by simp);have c9_0:=Q_ 3 _ rfl;have c9_1:=Q_ 4 _ rfl;have c9_2:=Q_ 5 _ rfl;clear Q_;clear hM0;refine wpOp_step rfl fun K hK=>?_;go_simp
   exact hK _ _ ⟨rfl,hM⟩
  ·cases ho9;have r7:=hD.od hd9 4 7 _ rfl (by simp);refine wpOp_step rfl fun K hK=>?_;go_simp
   go_wp2_with fail
   refine (dC _ _ _ _ _ _ _ _).mono ?_;rintro en w9 ⟨rfl,hb9⟩;exact hK _ _ ⟨rfl,hM.kept hb9⟩
  ·cases ho9;have r5:=hD.od hd9 2 5 _ rfl (by simp);have r8:=hD.od hd9 5 8 _ rfl (by simp);refine wpOp_step rfl fun K hK=>?_;go_simp
   exact hK _ _ ⟨aU (by rfl),hM⟩
  ·cases ho9;have r9:=hD.od hd9 6 9 _ rfl (by simp);refine wpOp_step rfl fun K hK=>?_;go_simp
   exact hK _ _ ⟨rfl,hM⟩
  ·cases ho9;have r10:=hD.on 7 10 _ rfl (ak (hd9 ⟨7,.guard⟩ (by simp) rfl));have r1:=hD.old 1 _ rfl rfl;refine wpOp_step rfl fun K hK=>?_;go_simp
   exact hK _ _ ⟨rfl,hM⟩
  ·cases ho9;have r10:=hD.on 7 10 _ rfl (ak (hd9 ⟨7,.guard⟩ (by simp) rfl));have r11:=hD.od hd9 8 11 _ rfl (by simp);refine wpOp_step rfl fun K hK=>?_;go_simp
   exact hK _ _ ⟨rfl,hM⟩
  ·cases ho9;have r10:=hD.on 7 10 _ rfl (ak (hd9 ⟨7,.guard⟩ (by simp) rfl));have r12:=hD.od hd9 9 12 _ rfl (by simp);refine wpOp_step rfl fun K hK=>?_;go_simp
   exact hK _ _ ⟨rfl,hM⟩
  ·cases ho9;have r10:=hD.on 7 10 _ rfl (ak (hd9 ⟨7,.guard⟩ (by simp) rfl));have r13:=hD.od hd9 10 13 _ rfl (by simp);have hM0:=hM;have c9_0:=hM0.cellAt (b:=w.heap.size) (cs:=#[.bool s,.slice a1 n1 c1,.slice a2 n2 c2,.bool t,.slice a3 n3 c3,.slice a4 n4 c4]) (t:=78) (by simp) 1 _ rfl;clear hM0;refine wpOp_step rfl fun K hK=>?_;go_simp
   exact hK _ _ ⟨rfl,hM⟩
  ·cases ho9;have r10:=hD.on 7 10 _ rfl (ak (hd9 ⟨7,.guard⟩ (by simp) rfl));have r1:=hD.old 1 _ rfl rfl;refine wpOp_step rfl fun K hK=>?_;go_simp
   exact hK _ _ ⟨rfl,hM⟩
  ·cases ho9;have r10:=hD.on 7 10 _ rfl (ak (hd9 ⟨7,.guard⟩ (by simp) rfl));have r15:=hD.od hd9 12 15 _ rfl (by simp);refine wpOp_step rfl fun K hK=>?_;go_simp
   exact hK _ _ ⟨rfl,hM⟩
  ·cases ho9;have r10:=hD.on 7 10 _ rfl (ak (hd9 ⟨7,.guard⟩ (by simp) rfl));have r16:=hD.od hd9 13 16 _ rfl (by simp);refine wpOp_step rfl fun K hK=>?_;go_simp
   exact hK _ _ ⟨rfl,hM⟩
  ·cases ho9;have r10:=hD.on 7 10 _ rfl (ak (hd9 ⟨7,.guard⟩ (by simp) rfl));have r17:=hD.od hd9 14 17 _ rfl (by simp);have hM0:=hM;have c9_0:=hM0.cellAt (b:=w.heap.size) (cs:=#[.bool s,.slice a1 n1 c1,.slice a2 n2 c2,.bool t,.slice a3 n3 c3,.slice a4 n4 c4]) (t:=78) (by simp) 4 _ rfl;clear hM0;refine wpOp_step rfl fun K hK=>?_;go_simp
   exact hK _ _ ⟨rfl,hM⟩
  ·cases ho9;have r10:=hD.on 7 10 _ rfl (ak (hd9 ⟨7,.chain⟩ (by simp) rfl));have r14:=hD.od hd9 11 14 _ rfl (by simp);have r18:=hD.od hd9 15 18 _ rfl (by simp);refine wpOp_step rfl fun K hK=>?_;go_simp
   go_wp2_with fail
   refine (HN _ hM.fr).mono ?_;rintro en w9 ⟨rfl,hb9⟩;exact hK _ _ ⟨rfl,hM.kept hb9⟩
  ·cases ho9;have r10:=hD.od hd9 7 10 _ rfl (by simp);have r19:=hD.od hd9 16 19 _ rfl (by simp);refine wpOp_step rfl fun K hK=>?_;go_simp
   exact hK _ _ ⟨rfl,hM⟩
  ·cases ho9;have r20:=hD.od hd9 17 20 _ rfl (by simp);refine wpOp_step rfl fun K hK=>?_;go_simp
   exact hK _ _ ⟨rfl,hM⟩
  ·cases ho9;have r21:=hD.on 18 21 _ rfl (ak (hd9 ⟨18,.guard⟩ (by simp) rfl));have r1:=hD.old 1 _ rfl rfl;refine wpOp_step rfl fun K hK=>?_;go_simp
   exact hK _ _ ⟨rfl,hM⟩
  ·cases ho9;have r21:=hD.on 18 21 _ rfl (ak (hd9 ⟨18,.guard⟩ (by simp) rfl));have r22:=hD.od hd9 19 22 _ rfl (by simp);refine wpOp_step rfl fun K hK=>?_;go_simp
   exact hK _ _ ⟨rfl,hM⟩
  ·cases ho9;have r21:=hD.on 18 21 _ rfl (ak (hd9 ⟨18,.guard⟩ (by simp) rfl));have r23:=hD.od hd9 20 23 _ rfl (by simp);refine wpOp_step rfl fun K hK=>?_;go_simp
   exact hK _ _ ⟨rfl,hM⟩
  ·cases ho9;have r21:=hD.on 18 21 _ rfl (ak (hd9 ⟨18,.guard⟩ (by simp) rfl));have r24:=hD.od hd9 21 24 _ rfl (by simp);have hM0:=hM;have c9_0:=hM0.cellAt (b:=w.heap.size) (cs:=#[.bool s,.slice a1 n1 c1,.slice a2 n2 c2,.bool t,.slice a3 n3 c3,.slice a4 n4 c4]) (t:=78) (by simp) 2 _ rfl;clear hM0;refine wpOp_step rfl fun K hK=>?_;go_simp
   exact hK _ _ ⟨rfl,hM⟩
  ·cases ho9;have r21:=hD.on 18 21 _ rfl (ak (hd9 ⟨18,.guard⟩ (by simp) rfl));have r1:=hD.old 1 _ rfl rfl;refine wpOp_step rfl fun K hK=>?_;go_simp
   exact hK _ _ ⟨rfl,hM⟩
  ·cases ho9;have r21:=hD.on 18 21 _ rfl (ak (hd9 ⟨18,.guard⟩ (by simp) rfl));have r26:=hD.od hd9 23 26 _ rfl (by simp);refine wpOp_step rfl fun K hK=>?_;go_simp
   exact hK _ _ ⟨rfl,hM⟩
  ·cases ho9;have r21:=hD.on 18 21 _ rfl (ak (hd9 ⟨18,.guard⟩ (by simp) rfl));have r27:=hD.od hd9 24 27 _ rfl (by simp);refine wpOp_step rfl fun K hK=>?_;go_simp
   exact hK _ _ ⟨rfl,hM⟩
  ·cases ho9;have r21:=hD.on 18 21 _ rfl (ak (hd9 ⟨18,.guard⟩ (by simp) rfl));have r28:=hD.od hd9 25 28 _ rfl (by simp);have hM0:=hM;have c9_0:=hM0.cellAt (b:=w.heap.size) (cs:=#[.bool s,.slice a1 n1 c1,.slice a2 n2 c2,.bool t,.slice a3 n3 c3,.slice a4 n4 c4]) (t:=78) (by simp) 5 _ rfl;clear hM0;refine wpOp_step rfl fun K hK=>?_;go_simp
   exact hK _ _ ⟨rfl,hM⟩
  ·cases ho9;have r21:=hD.on 18 21 _ rfl (ak (hd9 ⟨18,.chain⟩ (by simp) rfl));have r25:=hD.od hd9 22 25 _ rfl (by simp);have r29:=hD.od hd9 26 29 _ rfl (by simp);refine wpOp_step rfl fun K hK=>?_;go_simp
   go_wp2_with fail
   refine (HD _ hM.fr).mono ?_;rintro en w9 ⟨rfl,hb9⟩;exact hK _ _ ⟨rfl,hM.kept hb9⟩
  ·cases ho9;have r21:=hD.od hd9 18 21 _ rfl (by simp);have r30:=hD.od hd9 27 30 _ rfl (by simp);refine wpOp_step rfl fun K hK=>?_;go_simp
   exact hK _ _ ⟨rfl,hM⟩
  ·cases ho9;have r31:=hD.od hd9 28 31 _ rfl (by simp);refine wpOp_step rfl fun K hK=>?_;go_simp
   exact hK _ _ ⟨rfl,hM⟩
 ·intro l9 W9 hl9 hM;have hS:=hM;clear hM;simp only [ay.lay,List.setIfInBounds_toArray,List.set_cons_zero,List.set_cons_succ];obtain ⟨⟨ya,yb,yc,yd,ye,yf,-⟩,-⟩:=hS.cells;clear hEq;go_wp2
  go_ret
  exact ⟨rfl,hS.fr⟩
theorem EM(s t:Bool)(a1 a2 a3 a4:Option Addr)(n1 n2 n3 n4 c1 c2 c3 c4:Nat)(he:(s==t&&decide (n1=n3)&&decide (n2=n4))=true)(w:World)(HN:∀W:World,Below w.heap.size w W→Calls Tryz.prog 81 #[.slice a1 n1 c1,.slice a3 n3 c3] W fun e w'=>e = .returned (.bool true)∧Below W.heap.size W w')(HD:∀W:World,Below w.heap.size w W→Calls Tryz.prog 81 #[.slice a2 n2 c2,.slice a4 n4 c4] W fun e w'=>e = .returned (.bool false)∧Below W.heap.size W w') :
  Calls Tryz.prog 38 #[.agg #[.bool s,.slice a1 n1 c1,.slice a2 n2 c2,.bool t,.slice a3 n3 c3,.slice a4 n4 c4]] w fun e w'=>e = .returned (.bool false)∧Below w.heap.size w w':=by
 have hEq:=kR s t n1 n2 n3 n4;rw [he] at hEq;clear he;go_enter Tryz.func38,Tryz.ntmps38
 go_wp2_with fail
 refine wp_region_any (by kernel_rfl) ?_;refine aM [some (3,.pointer (some ⟨w.heap.size,0,none⟩)),some (4,.agg #[.bool s,.slice a1 n1 c1,.slice a2 n2 c2]),some (5,.agg #[.bool s,.int .i64 (n1:Int),.int .i64 (n2:Int)]),some (6,.pointer (some ⟨w.heap.size,3,none⟩)),some (7,.agg #[.bool t,.slice a3 n3 c3,.slice a4 n4 c4]),some (8,.agg #[.bool t,.int .i64 (n3:Int),.int .i64 (n4:Int)]),some (9,.bool true),some (10,.bool true),some (11,.pointer (some ⟨w.heap.size,0,none⟩)),some (12,.pointer (some ⟨w.heap.size,1,none⟩)),some (13,.pointer (some ⟨w.heap.size,1,none⟩)),some (14,.slice a1 n1 c1),some (15,.pointer (some ⟨w.heap.size,3,none⟩)),some (16,.pointer (some ⟨w.heap.size,4,none⟩)),some (17,.pointer (some ⟨w.heap.size,4,none⟩)),some (18,.slice a3 n3 c3),some (19,.bool true),some (20,.bool true),some (21,.bool true),some (22,.pointer (some ⟨w.heap.size,0,none⟩)),some (23,.pointer (some ⟨w.heap.size,2,none⟩)),some (24,.pointer (some ⟨w.heap.size,2,none⟩)),some (25,.slice a2 n2 c2),some (26,.pointer (some ⟨w.heap.size,3,none⟩)),some (27,.pointer (some ⟨w.heap.size,5,none⟩)),some (28,.pointer (some ⟨w.heap.size,5,none⟩)),some (29,.slice a4 n4 c4),some (30,.bool false),some (31,.bool false),some (2,.bool false)]
  (fun _ W9=>Fs w W9 [⟨w.heap.size,#[.bool s,.slice a1 n1 c1,.slice a2 n2 c2,.bool t,.slice a3 n3 c3,.slice a4 n4 c4],78⟩]) _ _ rfl (by kernel_rfl) rfl rfl ?_ ?_ (Fs.one w _ _).drew
 ·intro l9 t9 W9 i9 hD hi9 hl9 hM;obtain ⟨o9,ho9,hd9⟩:=(mem_ready.1 hi9).2;have hin9:i9<30:=by
   by_cases h:i9<30
   ·exact h
   ·rw [Array.getElem?_eq_none (by rw [hD.len];simp;omega)] at hl9;cases hl9
  have hcase:i9=0∨i9=1∨i9=2∨i9=3∨i9=4∨i9=5∨i9=6∨i9=7∨i9=8∨i9=9∨i9=10∨i9=11∨i9=12∨i9=13∨i9=14∨i9=15∨i9=16∨i9=17∨i9=18∨i9=19∨i9=20∨i9=21∨i9=22∨i9=23∨i9=24∨i9=25∨i9=26∨i9=27∨i9=28∨i9=29:=by omega
  clear hin9;rcases hcase with rfl|rfl|rfl|rfl|rfl|rfl|rfl|rfl|rfl|rfl|rfl|rfl|rfl|rfl|rfl|rfl|rfl|rfl|rfl|rfl|rfl|rfl|rfl|rfl|rfl|rfl|rfl|rfl|rfl|rfl
  ·cases ho9;have r1:=hD.old 1 _ rfl rfl;refine wpOp_step rfl fun K hK=>?_;go_simp
   exact hK _ _ ⟨rfl,hM⟩
  ·cases ho9;have r3:=hD.od hd9 0 3 _ rfl (by simp);have hM0:=hM;have Q_:=hM0.cellAt (b:=w.heap.size) (cs:=#[.bool s,.slice a1 n1 c1,.slice a2 n2 c2,.bool t,.slice a3 n3 c3,.slice a4 n4 c4]) (t:=78) (by simp);have c9_0:=Q_ 0 _ rfl;have c9_1:=Q_ 1 _ rfl;have c9_2:=Q_ 2 _ rfl;clear Q_;clear hM0;refine wpOp_step rfl fun K hK=>?_;go_simp
   exact hK _ _ ⟨rfl,hM⟩
  ·cases ho9;have r4:=hD.od hd9 1 4 _ rfl (by simp);refine wpOp_step rfl fun K hK=>?_;go_simp
   go_wp2_with fail
   refine (dC _ _ _ _ _ _ _ _).mono ?_;rintro en w9 ⟨rfl,hb9⟩;exact hK _ _ ⟨rfl,hM.kept hb9⟩
  ·cases ho9;have r1:=hD.old 1 _ rfl rfl;refine wpOp_step rfl fun K hK=>?_;go_simp
   exact hK _ _ ⟨rfl,hM⟩
  ·cases ho9;have r6:=hD.od hd9 3 6 _ rfl (by simp);have hM0:=hM;have Q_:=hM0.cellAt (b:=w.heap.size) (cs:=#[.bool s,.slice a1 n1 c1,.slice a2 n2 c2,.bool t,.slice a3 n3 c3,.slice a4 n4 c4]) (t:=78) (by simp);have c9_0:=Q_ 3 _ rfl;have c9_1:=Q_ 4 _ rfl;have c9_2:=Q_ 5 _ rfl;clear Q_;clear hM0;refine wpOp_step rfl fun K hK=>?_;go_simp
   exact hK _ _ ⟨rfl,hM⟩
  ·cases ho9;have r7:=hD.od hd9 4 7 _ rfl (by simp);refine wpOp_step rfl fun K hK=>?_;go_simp
   go_wp2_with fail
   refine (dC _ _ _ _ _ _ _ _).mono ?_;rintro en w9 ⟨rfl,hb9⟩;exact hK _ _ ⟨rfl,hM.kept hb9⟩
  ·cases ho9;have r5:=hD.od hd9 2 5 _ rfl (by simp);have r8:=hD.od hd9 5 8 _ rfl (by simp);refine wpOp_step rfl fun K hK=>?_;go_simp
   exact hK _ _ ⟨aU (by rfl),hM⟩
  ·cases ho9;have r9:=hD.od hd9 6 9 _ rfl (by simp);refine wpOp_step rfl fun K hK=>?_;go_simp
   exact hK _ _ ⟨rfl,hM⟩
  ·cases ho9;have r10:=hD.on 7 10 _ rfl (ak (hd9 ⟨7,.guard⟩ (by simp) rfl));have r1:=hD.old 1 _ rfl rfl;refine wpOp_step rfl fun K hK=>?_;go_simp
   exact hK _ _ ⟨rfl,hM⟩
  ·cases ho9;have r10:=hD.on 7 10 _ rfl (ak (hd9 ⟨7,.guard⟩ (by simp) rfl));have r11:=hD.od hd9 8 11 _ rfl (by simp);refine wpOp_step rfl fun K hK=>?_;go_simp
   exact hK _ _ ⟨rfl,hM⟩
  ·cases ho9;have r10:=hD.on 7 10 _ rfl (ak (hd9 ⟨7,.guard⟩ (by simp) rfl));have r12:=hD.od hd9 9 12 _ rfl (by simp);refine wpOp_step rfl fun K hK=>?_;go_simp
   exact hK _ _ ⟨rfl,hM⟩
  ·cases ho9;have r10:=hD.on 7 10 _ rfl (ak (hd9 ⟨7,.guard⟩ (by simp) rfl));have r13:=hD.od hd9 10 13 _ rfl (by simp);have hM0:=hM;have c9_0:=hM0.cellAt (b:=w.heap.size) (cs:=#[.bool s,.slice a1 n1 c1,.slice a2 n2 c2,.bool t,.slice a3 n3 c3,.slice a4 n4 c4]) (t:=78) (by simp) 1 _ rfl;clear hM0;refine wpOp_step rfl fun K hK=>?_;go_simp
   exact hK _ _ ⟨rfl,hM⟩
  ·cases ho9;have r10:=hD.on 7 10 _ rfl (ak (hd9 ⟨7,.guard⟩ (by simp) rfl));have r1:=hD.old 1 _ rfl rfl;refine wpOp_step rfl fun K hK=>?_;go_simp
   exact hK _ _ ⟨rfl,hM⟩
  ·cases ho9;have r10:=hD.on 7 10 _ rfl (ak (hd9 ⟨7,.guard⟩ (by simp) rfl));have r15:=hD.od hd9 12 15 _ rfl (by simp);refine wpOp_step rfl fun K hK=>?_;go_simp
   exact hK _ _ ⟨rfl,hM⟩
  ·cases ho9;have r10:=hD.on 7 10 _ rfl (ak (hd9 ⟨7,.guard⟩ (by simp) rfl));have r16:=hD.od hd9 13 16 _ rfl (by simp);refine wpOp_step rfl fun K hK=>?_;go_simp
   exact hK _ _ ⟨rfl,hM⟩
  ·cases ho9;have r10:=hD.on 7 10 _ rfl (ak (hd9 ⟨7,.guard⟩ (by simp) rfl));have r17:=hD.od hd9 14 17 _ rfl (by simp);have hM0:=hM;have c9_0:=hM0.cellAt (b:=w.heap.size) (cs:=#[.bool s,.slice a1 n1 c1,.slice a2 n2 c2,.bool t,.slice a3 n3 c3,.slice a4 n4 c4]) (t:=78) (by simp) 4 _ rfl;clear hM0;refine wpOp_step rfl fun K hK=>?_;go_simp
   exact hK _ _ ⟨rfl,hM⟩
  ·cases ho9;have r10:=hD.on 7 10 _ rfl (ak (hd9 ⟨7,.chain⟩ (by simp) rfl));have r14:=hD.od hd9 11 14 _ rfl (by simp);have r18:=hD.od hd9 15 18 _ rfl (by simp);refine wpOp_step rfl fun K hK=>?_;go_simp
   go_wp2_with fail
   refine (HN _ hM.fr).mono ?_;rintro en w9 ⟨rfl,hb9⟩;exact hK _ _ ⟨rfl,hM.kept hb9⟩
  ·cases ho9;have r10:=hD.od hd9 7 10 _ rfl (by simp);have r19:=hD.od hd9 16 19 _ rfl (by simp);refine wpOp_step rfl fun K hK=>?_;go_simp
   exact hK _ _ ⟨rfl,hM⟩
  ·cases ho9;have r20:=hD.od hd9 17 20 _ rfl (by simp);refine wpOp_step rfl fun K hK=>?_;go_simp
   exact hK _ _ ⟨rfl,hM⟩
  ·cases ho9;have r21:=hD.on 18 21 _ rfl (ak (hd9 ⟨18,.guard⟩ (by simp) rfl));have r1:=hD.old 1 _ rfl rfl;refine wpOp_step rfl fun K hK=>?_;go_simp
   exact hK _ _ ⟨rfl,hM⟩
  ·cases ho9;have r21:=hD.on 18 21 _ rfl (ak (hd9 ⟨18,.guard⟩ (by simp) rfl));have r22:=hD.od hd9 19 22 _ rfl (by simp);refine wpOp_step rfl fun K hK=>?_;go_simp
   exact hK _ _ ⟨rfl,hM⟩
  ·cases ho9;have r21:=hD.on 18 21 _ rfl (ak (hd9 ⟨18,.guard⟩ (by simp) rfl));have r23:=hD.od hd9 20 23 _ rfl (by simp);refine wpOp_step rfl fun K hK=>?_;go_simp
   exact hK _ _ ⟨rfl,hM⟩
  ·cases ho9;have r21:=hD.on 18 21 _ rfl (ak (hd9 ⟨18,.guard⟩ (by simp) rfl));have r24:=hD.od hd9 21 24 _ rfl (by simp);have hM0:=hM;have c9_0:=hM0.cellAt (b:=w.heap.size) (cs:=#[.bool s,.slice a1 n1 c1,.slice a2 n2 c2,.bool t,.slice a3 n3 c3,.slice a4 n4 c4]) (t:=78) (by simp) 2 _ rfl;clear hM0;refine wpOp_step rfl fun K hK=>?_;go_simp
   exact hK _ _ ⟨rfl,hM⟩
  ·cases ho9;have r21:=hD.on 18 21 _ rfl (ak (hd9 ⟨18,.guard⟩ (by simp) rfl));have r1:=hD.old 1 _ rfl rfl;refine wpOp_step rfl fun K hK=>?_;go_simp
   exact hK _ _ ⟨rfl,hM⟩
  ·cases ho9;have r21:=hD.on 18 21 _ rfl (ak (hd9 ⟨18,.guard⟩ (by simp) rfl));have r26:=hD.od hd9 23 26 _ rfl (by simp);refine wpOp_step rfl fun K hK=>?_;go_simp
   exact hK _ _ ⟨rfl,hM⟩
  ·cases ho9;have r21:=hD.on 18 21 _ rfl (ak (hd9 ⟨18,.guard⟩ (by simp) rfl));have r27:=hD.od hd9 24 27 _ rfl (by simp);refine wpOp_step rfl fun K hK=>?_;go_simp
   exact hK _ _ ⟨rfl,hM⟩
  ·cases ho9;have r21:=hD.on 18 21 _ rfl (ak (hd9 ⟨18,.guard⟩ (by simp) rfl));have r28:=hD.od hd9 25 28 _ rfl (by simp);have hM0:=hM;have c9_0:=hM0.cellAt (b:=w.heap.size) (cs:=#[.bool s,.slice a1 n1 c1,.slice a2 n2 c2,.bool t,.slice a3 n3 c3,.slice a4 n4 c4]) (t:=78) (by simp) 5 _ rfl;clear hM0;refine wpOp_step rfl fun K hK=>?_;go_simp
   exact hK _ _ ⟨rfl,hM⟩
  ·cases ho9;have r21:=hD.on 18 21 _ rfl (ak (hd9 ⟨18,.chain⟩ (by simp) rfl));have r25:=hD.od hd9 22 25 _ rfl (by simp);have r29:=hD.od hd9 26 29 _ rfl (by simp);refine wpOp_step rfl fun K hK=>?_;go_simp
   go_wp2_with fail
   refine (HD _ hM.fr).mono ?_;rintro en w9 ⟨rfl,hb9⟩;exact hK _ _ ⟨rfl,hM.kept hb9⟩
  ·cases ho9;have r21:=hD.od hd9 18 21 _ rfl (by simp);have r30:=hD.od hd9 27 30 _ rfl (by simp);refine wpOp_step rfl fun K hK=>?_;go_simp
   exact hK _ _ ⟨rfl,hM⟩
  ·cases ho9;have r31:=hD.od hd9 28 31 _ rfl (by simp);refine wpOp_step rfl fun K hK=>?_;go_simp
   exact hK _ _ ⟨rfl,hM⟩
 ·intro l9 W9 hl9 hM;have hS:=hM;clear hM;simp only [ay.lay,List.setIfInBounds_toArray,List.set_cons_zero,List.set_cons_succ];obtain ⟨⟨ya,yb,yc,yd,ye,yf,-⟩,-⟩:=hS.cells;clear hEq;go_wp2
  go_ret
  exact ⟨rfl,hS.fr⟩
def iR(x y:Rat):Int:=if x=y then 0 else if x<y then -1 else 1
theorem vg{x y:Rat}(h:x=y):iR x y=0:=by unfold iR;rw [if_pos h]
theorem mi{x y:Rat}(h:x.num*y.den<y.num*x.den):iR x y = -1:=by
 unfold iR;have hl:x<y:=(Rat.lt_iff x y).2 h;rw [if_neg (fun e=>by subst e;omega),if_pos hl]
theorem mH{x y:Rat}(h:y.num*x.den<x.num*y.den):iR x y=1:=by
 unfold iR;have hl:¬x<y:=fun h1=>by have:=(Rat.lt_iff x y).1 h1;omega
 rw [if_neg (fun e=>by subst e;omega),if_neg hl]
theorem yS{x y:Rat}(h:x≠y):x.num*y.den≠y.num*x.den:=fun e=>
 h (by
  have h1:¬x<y:=fun hl=>by have:=(Rat.lt_iff x y).1 hl;omega
  have h2:¬y<x:=fun hl=>by have:=(Rat.lt_iff y x).1 hl;omega
  exact Rat.le_antisymm (Rat.not_lt.1 h2) (Rat.not_lt.1 h1))
theorem zS(s t:Bool)(a1 a2 a3 a4:Option Addr)(n1 n2 n3 n4 c1 c2 c3 c4:Nat)(x y:Rat)(w:World)(hx:Fq w s a1 n1 a2 n2 x)(hy:Fq w t a3 n3 a4 n4 y) :
  Calls Tryz.prog 38 #[.agg #[.bool s,.slice a1 n1 c1,.slice a2 n2 c2,.bool t,.slice a3 n3 c3,.slice a4 n4 c4]] w fun e w'=>e = .returned (.bool (decide (x=y)))∧Below w.heap.size w w':=by
 rw [CW hx hy];cases he:(s==t&&decide (n1=n3)&&decide (n2=n4))
 ·have hd:((s==t)&&decide (x.num.natAbs=y.num.natAbs)&&decide (x.den=y.den))=false:=by
   cases hst:(s==t)
   ·rfl
   ·rw [hst] at he;by_cases e1:x.num.natAbs=y.num.natAbs
    ·have:=hx.num.same (e1▸hy.num);by_cases e2:x.den=y.den
     ·have h2:=hx.den.same (e2▸hy.den);rw [decide_eq_true this,decide_eq_true h2] at he;exact absurd he (by decide)
     ·rw [decide_eq_false e2,Bool.and_false]
    ·rw [decide_eq_false e1];rfl
  rw [hd];exact wT s t a1 a2 a3 a4 n1 n2 n3 n4 c1 c2 c3 c4 he w
 ·have he':=he;simp only [Bool.and_eq_true,decide_eq_true_eq] at he;obtain ⟨⟨hst,e1⟩,e2⟩:=he;rw [hst,Bool.true_and];subst e1 e2;have H1:∀W:World,Below w.heap.size w W→Calls Tryz.prog 81 #[.slice a1 n1 c1,.slice a3 n1 c3] W fun e w'=>e = .returned (.bool (decide (x.num.natAbs=y.num.natAbs)))∧Below W.heap.size W w':=
   fun W hb=>vw a1 a3 n1 c1 c3 _ _ W (hx.num.kept hb) (hy.num.kept hb)
  have H2:∀W:World,Below w.heap.size w W→Calls Tryz.prog 81 #[.slice a2 n2 c2,.slice a4 n2 c4] W fun e w'=>e = .returned (.bool (decide (x.den=y.den)))∧Below W.heap.size W w':=
   fun W hb=>vw a2 a4 n2 c2 c4 _ _ W (hx.den.kept hb) (hy.den.kept hb)
  cases hd1:decide (x.num.natAbs=y.num.natAbs)
  ·rw [hd1] at H1;exact Gz s t a1 a2 a3 a4 n1 n2 n1 n2 c1 c2 c3 c4 he' w H1
  ·rw [hd1] at H1;rw [Bool.true_and];cases hd2:decide (x.den=y.den)
   ·rw [hd2] at H2;exact EM s t a1 a2 a3 a4 n1 n2 n1 n2 c1 c2 c3 c4 he' w H1 H2
   ·rw [hd2] at H2;exact EY s t a1 a2 a3 a4 n1 n2 n1 n2 c1 c2 c3 c4 he' w H1 H2
theorem rG{m k:Nat}:decide ((0:Int)<bW m k)=decide (k<m):=by
 unfold bW;rw [decide_eq_decide];by_cases h:m<k
 ·rw [if_pos h];omega
 ·rw [if_neg h];by_cases h2:m=k
  ·rw [if_pos h2];omega
  ·rw [if_neg h2];omega
theorem rD(s t:Bool)(a1 a2 a3 a4:Option Addr)(n1 n2 n3 n4 c1 c2 c3 c4:Nat)(x y:Rat)(w:World)(hx:Fq w s a1 n1 a2 n2 x)(hy:Fq w t a3 n3 a4 n4 y)(ho:¬Over (x.num.natAbs*y.den))(ho2:¬Over (y.num.natAbs*x.den)) :
  Calls Tryz.prog 40 #[.agg #[.bool s,.slice a1 n1 c1,.slice a2 n2 c2,.bool t,.slice a3 n3 c3,.slice a4 n4 c4]] w fun e w'=>e = .returned (.bool (decide (y.num.natAbs*x.den<x.num.natAbs*y.den)))∧Below w.heap.size w w':=by
 cases hd:decide (y.num.natAbs*x.den<x.num.natAbs*y.den)
 ·exact zM s t a1 a2 a3 a4 n1 n2 n3 n4 c1 c2 c3 c4 _ _ _ _ ho ho2 (rG.trans hd) w hx.num hx.den hy.num hy.den
 ·exact zt s t a1 a2 a3 a4 n1 n2 n3 n4 c1 c2 c3 c4 _ _ _ _ ho ho2 (rG.trans hd) w hx.num hx.den hy.num hy.den
theorem zP{s:Bool}{x:Rat}(h:s=decide (x.num<0)):x.num=Rm.sgn s x.num.natAbs:=by
 subst h;unfold Rm.sgn;by_cases h:x.num<0
 ·rw [decide_eq_true h,if_pos rfl];omega
 ·rw [decide_eq_false h,if_neg (by decide)];omega
theorem Eu(s t:Bool)(a1 a2 a3 a4:Option Addr)(n1 n2 n3 n4 c1 c2 c3 c4:Nat)(x y:Rat)(w:World)(hx:Fq w s a1 n1 a2 n2 x)(hy:Fq w t a3 n3 a4 n4 y)(ho:¬Over (x.num.natAbs*y.den))(ho2:¬Over (y.num.natAbs*x.den)) :
  Calls Tryz.prog 11 #[.agg #[.bool s,.slice a1 n1 c1,.slice a2 n2 c2],.agg #[.bool t,.slice a3 n3 c3,.slice a4 n4 c4]] w fun e w'=>e = .returned (.tuple #[.int .i64 (iR x y),.int .i64 0])∧Below w.heap.size w w':=by
 have gs:∀{s:Bool}{z:Rat},Rm.Q z s z.num.natAbs z.den→s=true→0<z.num.natAbs:=fun {s z} q e=>Nat.pos_of_ne_zero fun e2=>by have:=q.zero e2;rw [this] at e;cases e
 have HC:=hide (fun (W:World) (hb:Below w.heap.size w W)=>Ij W a1 a2 a3 a4 n1 n2 n3 n4 c1 c2 c3 c4 _ _ _ _ s t (hx.num.kept hb) (hx.den.kept hb) (hy.num.kept hb) (hy.den.kept hb) (hide fun W q r=>nO s a1 a2 n1 c1 n2 c2 _ _ (gs hx.q) hx.q.pos hx.q.co W q r) (hide fun W q r=>nO t a3 a4 n3 c3 n4 c4 _ _ (gs hy.q) hy.q.pos hy.q.co W q r));have HS:∀W:World,Below w.heap.size w W→Calls Tryz.prog 38 #[.agg #[.bool s,.slice a1 n1 c1,.slice a2 n2 c2,.bool t,.slice a3 n3 c3,.slice a4 n4 c4]] W fun e w'=>e = .returned (.bool (decide (x=y)))∧Below W.heap.size W w':=
  fun W hb=>zS s t a1 a2 a3 a4 n1 n2 n3 n4 c1 c2 c3 c4 x y W (hx.kept hb) (hy.kept hb)
 have HF:∀W:World,Below w.heap.size w W→Calls Tryz.prog 40 #[.agg #[.bool s,.slice a1 n1 c1,.slice a2 n2 c2,.bool t,.slice a3 n3 c3,.slice a4 n4 c4]] W fun e w'=>e = .returned (.bool (decide (y.num.natAbs*x.den<x.num.natAbs*y.den)))∧Below W.heap.size W w':=
  fun W hb=>rD s t a1 a2 a3 a4 n1 n2 n3 n4 c1 c2 c3 c4 x y W (hx.kept hb) (hy.kept hb) ho ho2
 by_cases hxy:x=y
 ·rw [decide_eq_true hxy] at HS;rw [vg hxy];exact xU s t a1 a2 a3 a4 n1 n2 n3 n4 c1 c2 c3 c4 w HC (hide HS)
 ·rw [decide_eq_false hxy] at HS;have hne:=yS hxy;have ex:=zP hx.neg;have ey:=zP hy.neg;have hz:=hx.q.zero;have hz':=hy.q.zero;have px:0<x.den:=Nat.pos_of_ne_zero x.den_nz;have py:0<y.den:=Nat.pos_of_ne_zero y.den_nz;have hxm:x.num*(y.den:Int)=Rm.sgn s (x.num.natAbs*y.den):=by rw [Rm.sgn_scale,←ex]
  have hym:y.num*(x.den:Int)=Rm.sgn t (y.num.natAbs*x.den):=by rw [Rm.sgn_scale,←ey]
  have gx:s=true→0<x.num.natAbs*y.den:=fun h=>Nat.mul_pos (Nat.pos_of_ne_zero (fun e=>by rw [hz e] at h;exact absurd h (by decide))) py;have gy:t=true→0<y.num.natAbs*x.den:=fun h=>Nat.mul_pos (Nat.pos_of_ne_zero (fun e=>by rw [hz' e] at h;exact absurd h (by decide))) px;generalize hU:x.num.natAbs*y.den=U at hxm gx HF;generalize hV:y.num.natAbs*x.den=V at hym gy HF;rw [hxm,hym] at hne;cases s<;>cases t
  ·by_cases hd:V<U
   ·rw [decide_eq_true hd] at HF;rw [mH (by rw [hxm,hym];simp only [Rm.sgn];simp;omega)];exact Bh a1 a2 a3 a4 n1 n2 n3 n4 c1 c2 c3 c4 w HC (hide HS) (hide HF)
   ·rw [decide_eq_false hd] at HF;rw [mi (by rw [hxm,hym];simp only [Rm.sgn] at hne ⊢;simp at hne ⊢;omega)];exact Cc a1 a2 a3 a4 n1 n2 n3 n4 c1 c2 c3 c4 w HC (hide HS) (hide HF)
  ·have:=gy rfl;rw [mH (by rw [hxm,hym];simp only [Rm.sgn];simp;omega)];exact ET a1 a2 a3 a4 n1 n2 n3 n4 c1 c2 c3 c4 w HC (hide HS)
  ·have:=gx rfl;rw [mi (by rw [hxm,hym];simp only [Rm.sgn];simp;omega)];exact DL a1 a2 a3 a4 n1 n2 n3 n4 c1 c2 c3 c4 w HC (hide HS)
  ·by_cases hd:V<U
   ·rw [decide_eq_true hd] at HF;rw [mi (by rw [hxm,hym];simp only [Rm.sgn];simp;omega)];exact BM a1 a2 a3 a4 n1 n2 n3 n4 c1 c2 c3 c4 w HC (hide HS) (hide HF)
   ·rw [decide_eq_false hd] at HF;rw [mH (by rw [hxm,hym];simp only [Rm.sgn] at hne ⊢;simp at hne ⊢;omega)];exact Ce a1 a2 a3 a4 n1 n2 n3 n4 c1 c2 c3 c4 w HC (hide HS) (hide HF)
def rq(s:Bool)(p d:Nat)(hd:0<d)(hg:Nat.gcd p d=1):Rat:=⟨Rm.sgn s p,d,by omega,by rw [Nat.Coprime,Rm.sgn_abs];exact hg⟩
theorem Dl{w:World}{s:Bool}{a b:Option Addr}{n k p d:Nat}{hd:0<d}{hg:Nat.gcd p d=1}(hs:s=true→0<p)(h1:Num w a n p)(h2:Num w b k d):Fq w s a n b k (rq s p d hd hg):=by
 refine ⟨(Rm.sgn_neg fun e=>?_).symm,?_,h2⟩
 ·cases s
  ·rfl
  ·have:=hs rfl;omega
 ·show Num w a n (Rm.sgn s p).natAbs
  rw [Rm.sgn_abs];exact h1
theorem EF(p wa wb pa pb:Nat):FJ p wa wb pa pb (decide (wa<wb∨wa=wb∧pa<pb)):=fun W a1 n1 c1 a2 n2 c2 a3 n3 c3 a4 n4 c4 a5 n5 c5 b hR h1 h2 h3 h4=>by
 by_cases he:wa=wb
 ·refine Dx W p a1 a2 a3 a4 a5 n1 n2 n3 n4 n5 c1 c2 c3 c4 c5 wa wb pa pb b _ _ _ hR h1 h2 h3 h4 (hide (iq p wa wb)) (by unfold bW;rw [if_neg (by omega),if_pos he]) (hide (iq p pa pb)) ?_;unfold bW;by_cases hp:pa<pb
  ·rw [if_pos hp,decide_eq_true (p:=wa<wb∨wa=wb∧pa<pb) (Or.inr ⟨he,hp⟩)];rfl
  ·rw [if_neg hp,decide_eq_false (p:=wa<wb∨wa=wb∧pa<pb) (by omega)];split<;>rfl
 ·refine DN W p a1 a2 a3 a4 a5 n1 n2 n3 n4 n5 c1 c2 c3 c4 c5 wa wb pa pb b _ _ hR h1 h2 h3 h4 (hide (iq p wa wb)) (by unfold bW;split<;>(try split)<;>first|decide|omega) ?_;unfold bW;by_cases hp:wa<wb
  ·rw [if_pos hp,decide_eq_true (p:=wa<wb∨wa=wb∧pa<pb) (Or.inl hp)];rfl
  ·rw [if_neg hp,if_neg he,decide_eq_false (p:=wa<wb∨wa=wb∧pa<pb) (by omega)];rfl
theorem GH{x y:Nat}(h:y≤x):0≤bW x y:=by unfold bW;rw [if_neg (by omega)];split<;>decide
theorem Iq{X1 X2 y1 y2 D:Nat}(hX:X2≤X1)(hy:y2≤y1):X1*D+y1-(X2*D+y2)=(X1-X2)*D+(y1-y2):=by
 obtain ⟨k,rfl⟩:=Nat.exists_eq_add_of_le hX;rw [Nat.add_mul,Nat.add_sub_cancel_left];omega
theorem zy.lt{F G r:Nat}{s sa:Bool}{va da p d:Nat}(h:zy F G s r sa va da)(hl:pv F r*d<p*2^G):va*d<p*da:=by
 refine Nat.lt_of_mul_lt_mul_right (a:=2^G) ?_;have a1:va*d*2^G=pv F r*d*da:=by rw [Nat.mul_right_comm,h.eq];ac_rfl
 have a2:p*da*2^G=p*2^G*da:=Nat.mul_right_comm ..;rw [a1,a2];exact Nat.mul_lt_mul_of_pos_right hl h.hd
theorem zy.same{F G r:Nat}{s sa:Bool}{va da p d:Nat}(h:zy F G s r sa va da)(hl:pv F r*d=p*2^G):va*d=p*da:=by
 refine Nat.eq_of_mul_eq_mul_right (Nat.pow_pos (n:=G) (show 0<2 by omega)) ?_;have a1:va*d*2^G=pv F r*d*da:=by rw [Nat.mul_right_comm,h.eq];ac_rfl
 have a2:p*da*2^G=p*2^G*da:=Nat.mul_right_comm ..;rw [a1,a2,hl]
theorem Io(s:Bool)(p d:Nat)(hd:0<d)(hg:Nat.gcd p d=1)(hs:s=true→0<p):Rm.Q (rq s p d hd hg) s p d:=⟨rfl,rfl,fun e=>by
 cases s
 ·rfl
 ·have:=hs rfl;omega⟩
theorem nG{s t:Bool}{p d p' d':Nat}(hd:0<d)(hg:Nat.gcd p d=1)(hs:s=true→0<p)(hd':0<d')(hg':Nat.gcd p' d'=1)(hs':t=true→0<p')(o1:¬Over (p*d'))(o2:¬Over (p'*d))(W:World)(a:Option Addr)(n c:Nat)(b:Option Addr)(k l:Nat)(a':Option Addr)(n' c':Nat)(b':Option Addr)(k' l':Nat)(h1:Num W a n p)(h2:Num W b k d)(h3:Num W a' n' p')(h4:Num W b' k' d') :
  Calls Tryz.prog 11 #[.agg #[.bool s,.slice a n c,.slice b k l],.agg #[.bool t,.slice a' n' c',.slice b' k' l']] W fun e W'=>e = .returned (.tuple #[.int .i64 (iR (rq s p d hd hg) (rq t p' d' hd' hg')),.int .i64 0])∧Below W.heap.size W W':=
 Eu s t a b a' b' n k n' k' c l c' l' _ _ W (Dl hs h1 h2) (Dl hs' h3 h4) (by show ¬Over ((Rm.sgn s p).natAbs*d');rw [Rm.sgn_abs];exact o1) (by show ¬Over ((Rm.sgn t p').natAbs*d);rw [Rm.sgn_abs];exact o2)
theorem qh{s t:Bool}{p d p' d':Nat}{hd:0<d}{hg:Nat.gcd p d=1}{hd':0<d'}{hg':Nat.gcd p' d'=1}(h:Rm.sgn s p*(d':Int)<Rm.sgn t p'*(d:Int)):iR (rq s p d hd hg) (rq t p' d' hd' hg') = -1:=mi h
theorem qj{s t:Bool}{p d p' d':Nat}{hd:0<d}{hg:Nat.gcd p d=1}{hd':0<d'}{hg':Nat.gcd p' d'=1}(h:Rm.sgn t p'*(d:Int)<Rm.sgn s p*(d':Int)):iR (rq s p d hd hg) (rq t p' d' hd' hg')=1:=mH h
theorem DD{s t:Bool}{p d p' d':Nat}{hd:0<d}{hg:Nat.gcd p d=1}{hd':0<d'}{hg':Nat.gcd p' d'=1}(h:Rm.sgn s p*(d':Int)=Rm.sgn t p'*(d:Int)):rq s p d hd hg=rq t p' d' hd' hg':=by
 refine Classical.byContradiction fun hne=>yS hne h
def eD(md:Nat)(s:Bool)(F r:Nat):Int:=if s then -(bR md s F r:Int) else if r=0 then 0 else (bR md s F (r-1):Int)
def dU(md:Nat)(s:Bool)(F r:Nat):Int:=if s then (if r=0 then 0 else -(bR md s F (r-1):Int)) else (bR md s F r:Int)
def iW(md:Nat)(s:Bool)(r:Nat):Bool:=if s then fV md s r else (decide (r=0)||lv md s r)
def jo(md:Nat)(s:Bool)(r:Nat):Bool:=if s then (decide (r=0)||lv md s r) else fV md s r
def rT(md:Nat)(s:Bool)(F r:Nat)(X:Int)(d:Nat):Prop:=
 (eD md s F r*(d:Int)<X∨(eD md s F r*(d:Int)=X∧iW md s r=true))∧(X<dU md s F r*(d:Int)∨(X=dU md s F r*(d:Int)∧jo md s r=true))
def dV(md:Nat)(s:Bool)(F r G:Nat)(t:Bool)(p d:Nat):Prop:=(t=s∨p=0)∧gY md s F r (2*(p*2^G)) d
theorem wW(t:Bool)(p G:Nat):Rm.sgn t p*((2^(G+1):Nat):Int)=Rm.sgn t (2*(p*2^G)):=by
 rw [←Rm.sgn_scale,Nat.pow_succ];congr 1;ac_rfl
theorem oh(md:Nat)(s:Bool)(F r G:Nat){t:Bool}{p d:Nat}(ht:t=true→0<p):rT md s F r (Rm.sgn t p*((2^(G+1):Nat):Int)) d↔dV md s F r G t p d:=by
 rw [wW];unfold rT dV;obtain ⟨H,hH⟩:∃H,H=2*(p*2^G):=⟨_,rfl⟩;have hP:0<2^G:=Nat.pow_pos (by omega);have hp0:p=0↔H=0:=by
  constructor
  ·intro e;rw [hH,e,Nat.zero_mul]
  ·intro e;rcases Nat.eq_zero_or_pos p with q|q
   ·exact q
   ·have:=Nat.mul_pos q hP;omega
 rw [←hH,hp0];have ht':t=true→0<H:=fun e=>by
  have:=Nat.mul_pos (ht e) hP;omega
 clear hH hp0 ht;obtain ⟨u,hu⟩:∃u,u=bR md s F r*d:=⟨_,rfl⟩;obtain ⟨v,hv⟩:∃v,v=bR md s F (r-1)*d:=⟨_,rfl⟩;have eu:(bR md s F r:Int)*(d:Int)=(u:Int):=by rw [hu,Int.natCast_mul]
 have ev:(bR md s F (r-1):Int)*(d:Int)=(v:Int):=by rw [hv,Int.natCast_mul]
 have hR:gY md s F r H d↔(r=0∨v<H∨(v=H∧lv md s r=true))∧(H<u∨(H=u∧fV md s r=true)):=by
  rw [hu,hv];exact ⟨fun h=>⟨h.lo,h.hi⟩,fun h=>⟨h.1,h.2⟩⟩
 rw [hR];have e1:eD md s F r*(d:Int)=if s then -(u:Int) else if r=0 then 0 else (v:Int):=by
  unfold eD;rw [←eu,←ev];cases s
  ·by_cases h0:r=0
   ·simp [h0]
   ·simp [h0]
  ·simp [Int.neg_mul]
 have e2:dU md s F r*(d:Int)=if s then (if r=0 then 0 else -(v:Int)) else (u:Int):=by
  unfold dU;rw [←eu,←ev];cases s
  ·simp
  ·by_cases h0:r=0
   ·simp [h0]
   ·simp [h0,Int.neg_mul]
 rw [e1,e2];unfold iW jo;clear e1 e2 hR eu ev hu hv;generalize lv md s r=bi;generalize fV md s r=bo;by_cases h0:r=0
 ·rw [if_pos h0,if_pos h0,decide_eq_true h0];cases s<;>cases t<;>cases bi<;>cases bo<;>simp [Rm.sgn,h0] at ht' ⊢ <;>omega
 ·rw [if_neg h0,if_neg h0,decide_eq_false h0];cases s<;>cases t<;>cases bi<;>cases bo<;>simp [Rm.sgn,h0] at ht' ⊢ <;>omega
theorem AP{md:Nat}{s:Bool}{F:Nat}(h:bR md s F 0=0):fV md s 0=true:=by
 have h1:=iD (F:=F) (show 0<1 by omega);rw [fA] at h1;unfold bR at h;unfold fV;simp only [fA,Nat.zero_add] at h;by_cases hm:md≤1
 ·rw [if_pos hm] at h;omega
 ·rw [if_neg hm] at h;rw [if_neg (by omega),if_neg (by omega)];cases hf:bN md s false 1
  ·rw [hf] at h;simp at h;omega
  ·rfl
theorem jA(md:Nat)(s:Bool)(F r:Nat):eD md s F r<dU md s F r∨(eD md s F r=dU md s F r∧iW md s r=true∧jo md s r=true):=by
 unfold eD dU iW jo;by_cases h0:r=0
 ·subst h0;by_cases hz:bR md s F 0=0
  ·have:=AP hz;rw [hz,this];cases s<;>simp
  ·cases s<;>simp<;>omega
 ·have:=zq (md:=md) (s:=s) (F:=F) (show r-1<r by omega);cases s<;>simp [h0]<;>omega
theorem IV(md:Nat)(s:Bool)(F r:Nat){d:Nat}(hd:0<d):rT md s F r (eD md s F r*(d:Int)) d↔iW md s r=true:=by
 have hd':(0:Int)<(d:Int):=by omega
 unfold rT;rcases jA md s F r with h|⟨h,h1,h2⟩
 ·have:=Int.mul_lt_mul_of_pos_right h hd';constructor
  ·rintro ⟨a|a,-⟩
   ·omega
   ·exact a.2
  ·exact fun a=>⟨Or.inr ⟨rfl,a⟩,Or.inl this⟩
 ·rw [h];exact ⟨fun _=>h1,fun a=>⟨Or.inr ⟨rfl,a⟩,Or.inr ⟨rfl,h2⟩⟩⟩
theorem Ja(md:Nat)(s:Bool)(F r:Nat){d:Nat}(hd:0<d):rT md s F r (dU md s F r*(d:Int)) d↔jo md s r=true:=by
 have hd':(0:Int)<(d:Int):=by omega
 unfold rT;rcases jA md s F r with h|⟨h,h1,h2⟩
 ·have:=Int.mul_lt_mul_of_pos_right h hd';constructor
  ·rintro ⟨-,a|a⟩
   ·omega
   ·exact a.2
  ·exact fun a=>⟨Or.inl this,Or.inr ⟨rfl,a⟩⟩
 ·rw [←h];exact ⟨fun _=>h2,fun a=>⟨Or.inr ⟨rfl,h1⟩,Or.inr ⟨rfl,a⟩⟩⟩
theorem uZ{md:Nat}{s:Bool}{F r G:Nat}{t:Bool}{p d:Nat}(hd:0<d)(ht:t=true→0<p)(h:Rm.sgn t p*((2^(G+1):Nat):Int)=eD md s F r*(d:Int)):dV md s F r G t p d↔iW md s r=true:=by
 rw [←oh md s F r G ht,h];exact IV md s F r hd
theorem uX{md:Nat}{s:Bool}{F r G:Nat}{t:Bool}{p d:Nat}(hd:0<d)(ht:t=true→0<p)(h:Rm.sgn t p*((2^(G+1):Nat):Int)=dU md s F r*(d:Int)):dV md s F r G t p d↔jo md s r=true:=by
 rw [←oh md s F r G ht,h];exact Ja md s F r hd
theorem qW{a b c:Int}(h:0<c):a*c<b*c↔a<b:=⟨fun x=>Int.lt_of_mul_lt_mul_right x (Int.le_of_lt h),fun x=>Int.mul_lt_mul_of_pos_right x h⟩
def c3(a b:Int):Int:=if a<b then -1 else if a=b then 0 else 1
theorem nA{s t:Bool}{p d p' d':Nat}{hd:0<d}{hg:Nat.gcd p d=1}{hd':0<d'}{hg':Nat.gcd p' d'=1}{g:Int}{G:Nat}(h:Rm.sgn s p*((2^(G+1):Nat):Int)=g*(d:Int)) :
  iR (rq s p d hd hg) (rq t p' d' hd' hg')=c3 (g*(d':Int)) (Rm.sgn t p'*((2^(G+1):Nat):Int))∧iR (rq t p' d' hd' hg') (rq s p d hd hg)=c3 (Rm.sgn t p'*((2^(G+1):Nat):Int)) (g*(d':Int)):=by
 have hP:(0:Int)<((2^(G+1):Nat):Int):=Int.natCast_pos.2 (Nat.pow_pos (by omega));have hD:(0:Int)<(d:Int):=by omega
 have key:∀{a b:Int},a*((2^(G+1):Nat):Int)=(g*(d':Int))*(d:Int)→b*((2^(G+1):Nat):Int)=(Rm.sgn t p'*((2^(G+1):Nat):Int))*(d:Int)→(a<b↔g*(d':Int)<Rm.sgn t p'*((2^(G+1):Nat):Int))∧(b<a↔Rm.sgn t p'*((2^(G+1):Nat):Int)<g*(d':Int)):=by
  intro a b ha hb;constructor
  ·rw [←qW hP,ha,hb,qW hD]
  ·rw [←qW hP,ha,hb,qW hD]
 obtain ⟨k1,k2⟩:=key (a:=Rm.sgn s p*(d':Int)) (b:=Rm.sgn t p'*(d:Int)) (by rw [Int.mul_right_comm,h,Int.mul_right_comm]) (by rw [Int.mul_right_comm]);rcases Int.lt_trichotomy (Rm.sgn s p*(d':Int)) (Rm.sgn t p'*(d:Int)) with q|q|q
 ·have:=k1.1 q;rw [qh q,qj q];unfold c3;exact ⟨by rw [if_pos this],by rw [if_neg (by omega),if_neg (by omega)]⟩
 ·have e:g*(d':Int)=Rm.sgn t p'*((2^(G+1):Nat):Int):=by
   have a1:=fun z=>Int.lt_irrefl _ (by have:=k1.2 z;rwa [q] at this);have a2:=fun z=>Int.lt_irrefl _ (by have:=k2.2 z;rwa [q] at this);omega
  rw [DD (hd:=hd) (hg:=hg) (hd':=hd') (hg':=hg') q,vg rfl,e];unfold c3;exact ⟨by rw [if_neg (Int.lt_irrefl _),if_pos rfl],by rw [if_neg (Int.lt_irrefl _),if_pos rfl]⟩
 ·have:=k2.1 q;rw [qj q,qh q];unfold c3;exact ⟨by rw [if_neg (by omega),if_neg (by omega)],by rw [if_pos this]⟩
end Go.Proofs.YtaidedkpfnidpaaGreatDoor
