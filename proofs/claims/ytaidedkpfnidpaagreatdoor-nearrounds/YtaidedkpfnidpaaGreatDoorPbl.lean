/- Of what NearRoundsRow stands on: RbMulN RbNum RcHalf RcRndL. -/
import Derived.Test.YtaidedkpfnidpaaGreatDoorPbk
import Derived.Lib.Bytealg
import Derived.Lib.IndexLaws
import Derived.Test.YtaidedkpfnidpaaGreatDoorPbj
namespace Go.Proofs.YtaidedkpfnidpaaGreatDoor
open Go.RowKit
theorem pM{v e:Nat}(h:v<2^e)(he:e≤524288):¬Over v:=fun o=>by
 have h1:=o.le;rw [show 4294967296^Pl.top=2^(32*Pl.top) by rw [Nat.pow_mul]] at h1;have h3:e≤32*Pl.top:=by have:=Pl.top_eq;omega
 exact absurd (Nat.lt_of_lt_of_le h (Nat.pow_le_pow_right (by decide) h3)) (Nat.not_lt.2 h1)
theorem yX{a b j k:Nat}(ha:a<2^j)(hb:b<2^k):a*b<2^(j+k):=by
 rw [Nat.pow_add];exact Nat.mul_lt_mul'' ha hb
theorem EQ{x y:Rat}{s t:Bool}{m1 d1 m2 d2 j k:Nat}(hx:Rm.Q x s m1 d1)(hy:Rm.Q y t m2 d2)(b1:m1<2^j)(b2:d1<2^j)(b3:m2<2^k)(b4:d2<2^k)(hk:j+k≤100000) :
  ∃g z dn,Rm.Q (x*y) g z dn∧z<2^(j+k)∧dn<2^(j+k)∧nL 36 s t m1 d1 m2 d2 z dn g:=by
 have hf:0<Nat.gcd m1 d2:=Nat.gcd_pos_of_pos_right _ hy.pos;have hr:0<Nat.gcd m2 d1:=Nat.gcd_pos_of_pos_right _ hx.pos;have l1:m1/Nat.gcd m1 d2*(m2/Nat.gcd m2 d1)<2^(j+k):=Nat.lt_of_le_of_lt (Nat.mul_le_mul (Nat.div_le_self _ _) (Nat.div_le_self _ _)) (yX b1 b3);have l2:d1/Nat.gcd m2 d1*(d2/Nat.gcd m1 d2)<2^(j+k):=Nat.lt_of_le_of_lt (Nat.mul_le_mul (Nat.div_le_self _ _) (Nat.div_le_self _ _)) (yX b2 b4);refine ⟨_,_,_,hx.product hy,l1,l2,fun W a1 n1 c1 a2 n2 c2 a3 n3 c3 a4 n4 c4 h1 h2 h3 h4=>?_⟩;exact A8 W a1 a2 a3 a4 n1 n2 n3 n4 c1 c2 c3 c4 m1 d1 m2 d2 s t _ _ _ _ _ _ _ _ _ h1 h2 h3 h4 (fun p=>hide (ji p m1 d2)) (fun p=>hide (ji p m2 d1)) (fun p=>hide (dR p m1 hf)) (fun p=>hide (dR p m2 hr)) (fun p=>hide (dK p (pM l1 (by omega)))) (fun p=>hide (dR p d1 hr)) (fun p=>hide (dR p d2 hf)) (fun p=>hide (dK p (pM l2 (by omega)))) (fun p=>hide (nU p _ _ _))
theorem Fa{x y:Rat}{s t:Bool}{m1 d1 m2 d2 j k:Nat}(hx:Rm.Q x s m1 d1)(hy:Rm.Q y t m2 d2)(h0:m2≠0)(b1:m1<2^j)(b2:d1<2^j)(b3:m2<2^k)(b4:d2<2^k)(hk:j+k≤100000) :
  ∃g z dn,Rm.Q (x/y) g z dn∧z<2^(j+k)∧dn<2^(j+k)∧nL 35 s t m1 d1 m2 d2 z dn g:=by
 obtain ⟨g,z,dn,hq,l1,l2,hb⟩:=EQ hx (hy.inv h0) b1 b2 b4 b3 hk;refine ⟨g,z,dn,by rw [Rat.div_def];exact hq,l1,l2,fun W a1 n1 c1 a2 n2 c2 a3 n3 c3 a4 n4 c4 h1 h2 h3 h4=>?_⟩;exact AX W a1 a2 a3 a4 n1 n2 n3 n4 c1 c2 c3 c4 m1 d1 m2 d2 s t g z dn h1 h2 h3 h4 h0 (hide hb)
theorem Dj(N:Nat):Rm.Q ((N:Nat):Rat) false N 1:=⟨by simp [Rm.sgn],by simp,fun _=>rfl⟩
theorem Ak{be:Nat}(h1:1≤be)(h2:be<4294967296):∃bl:Nat,1≤bl∧bl≤32∧∀W:World,Calls Tryz.prog 74 #[.int .u32 (be:Int)] W fun e W'=>e = .returned (.int .i64 (bl:Int))∧Below W.heap.size W W':=by
 have hb:=iI 32 be h2 (by omega);have h32:Lib.bitLen be≤32:=by
  rcases hb.2 with h|h
  ·omega
  ·have h3:=(Nat.pow_lt_pow_iff_right (show 1<2 by decide)).1 (Nat.lt_of_le_of_lt h (show be<2^32 from h2));omega
 refine ⟨Lib.bitLen be,?_,h32,fun W=>(qw (be:Int) W (by omega) (by omega)).mono fun e w' ⟨k1,k2⟩=>⟨by rw [k1,Int.toNat_natCast],by rw [←k2];exact dJ _⟩⟩;rcases Nat.eq_zero_or_pos (Lib.bitLen be) with h|h
 ·have:=hb.1;rw [h] at this;simp at this;omega
 ·exact h
theorem EC{bl:Nat}(h1:1≤bl)(h2:bl≤32):script Tryz.prog 0 (binOp .quo 3 (.int .i64 524288) (.int .i64 (bl:Int))) []=some (.int .i64 ((524288/bl:Nat):Int),[]):=by
 have e:IntKind.i64.wrap ((524288:Int).tdiv (bl:Int))=((524288/bl:Nat):Int):=by
  have h3:(524288:Int).tdiv (bl:Int)=((524288/bl:Nat):Int):=by
   rw [Int.tdiv_eq_ediv_of_nonneg (by decide)];rfl
  have h4:524288/bl≤524288:=Nat.div_le_self _ _;rw [h3,IntKind.wrap_i64];generalize 524288/bl=q at *;omega
 simp only [binOp,Op.intDiv];rw [if_neg (by simp),if_neg (show ¬(bl:Int)=0 by omega)]
 show some (Value.int .i64 (IntKind.i64.wrap ((524288:Int).tdiv (bl:Int))),[])=_
 rw [e]
theorem AJ{x:Rat}{s:Bool}{m d K:Nat}(hx:Rm.Q x s m d)(hm:m<2^K)(hd:d<2^K)(hK:K≤50000) :
  ∃g z dn,Rm.Q (x/((2:Nat):Rat)) g z dn∧z<2^(K+2)∧dn<2^(K+2)∧∀(W:World)(a:Option Addr)(n' c:Nat)(b:Option Addr)(k l:Nat),Num W a n' m→Num W b k d→Calls Tryz.prog 10 #[.agg #[.bool s,.slice a n' c,.slice b k l],.int .u32 2,.int .i64 (-1)] W fun en W'=>(∃A N C A' N' C',en = .returned (.tuple #[.agg #[.bool g,.slice A N C,.slice A' N' C'],.int .i64 0])∧Mine W' W.heap.size A N C z∧Mine W' W.heap.size A' N' C' dn)∧Below W.heap.size W W':=by
 have HC:∀(a:Option Addr)(n' c:Nat)(b:Option Addr)(k l:Nat),Hid (∀W:World,Num W a n' m→Num W b k d→Calls Tryz.prog 12 #[.agg #[.bool s,.slice a n' c,.slice b k l]] W fun e W'=>e = .returned (.int .i64 0)∧Below W.heap.size W W'):=fun a n' c b k l=>hide fun W h1 h2=>by
  have hd0:=hx.pos;have hk:0<k:=by have:=h2.zero;omega
  have hs:s=true→0<m:=fun hs=>Nat.pos_of_ne_zero fun h0=>by have:=hx.zero h0;rw [hs] at this;cases this
  cases s
  ·exact kD a n' c m b k l d W hk h1 h2 hx.co
  ·exact kK a n' c m b k l d W hk (by have:=h1.zero;have:=hs rfl;omega) h1 h2 hx.co
 by_cases hm0:m=0
 ·have hx0:x=0:=by
   have h1:=hx.num;rw [hm0,Rm.sgn_zero] at h1;exact Rat.num_eq_zero.1 h1
  have e:x/((2:Nat):Rat)=x:=by subst hx0;simp [Rat.div_def]
  exact ⟨s,m,d,by rw [e];exact hx,Nat.lt_of_lt_of_le hm (Nat.pow_le_pow_right (by omega) (by omega)),Nat.lt_of_lt_of_le hd (Nat.pow_le_pow_right (by omega) (by omega)),fun W a n' c b k l h1 h2=>Aj W s a b n' c k l m d 2 (-1) h1 h2 (by decide) (by decide) hm0 (HC a n' c b k l)⟩
 obtain ⟨bl,l1,l2,HL⟩:=Ak (be:=2) (by decide) (by decide);have hdv:=EC l1 l2;have hL:16384≤524288/bl:=(Nat.le_div_iff_mul_le (by omega)).2 (by omega);have hL2:524288/bl≤524288:=Nat.div_le_self _ _;generalize 524288/bl=L at hdv hL hL2;have hLu:IntKind.u64.wrap (L:Int)=(L:Int):=by rw [IntKind.wrap_u64];omega
 have HP:∀W:World,Calls Tryz.prog 75 #[.int .u32 (2:Nat),.int .i64 (1:Nat)] W fun en W'=>(∃a n c,en = .returned (.tuple #[.agg #[.slice a n c],.int .i64 0])∧Mine W' W.heap.size a n c (2^1))∧Below W.heap.size W W':=
  fun W=>(vZ 2 1 W (by decide) (by decide)).mono fun en W' ⟨k1,k2⟩=>⟨Bf k1 (pM (e:=2) (by decide) (by decide)),k2⟩
 obtain ⟨g,z,dn,hq,z1,z2,hb⟩:=Fa (k:=2) hx (Dj (2^1)) (by decide) hm hd (by decide) (by decide) (by omega);refine ⟨g,z,dn,hq,z1,z2,fun W a n' c b k l h1 h2=>?_⟩;exact Hu W s a b n' c k l m d g 2 1 (18446744073709551616-1) z dn h1 h2 (by decide) hm0 (by decide) (by rw [IntKind.wrap_u64];omega) (by rw [IntKind.wrap_u64];omega) (hide fun W h1 h2=>Gs W s a b n' c k l m d g 2 1 bl L _ z dn h1 h2 (by decide) (by decide) (by rw [if_neg (by omega)]) hLu (by decide) hdv (hide HL) (hide HP) (hide hb)) (HC a n' c b k l)
theorem Jg{N m1 d1:Nat}(h:lq N m1 d1 0 1)(p:Nat)(s t:Bool)(hst:(s==t)=false):wP 72 p s t m1 d1 0 1 (Rm.dnum m1 d1 0 1) (Rm.sden false m1 d1 0 1) ((if Rm.low m1 d1 0 1 then t else s) && !decide (Rm.dnum m1 d1 0 1=0)):=fun W a1 n1 c1 a2 n2 c2 a3 n3 c3 a4 n4 c4 hR h1 h2 h3 h4=>by
 have h0:0<N:=Nat.lt_of_lt_of_le h.p1 h.b;obtain ⟨b1,b2,b3,b4,b5⟩:=h.parts false;have hNN:=Nat.le_mul_of_pos_right (N*N) h0;have hN1:N≤N*N:=Nat.le_mul_of_pos_right N h0;have b7:N*(N*N)=N*N*N:=by rw [Nat.mul_comm]
 have HS:=I5 h p s t hst;have HB:=EF p (m1/d1) (0/1) (Rm.partA false m1 d1 0 1) (Rm.partB false m1 d1 0 1);have ep:Rm.partB false m1 d1 0 1=0:=by unfold Rm.partB;rw [Nat.zero_mod,Nat.zero_mul,Nat.zero_div]
 obtain ⟨wa,ea⟩:∃wa,wa=m1/d1:=⟨_,rfl⟩;obtain ⟨pa,e1⟩:∃pa,pa=Rm.partA false m1 d1 0 1:=⟨_,rfl⟩;obtain ⟨dn,e3⟩:∃dn,dn=Rm.sden false m1 d1 0 1:=⟨_,rfl⟩;have hlw:¬Rm.low m1 d1 0 1:=by unfold Rm.low;rw [ep,Nat.zero_div];omega
 have hdn:Rm.dnum m1 d1 0 1=wa*dn+pa-(0*dn+0):=by
  unfold Rm.dnum;rw [if_neg hlw,ea,e1,e3];unfold Rm.uA Rm.uB;rw [ep,Nat.zero_div]
 rw [←ea,←e1,←e3,ep,Nat.zero_div] at HS;rw [←ea,←e1,ep,Nat.zero_div,decide_eq_false (by omega)] at HB;rw [←e1] at b1;rw [←e3] at b3 ⊢;rw [←ea] at b4;rw [if_neg hlw];have mulB:∀X:Nat,X≤N→X*dn≤N*N*N:=fun X hX=>by rw [←b7];exact Nat.mul_le_mul hX b3
 have hz:=Iq (X1:=wa) (X2:=0) (y1:=pa) (y2:=0) (D:=dn) (Nat.zero_le _) (Nat.zero_le _);have m5:=mulB (wa-0) (by omega);rw [hz] at hdn;have z7:=ic p (h.o ((wa-0)*dn+(pa-0)) (by omega));rw [←hdn] at z7;exact EI W p a1 a2 a3 a4 n1 n2 n3 n4 c1 c2 c3 c4 m1 d1 0 1 s t _ _ wa 0 pa 0 dn _ _ _ _ _ hR h1 h2 h3 h4 (hide HS) (hide HB) (hide (kI p (by omega))) (hide (iq p pa 0)) (GH (Nat.zero_le _)) (hide (dK p (h.o _ (by omega)))) (hide (kI p (Nat.zero_le _))) (hide z7) (hide (nU p s _ _))
theorem Ew{N m1 d1 m2 d2:Nat}(h:lq N m1 d1 m2 d2){x y:Rat}{s t:Bool}(hx:Rm.V x s m1 d1)(hy:Rm.V y t m2 d2)(hst:s=t∨(m2=0∧d2=1)) :
  ∃(g:Bool) (z dn:Nat),Rm.Q (x+y) g z dn∧∀(W:World)(a1:Option Addr)(n1 c1:Nat)(a2:Option Addr)(n2 c2:Nat)(a3:Option Addr)(n3 c3:Nat)(a4:Option Addr)(n4 c4:Nat),Num W a1 n1 m1→Num W a2 n2 d1→Num W a3 n3 m2→Num W a4 n4 d2 →
   (∀W:World,Num W a1 n1 m1→Num W a2 n2 d1→Calls Tryz.prog 12 #[.agg #[.bool s,.slice a1 n1 c1,.slice a2 n2 c2]] W fun e W'=>e = .returned (.int .i64 0)∧Below W.heap.size W W') →
   (∀W:World,Num W a3 n3 m2→Num W a4 n4 d2→Calls Tryz.prog 12 #[.agg #[.bool t,.slice a3 n3 c3,.slice a4 n4 c4]] W fun e W'=>e = .returned (.int .i64 0)∧Below W.heap.size W W') →
   Calls Tryz.prog 9 #[.agg #[.bool s,.slice a1 n1 c1,.slice a2 n2 c2],.agg #[.bool t,.slice a3 n3 c3,.slice a4 n4 c4]] W fun en W'=>(∃A N C A' N' C',en = .returned (.tuple #[.agg #[.bool g,.slice A N C,.slice A' N' C'],.int .i64 0])∧Mine W' W.heap.size A N C z∧Mine W' W.heap.size A' N' C' dn)∧Below W.heap.size W W':=by
 have main:∃(g:Bool) (z dn:Nat),Rm.Q (x+y) g z dn∧nL 30 s t m1 d1 m2 d2 z dn g:=by
  by_cases hs:s=t
  ·subst hs;exact ⟨_,_,_,Rm.sum_same hx hy,fun W a1 n1 c1 a2 n2 c2 a3 n3 c3 a4 n4 c4 h1 h2 h3 h4=>GG W a1 a2 a3 a4 n1 n2 n3 n4 c1 c2 c3 c4 m1 d1 m2 d2 s _ _ _ h1 h2 h3 h4 (fun p=>hide (FO h p s))⟩
  ·have ht:t = !s:=by cases s<;>cases t<;>first|rfl|exact absurd rfl hs
   have hst2:(s == !s)=false:=by cases s<;>rfl
   obtain ⟨rfl,rfl⟩:m2=0∧d2=1:=by
    rcases hst with e|e
    ·exact absurd e hs
    ·exact e
   subst ht;exact ⟨_,_,_,Rm.sum_diff hx hy,fun W a1 n1 c1 a2 n2 c2 a3 n3 c3 a4 n4 c4 h1 h2 h3 h4=>FQ W a1 a2 a3 a4 n1 n2 n3 n4 c1 c2 c3 c4 m1 d1 0 1 s (!s) _ _ _ h1 h2 h3 h4 (fun p=>hide (Jg h p s (!s) hst2)) hst2⟩
 obtain ⟨g,z,dn,hq,hb⟩:=main;exact ⟨g,z,dn,hq,fun W a1 n1 c1 a2 n2 c2 a3 n3 c3 a4 n4 c4 h1 h2 h3 h4 k1 k2=>CS W a1 a2 a3 a4 n1 n2 n3 n4 c1 c2 c3 c4 m1 d1 m2 d2 s t g z dn h1 h2 h3 h4 (hide k1) (hide k2) (hide hb)⟩
theorem zZ{x y:Rat}{s t g:Bool}{n d m e z k:Nat}(hx:Rm.V x s n d)(hy:Rm.V y t m e)(hq:Rm.Q (x+y) g z k):Rm.sgn g z*((d:Int)*(e:Int))=(Rm.sgn s n*(e:Int)+Rm.sgn t m*(d:Int))*(k:Int)∧k≤d*e∧z≤n*e+m*d:=by
 have h1:=hq.rat;rw [hx.add hy] at h1;have hD:=Nat.mul_pos hx.pos hy.pos;have h2:=(Rat.mkRat_eq_iff (by omega) (by have:=hq.pos;omega)).1 h1;have h3:Rm.sgn g z*((d:Int)*(e:Int))=(Rm.sgn s n*(e:Int)+Rm.sgn t m*(d:Int))*(k:Int):=by
  rw [h2,Int.natCast_mul]
 refine ⟨h3,?_⟩;have h4:=congrArg Int.natAbs h2.symm;rw [Int.natAbs_mul,Rm.sgn_abs,Int.natAbs_natCast,Int.natAbs_mul,Int.natAbs_natCast] at h4;have hk:k∣d*e:=by
  have h2:k∣z*(d*e):=⟨_,by rw [h4,Nat.mul_comm]⟩;exact Nat.Coprime.dvd_of_dvd_mul_left (by rw [Nat.coprime_comm];exact hq.co) h2
 have hk1:=Nat.le_of_dvd hD hk;refine ⟨hk1,?_⟩;have hN:(Rm.sgn s n*(e:Int)+Rm.sgn t m*(d:Int)).natAbs≤n*e+m*d:=by
  have a1:(Rm.sgn s n*(e:Int)).natAbs=n*e:=by rw [Int.natAbs_mul,Rm.sgn_abs,Int.natAbs_natCast]
  have a2:(Rm.sgn t m*(d:Int)).natAbs=m*d:=by rw [Int.natAbs_mul,Rm.sgn_abs,Int.natAbs_natCast]
  omega
 refine Nat.le_trans ?_ hN;refine Nat.le_of_mul_le_mul_right (c:=d*e) ?_ hD;rw [h4];exact Nat.mul_le_mul_left _ hk1
theorem Dp{x:Rat}{g t:Bool}{z k p d:Nat}(hx:Rm.Q x g z k)(hq:Rm.Q (x/((2:Nat):Rat)) t p d):Rm.sgn t p*2*(k:Int)=Rm.sgn g z*(d:Int):=by
 have e:x=x/((2:Nat):Rat)*((2:Nat):Rat):=by rw [Rat.div_def,Rat.mul_assoc,Rat.inv_mul_cancel _ (by decide),Rat.mul_one]
 have h1:=hq.mul (Dj 2);rw [←e,hx.rat] at h1;have h2:=(Rat.mkRat_eq_iff (by have:=hx.pos;omega) (by have:=hq.pos;omega)).1 h1;rw [Nat.mul_one] at h2;exact h2.symm
theorem uh{E F S I B G:Nat}(h:Fm E F S I)(hB:B=2^(E-1)-1)(hG:(G:Int)=(B:Int)+(F:Int)-1){md:Nat}(hm:md≤4)(s:Bool){r:Nat}(hr:r<I){t:Bool}{p d:Nat}(hd:0<d)(hg:Nat.gcd p d=1)(ht:t=true→0<p)(bp:aK p≤100000)(bd:aK d≤100000)(must:Bool)(hmust:dV md s F r G t p d↔must=true)(W:World)(a:Option Addr)(n c:Nat)(b:Option Addr)(k l:Nat)(hT:Tb W)(h1:Num W a n p)(h2:Num W b k d) :
  Calls Tryz.prog 8 #[.agg #[.int .i64 (E:Int),.int .i64 (F:Int)],.int .u64 (((if s then S else 0)+r:Nat):Int),.int .u8 (md:Int),.bool s,.agg #[.bool t,.slice a n c,.slice b k l],.bool must] W fun e W'=>e = .returned (.bool true)∧Below W.heap.size W W':=by
 obtain ⟨bt,fl,hR,hI⟩:=wG h hB hG hm s hd hg ht bp bd;have HR:=hide fun (W':World) (hb:Below W.heap.size W W')=>hR W' a n c b k l (hT.kept hb) (h1.kept hb) (h2.kept hb);exact EN W _ _ _ _ _ _ a n c b k l _ _ _ must HR rfl (hide (nD ((hI r hr).trans hmust)))
theorem sV{w:World}{a:Option Addr}{n m:Nat}(h:Num w a n m)(hn:n≤200):aK m≤6400:=by
 obtain ⟨xs,hx,_,hw,_,hv,_⟩:=h;have h1:=Pl.val_lt hw;rw [hv,hx] at h1;obtain ⟨K,hK⟩:∃K,K=6400:=⟨_,rfl⟩;rw [←hK];refine (bu m).le_of ?_;rw [show (4294967296:Nat)=2^32 from rfl,←Nat.pow_mul] at h1;exact Nat.lt_of_lt_of_le h1 (Nat.pow_le_pow_right (by decide) (by omega))
theorem jQ{n:Nat}(h:n<2^dF):aK n≤100000:=Nat.le_trans ((bu n).le_of h) (by decide)
theorem xW{md:Nat}{s:Bool}{F r G:Nat}{sl sh:Bool}{nl dl nh dh:Nat}(hl:kS G (eD md s F r) sl nl dl)(hh:kS G (dU md s F r) sh nh dh):sl=sh∨(nh=0∧dh=1):=by
 obtain ⟨P,hP⟩:∃P:Int,P=((2^(G+1):Nat):Int):=⟨_,rfl⟩;have hP0:0<P:=by rw [hP];exact Int.natCast_pos.2 (Nat.pow_pos (by omega))
 have q1:=hl.eq;have q2:=hh.eq;rw [←hP] at q1 q2;have d1:(0:Int)<(dl:Int):=by have:=hl.hd;omega
 have d2:(0:Int)<(dh:Int):=by have:=hh.hd;omega
 have pos:∀{q:Bool}{n:Nat}{g d:Int},Rm.sgn q n*P=g*d→0<d→0≤g→(q=true→0<n)→q=false:=by
  intro q n g d e hd hg hn;cases q
  ·rfl
  ·have h1:=hn rfl;have h2:(0:Int)<(n:Int)*P:=Int.mul_pos (by omega) hP0;have h3:0≤g*d:=Int.mul_nonneg hg (by omega);simp only [Rm.sgn,if_true,Int.neg_mul] at e;omega
 cases s
 ·have g1:0≤eD md false F r:=by unfold eD;simp only [Bool.false_eq_true,if_false];split<;>omega
  have g2:0≤dU md false F r:=by unfold dU;simp only [Bool.false_eq_true,if_false];omega
  rw [pos q1 d1 g1 hl.hs,pos q2 d2 g2 hh.hs];exact Or.inl rfl
 ·rcases Nat.eq_zero_or_pos nh with e|e
  ·have:=hh.hg;rw [e,Nat.gcd_zero_left] at this;exact Or.inr ⟨e,this⟩
  ·have neg:∀{q:Bool}{n:Nat}{g d:Int},Rm.sgn q n*P=g*d→0<d→g<0→q=true:=by
    intro q n g d e hd hg;cases q
    ·have h2:(0:Int)≤(n:Int)*P:=Int.mul_nonneg (by omega) (by omega);have h3:g*d<0:=Int.mul_neg_of_neg_of_pos hg hd;simp only [Rm.sgn,Bool.false_eq_true,if_false] at e;omega
    ·rfl
   have g2:dU md true F r≤0:=by unfold dU;simp only [if_true];split<;>omega
   have g3:dU md true F r≠0:=fun hz=>by
    rw [hz,Int.zero_mul] at q2;have h2:(0:Int)<(nh:Int)*P:=Int.mul_pos (by omega) hP0;cases sh<;>simp only [Rm.sgn,Bool.false_eq_true,if_false,if_true,Int.neg_mul] at q2<;>omega
   have g1:eD md true F r<0:=by rcases jA md true F r with h|⟨h,-,-⟩<;>omega
   rw [neg q1 d1 g1,neg q2 d2 (by omega)];exact Or.inl rfl
theorem FT{md:Nat}{s:Bool}{F r G:Nat}{sl sh gs gm:Bool}{nl dl nh dh zs ks zm km:Nat}(hl:kS G (eD md s F r) sl nl dl)(hh:kS G (dU md s F r) sh nh dh)(hks:0<ks)(hkm:0<km)(hmp:gm=true→0<zm)(e1:Rm.sgn gs zs*((dl:Int)*(dh:Int))=(Rm.sgn sl nl*(dh:Int)+Rm.sgn sh nh*(dl:Int))*(ks:Int))(e2:Rm.sgn gm zm*2*(ks:Int)=Rm.sgn gs zs*(km:Int)):dV md s F r G gm zm km:=by
 rw [←oh md s F r G hmp];obtain ⟨P,hP⟩:∃P:Int,P=((2^(G+1):Nat):Int):=⟨_,rfl⟩;have q1:=hl.eq;have q2:=hh.eq;rw [←hP] at q1 q2 ⊢;have hdl:(dl:Int)≠0:=by have:=hl.hd;omega
 have hdh:(dh:Int)≠0:=by have:=hh.hd;omega
 have hks':(ks:Int)≠0:=by omega
 have key:2*(Rm.sgn gm zm*P)=(eD md s F r+dU md s F r)*(km:Int):=by
  have k1:2*(Rm.sgn gm zm*P)*((ks:Int)*((dl:Int)*(dh:Int)))=(eD md s F r+dU md s F r)*(km:Int)*((ks:Int)*((dl:Int)*(dh:Int))):=by
   generalize Rm.sgn gm zm=u at *;generalize Rm.sgn gs zs=v at *;generalize Rm.sgn sl nl=x at *;generalize Rm.sgn sh nh=y at *;generalize eD md s F r=gl at *;generalize dU md s F r=gh at *;generalize (dl:Int)=a at *;generalize (dh:Int)=b at *;generalize (ks:Int)=c at *;generalize (km:Int)=d at *;clear hP hl hh hks hkm hmp hdl hdh hks'
   grind
  exact Int.eq_of_mul_eq_mul_right (Int.mul_ne_zero hks' (Int.mul_ne_zero hdl hdh)) k1
 have hkm':(0:Int)<(km:Int):=by omega
 rw [Int.add_mul] at key;unfold rT;rcases jA md s F r with h|⟨h,h1,h2⟩
 ·have:=Int.mul_lt_mul_of_pos_right h hkm';exact ⟨Or.inl (by omega),Or.inl (by omega)⟩
 ·rw [h] at key ⊢;exact ⟨Or.inr ⟨by omega,h1⟩,Or.inr ⟨by omega,h2⟩⟩
theorem rX(a b:Int):(c3 a b = -1∧a<b)∨(c3 a b=0∧a=b)∨(c3 a b=1∧b<a):=by
 unfold c3;rcases Int.lt_trichotomy a b with h|h|h
 ·exact Or.inl ⟨by rw [if_pos h],h⟩
 ·exact Or.inr (Or.inl ⟨by rw [if_neg (by omega),if_pos h],h⟩)
 ·exact Or.inr (Or.inr ⟨by rw [if_neg (by omega),if_neg (by omega)],h⟩)
theorem BA{ca cb:Int}{li hi inn:Bool}{gl gh X:Int}(h1:(ca = -1∧gl<X)∨(ca=0∧gl=X)∨(ca=1∧X<gl))(h2:(cb = -1∧X<gh)∨(cb=0∧X=gh)∨(cb=1∧gh<X))(hi':((gl<X∨(gl=X∧li=true))∧(X<gh∨(X=gh∧hi=true)))↔inn=true) :
  (ca=1∧inn=false)∨(ca=0∧li=false∧inn=false)∨(ca=(-1)∧cb=(-1)∧inn=true)∨(ca=(-1)∧cb=0∧hi=true∧inn=true)∨(ca=(-1)∧cb=0∧hi=false∧inn=false)∨(ca=(-1)∧cb=1∧inn=false)∨(ca=0∧li=true∧cb=(-1)∧inn=true)∨(ca=0∧li=true∧cb=0∧hi=true∧inn=true)∨(ca=0∧li=true∧cb=0∧hi=false∧inn=false)∨(ca=0∧li=true∧cb=1∧inn=false):=by
 rcases h1 with ⟨rfl,h1⟩|⟨rfl,h1⟩|⟨rfl,h1⟩<;>rcases h2 with ⟨rfl,h2⟩|⟨rfl,h2⟩|⟨rfl,h2⟩<;>cases li<;>cases hi<;>cases inn<;>simp at hi' ⊢ <;>omega
theorem pE(E F:Int)(b md:Nat)(t:Bool)(a:Option Addr)(n c:Nat)(xs:List Nat)(a':Option Addr)(k l:Nat)(ys:List Nat)(w:World)(hT:Tb w)(hN:dH w)(hn:xs.length=n)(hnb:n≤9223372036854775807)(hlx:bE w a xs)(hw:Pl.Wf xs)(hk:ys.length=k)(hkb:k≤9223372036854775807)(hly:bE w a' ys)(hwy:Pl.Wf ys) :
  Calls Tryz.prog 3 #[.agg #[.int .i64 E,.int .i64 F],.int .u64 (b:Int),.int .u8 (md:Int),.agg #[.bool t,.slice a n c,.slice a' k l]] w fun e w'=>e = .returned (.bool true)∧Below w.heap.size w w':=by
 have HA:Hid (∀W:World,Tb W→dH W→Calls Tryz.prog 5 #[] W fun e w'=>e = .returned (.bool true)∧Below W.heap.size W w'):=hide fun W hT hN=>DF W hT hN;rcases ut E F b md with ⟨er,he,hR⟩|⟨E',F',S,I,B,G,s,r,rfl,rfl,h,hB,hG,hm,hr,rfl⟩
 ·exact Gi w E F _ _ er t a n c a' k l hT hN HA he (hide hR)
 have hlt:=h.lt;obtain ⟨sl,sh,nl,dl,nh,dh,hl,hh,hR⟩:=yJ h hB hG hm s hr;have hvl:Rm.V (rq sl nl dl hl.hd hl.hg) sl nl dl:=(Io _ _ _ hl.hd hl.hg hl.hs).v;have hvh:Rm.V (rq sh nh dh hh.hd hh.hg) sh nh dh:=(Io _ _ _ hh.hd hh.hg hh.hs).v;have hpN:0<2^dF:=Nat.pow_pos (by omega);have hsm:lq (2^dF) nl dl nh dh:=⟨Nat.le_of_lt hl.bn,Nat.le_of_lt hl.bd,Nat.le_of_lt hh.bn,Nat.le_of_lt hh.bd,hl.hd,hh.hd,fun v hv=>by
  refine j3 (K:=dF+dF+dF+5) ?_ (by decide);have hp:0<2^dF*2^dF*2^dF:=Nat.mul_pos (Nat.mul_pos hpN hpN) hpN;rw [Nat.pow_add,Nat.pow_add,Nat.pow_add];omega⟩
 obtain ⟨gs,zs,ks,hqs,hAd⟩:=Ew hsm hvl hvh (xW hl hh);obtain ⟨e1,hks1,hzs1⟩:=zZ hvl hvh hqs;have m1:∀{x y:Nat},x<2^dF→y<2^dF→x*y<2^(dF+dF):=fun hx hy=>by rw [Nat.pow_add];exact Nat.mul_lt_mul_of_lt_of_le hx (Nat.le_of_lt hy) hpN
 have bks:ks<2^(dF+dF+1):=by
  have:=m1 hl.bd hh.bd;rw [Nat.pow_succ];omega
 have bzs:zs<2^(dF+dF+1):=by
  have:=m1 hl.bn hh.bd;have:=m1 hh.bn hl.bd;rw [Nat.pow_succ];omega
 obtain ⟨gm,zm,km,hqm,bzm,bkm,hSc⟩:=AJ hqs bzs bks (by decide);have e2:=Dp hqs hqm;have hmid:=FT hl hh hqs.pos hqm.pos (fun hs=>Nat.pos_of_ne_zero fun h0=>by have:=hqm.zero h0;rw [hs] at this;cases this) e1 e2;have hbm:∀{x:Nat},x<2^(dF+dF+1+2)→aK x≤100000:=fun {x} hx=>Nat.le_trans ((bu x).le_of hx) (by decide);have hno:∀{x y:Nat},x<2^dF→y<2^dF→¬Over (x*y):=fun hx hy=>dE (m1 hx hy) (by decide);have hchk:∀{g:Int}{q:Bool}{p d:Nat},kS G g q p d→∀(a:Option Addr)(n c:Nat)(b:Option Addr)(k l:Nat)(W:World),Num W a n p→Num W b k d→Calls Tryz.prog 12 #[.agg #[.bool q,.slice a n c,.slice b k l]] W fun e W'=>e = .returned (.int .i64 0)∧Below W.heap.size W W':=fun hE a n c b k l W h1 h2=>nO _ a b n c k l _ _ hE.hs hE.hd hE.hg W h1 h2;obtain ⟨c0,hc0⟩:∃c0,c0=c3 (eD md s F' r*(dh:Int)) (dU md s F' r*(dh:Int)):=⟨_,rfl⟩;have hC0:∀(W:World)(A:Option Addr)(N C:Nat)(A2:Option Addr)(N2 C2:Nat)(A3:Option Addr)(N3 C3:Nat)(A4:Option Addr)(N4 C4:Nat),Num W A N nl→Num W A2 N2 dl→Num W A3 N3 nh→Num W A4 N4 dh→Calls Tryz.prog 11 #[.agg #[.bool sl,.slice A N C,.slice A2 N2 C2],.agg #[.bool sh,.slice A3 N3 C3,.slice A4 N4 C4]] W fun e W'=>e = .returned (.tuple #[.int .i64 c0,.int .i64 0])∧Below W.heap.size W W':=fun W A N C A2 N2 C2 A3 N3 C3 A4 N4 C4 g1 g2 g3 g4=>by
  have:=nG hl.hd hl.hg hl.hs hh.hd hh.hg hh.hs (hno hl.bn hh.bd) (hno hh.bn hl.bd) W A N C A2 N2 C2 A3 N3 C3 A4 N4 C4 g1 g2 g3 g4;rw [(nA (hd:=hl.hd) (hg:=hl.hg) (hd':=hh.hd) (hg':=hh.hg) hl.eq).1,hh.eq,←hc0] at this;exact this
 have hdh':(0:Int)<(dh:Int):=by have:=hh.hd;omega
 have hz:c0 = -1∨(c0=0∧iW md s r=true∧jo md s r=true):=by
  rcases jA md s F' r with q|⟨q,q1,q2⟩
  ·have:=Int.mul_lt_mul_of_pos_right q hdh';exact Or.inl (by rw [hc0];unfold c3;rw [if_pos this])
  ·exact Or.inr ⟨by rw [hc0,q];unfold c3;rw [if_neg (Int.lt_irrefl _),if_pos rfl],q1,q2⟩
 have HSp:Hid (∀W:World,Calls Tryz.prog 7 #[.agg #[.int .i64 (E':Int),.int .i64 (F':Int)],.int .u64 (((if s then S else 0)+r:Nat):Int)] W fun e W'=>e = .returned (.tuple #[.agg #[.bool s,.int .i64 ((r/2^F':Nat):Int),.int .u64 ((r%2^F':Nat):Int)],.int .i64 0])∧Below W.heap.size W W'):=hide fun W=>kQ _ _ _ _ _ s h.fo (kW h s (by omega)) W;have go:=fun {q:Bool} {p d:Nat} (hd:0<d) (hg:Nat.gcd p d=1) (ht:q=true→0<p) (bp:aK p≤100000) (bd:aK d≤100000) (must:Bool) (hmust:dV md s F' r G q p d↔must=true)=>(hide fun (W:World) (A:Option Addr) (N C:Nat) (A2:Option Addr) (N2 C2:Nat) (hT:Tb W) (h1:Num W A N p) (h2:Num W A2 N2 d)=>uh h hB hG hm s hr hd hg ht bp bd must hmust W A N C A2 N2 C2 hT h1 h2);have HAd:Hid (∀(W:World)(A:Option Addr)(N C:Nat)(A2:Option Addr)(N2 C2:Nat)(A3:Option Addr)(N3 C3:Nat)(A4:Option Addr)(N4 C4:Nat),Num W A N nl→Num W A2 N2 dl→Num W A3 N3 nh→Num W A4 N4 dh→Calls Tryz.prog 9 #[.agg #[.bool sl,.slice A N C,.slice A2 N2 C2],.agg #[.bool sh,.slice A3 N3 C3,.slice A4 N4 C4]] W fun en W'=>(∃A N C A' N' C',en = .returned (.tuple #[.agg #[.bool gs,.slice A N C,.slice A' N' C'],.int .i64 0])∧Mine W' W.heap.size A N C zs∧Mine W' W.heap.size A' N' C' ks)∧Below W.heap.size W W'):=hide fun W A N C A2 N2 C2 A3 N3 C3 A4 N4 C4 g1 g2 g3 g4=>hAd W A N C A2 N2 C2 A3 N3 C3 A4 N4 C4 g1 g2 g3 g4 (hchk hl A N C A2 N2 C2) (hchk hh A3 N3 C3 A4 N4 C4);have hmz:gm=true→0<zm:=fun hs=>Nat.pos_of_ne_zero fun h0=>by have:=hqm.zero h0;rw [hs] at this;cases this
 have main:∀(rn rd:Nat)(ca cb ek:Int)(sb kb inn:Bool),(kb=false→Num w a n rn∧Num w a' k rd)→(∀W:World,Below w.heap.size w W→Calls Tryz.prog 12 #[.agg #[.bool t,.slice a n c,.slice a' k l]] W fun e W'=>e = .returned (.int .i64 ek)∧Below W.heap.size W W') →
   (∀W:World,Calls Tryz.prog 13 #[.agg #[.bool t,.slice a n c,.slice a' k l]] W fun e W'=>e = .returned (.bool sb)∧Below W.heap.size W W') →
   (∀(W:World)(A:Option Addr)(N C:Nat)(A2:Option Addr)(N2 C2:Nat)(A3:Option Addr)(N3 C3:Nat)(A4:Option Addr)(N4 C4:Nat),kb=false→Num W A N nl→Num W A2 N2 dl→Num W A3 N3 rn→Num W A4 N4 rd→Calls Tryz.prog 11 #[.agg #[.bool sl,.slice A N C,.slice A2 N2 C2],.agg #[.bool t,.slice A3 N3 C3,.slice A4 N4 C4]] W fun e W'=>e = .returned (.tuple #[.int .i64 ca,.int .i64 0])∧Below W.heap.size W W') →
   (∀(W:World)(A:Option Addr)(N C:Nat)(A2:Option Addr)(N2 C2:Nat)(A3:Option Addr)(N3 C3:Nat)(A4:Option Addr)(N4 C4:Nat),kb=false→Num W A N rn→Num W A2 N2 rd→Num W A3 N3 nh→Num W A4 N4 dh→Calls Tryz.prog 11 #[.agg #[.bool t,.slice A N C,.slice A2 N2 C2],.agg #[.bool sh,.slice A3 N3 C3,.slice A4 N4 C4]] W fun e W'=>e = .returned (.tuple #[.int .i64 cb,.int .i64 0])∧Below W.heap.size W W') →
   (∀(W:World)(A:Option Addr)(N C:Nat)(A2:Option Addr)(N2 C2:Nat),kb=false→Tb W→Num W A N rn→Num W A2 N2 rd→Calls Tryz.prog 8 #[.agg #[.int .i64 (E':Int),.int .i64 (F':Int)],.int .u64 (((if s then S else 0)+r:Nat):Int),.int .u8 (md:Int),.bool s,.agg #[.bool t,.slice A N C,.slice A2 N2 C2],.bool inn] W fun e W'=>e = .returned (.bool true)∧Below W.heap.size W W') →
   ((ek≠0∧kb=true)∨(ek=0∧sb=false∧kb=true)∨(ek=0∧sb=true∧kb=false))→(kb=false→(ca=1∧inn=false)∨(ca=0∧iW md s r=false∧inn=false)∨(ca=(-1)∧cb=(-1)∧inn=true)∨(ca=(-1)∧cb=0∧jo md s r=true∧inn=true)∨(ca=(-1)∧cb=0∧jo md s r=false∧inn=false)∨(ca=(-1)∧cb=1∧inn=false)∨(ca=0∧iW md s r=true∧cb=(-1)∧inn=true)∨(ca=0∧iW md s r=true∧cb=0∧jo md s r=true∧inn=true)∨(ca=0∧iW md s r=true∧cb=0∧jo md s r=false∧inn=false)∨(ca=0∧iW md s r=true∧cb=1∧inn=false)) →
   Calls Tryz.prog 3 #[.agg #[.int .i64 (E':Int),.int .i64 (F':Int)],.int .u64 (((if s then S else 0)+r:Nat):Int),.int .u8 (md:Int),.agg #[.bool t,.slice a n c,.slice a' k l]] w fun e w'=>e = .returned (.bool true)∧Below w.heap.size w w':=by
  intro rn rd ca cb ek sb kb inn q1 q2 q3 q4 q5 q6 q7 q8;exact Ed w _ _ _ _ t a n c a' k l rn rd sl sh (iW md s r) (jo md s r) nl dl nh dh s _ _ gs zs ks gm zm km c0 ca cb ek sb kb inn hT hN HA (hide q1) (hide hR) HSp (go hl.hd hl.hg hl.hs (jQ hl.bn) (jQ hl.bd) _ (uZ hl.hd hl.hs hl.eq)) (go hh.hd hh.hg hh.hs (jQ hh.bn) (jQ hh.bd) _ (uX hh.hd hh.hs hh.eq)) HAd (hide hSc) (hide hC0) (go hqm.pos hqm.co hmz (hbm bzm) (hbm bkm) true (by simp [hmid])) (hide q2) (hide q3) (hide q4) (hide q5) (hide q6) (hide hz) (hide q7) (hide q8)
 rcases Ho t a a' n c k l xs ys w hn hnb hlx hw hk hkb hly hwy with hno'|⟨p,d,gN,gD,hd,hg,ht,hC⟩
 ·have hsh:∃sb:Bool,∀W:World,Calls Tryz.prog 13 #[.agg #[.bool t,.slice a n c,.slice a' k l]] W fun e W'=>e = .returned (.bool sb)∧Below W.heap.size W W':=by
   by_cases h1:n≤200
   ·by_cases h2:k≤200
    ·exact ⟨true,fun W=>vR W t a n c a' k l h1 h2⟩
    ·exact ⟨false,fun W=>u6 W t a n c a' k l h1 (by omega)⟩
   ·exact ⟨false,fun W=>vH W t a n c a' k l (by omega)⟩
  obtain ⟨sb,hsb⟩:=hsh;exact main 0 0 0 0 20 sb true false (fun e=>by cases e) hno' hsb (fun W A N C A2 N2 C2 A3 N3 C3 A4 N4 C4 e=>by cases e) (fun W A N C A2 N2 C2 A3 N3 C3 A4 N4 C4 e=>by cases e) (fun W A N C A2 N2 C2 e=>by cases e) (Or.inl ⟨by decide,rfl⟩) (fun e=>by cases e)
 have hC':∀W:World,Below w.heap.size w W→Calls Tryz.prog 12 #[.agg #[.bool t,.slice a n c,.slice a' k l]] W fun e W'=>e = .returned (.int .i64 0)∧Below W.heap.size W W':=fun W hb=>hC W (gN.kept hb) (gD.kept hb);by_cases hsh:n≤200∧k≤200
 ·obtain ⟨b1,b2⟩:aK p≤6400∧aK d≤6400:=⟨sV gN hsh.1,sV gD hsh.2⟩;obtain ⟨Q,hQ⟩:∃Q,Q=6400:=⟨_,rfl⟩;have p1:p<2^Q:=pQ (by omega);have d1:d<2^Q:=pQ (by omega);have hQ2:dF+Q≤524288:=by rw [hQ];decide
  have hnoA:∀{x y:Nat},x<2^dF→y<2^Q→¬Over (x*y)∧¬Over (y*x):=fun {x y} hx hy=>by
   have:x*y<2^(dF+Q):=by rw [Nat.pow_add];exact Nat.mul_lt_mul_of_lt_of_le hx (Nat.le_of_lt hy) (Nat.pow_pos (by omega))
   exact ⟨dE this hQ2,by rw [Nat.mul_comm];exact dE this hQ2⟩
  obtain ⟨inn,hinn⟩:∃inn:Bool,dV md s F' r G t p d↔inn=true:=by
   by_cases hq:dV md s F' r G t p d
   ·exact ⟨true,by simp [hq]⟩
   ·exact ⟨false,by simp [hq]⟩
  have ha:=rX (eD md s F' r*(d:Int)) (Rm.sgn t p*((2^(G+1):Nat):Int));have hb:=rX (Rm.sgn t p*((2^(G+1):Nat):Int)) (dU md s F' r*(d:Int));have hw9:=BA ha hb ((oh md s F' r G ht).trans hinn);refine main p d _ _ 0 true false inn (fun _=>⟨gN,gD⟩) hC' (fun W=>vR W t a n c a' k l hsh.1 hsh.2) (fun W A N C A2 N2 C2 A3 N3 C3 A4 N4 C4 _ g1 g2 g3 g4=>?_) (fun W A N C A2 N2 C2 A3 N3 C3 A4 N4 C4 _ g1 g2 g3 g4=>?_) (fun W A N C A2 N2 C2 _ hT g1 g2=>uh h hB hG hm s hr hd hg ht (by omega) (by omega) inn hinn W A N C A2 N2 C2 hT g1 g2) (Or.inr (Or.inr ⟨rfl,rfl,rfl⟩)) (fun _=>hw9)
  ·have:=nG hl.hd hl.hg hl.hs hd hg ht (hnoA hl.bn d1).1 (hnoA hl.bd p1).2 W A N C A2 N2 C2 A3 N3 C3 A4 N4 C4 g1 g2 g3 g4;rw [(nA (hd:=hl.hd) (hg:=hl.hg) (hd':=hd) (hg':=hg) hl.eq).1] at this;exact this
  ·have:=nG hd hg ht hh.hd hh.hg hh.hs (hnoA hh.bd p1).2 (hnoA hh.bn d1).1 W A N C A2 N2 C2 A3 N3 C3 A4 N4 C4 g1 g2 g3 g4;rw [(nA (hd:=hh.hd) (hg:=hh.hg) (hd':=hd) (hg':=hg) hh.eq).2] at this;exact this
 ·have hsb:∀W:World,Calls Tryz.prog 13 #[.agg #[.bool t,.slice a n c,.slice a' k l]] W fun e W'=>e = .returned (.bool false)∧Below W.heap.size W W':=by
   by_cases h1:n≤200
   ·exact fun W=>u6 W t a n c a' k l h1 (by omega)
   ·exact fun W=>vH W t a n c a' k l (by omega)
  exact main p d 0 0 0 false true false (fun e=>by cases e) hC' hsb (fun W A N C A2 N2 C2 A3 N3 C3 A4 N4 C4 e=>by cases e) (fun W A N C A2 N2 C2 A3 N3 C3 A4 N4 C4 e=>by cases e) (fun W A N C A2 N2 C2 e=>by cases e) (Or.inr (Or.inl ⟨rfl,rfl,rfl⟩)) (fun e=>by cases e)
end Go.Proofs.YtaidedkpfnidpaaGreatDoor
