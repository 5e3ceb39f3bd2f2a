/- Of what NearRoundsRow stands on: RdAny SRdB SRdC SMono SMono2 SMono3 RsMath SNames RsWorth SKey RSame RcFarW. -/
import Derived.Test.YtaidedkpfnidpaaGreatDoorPbb
import Derived.Test.YtaidedkpfnidpaaGreatDoorPbd
namespace Go.Proofs.YtaidedkpfnidpaaGreatDoor
open Go.RowKit
set_option maxHeartbeats 2000000
set_option maxRecDepth 20000
def aK(m:Nat):Nat:=if m=0 then 0 else m.log2+1
theorem bu(m:Nat):Bl m (aK m):=by
 unfold aK;by_cases h:m=0
 ·rw [if_pos h,h];exact ⟨by decide,Or.inl rfl⟩
 ·rw [if_neg h];refine ⟨Nat.lt_log2_self,Or.inr ?_⟩;rw [Nat.add_sub_cancel];exact Nat.log2_self_le h
theorem Bl.le_of{m k n:Nat}(h:Bl m k)(hm:m<2^n):k≤n:=by
 rcases h.2 with h0|h1
 ·omega
 ·exact Nat.le_of_not_lt fun hlt=>by
   have:2^n≤2^(k-1):=aJ (by omega);omega
theorem Bl.gt_of{m k n:Nat}(h:Bl m k)(hm:2^n≤m):n<k:=by
 refine Nat.lt_of_not_le fun hle=>?_;have:=aJ hle;have:=h.1;omega
def dX(md:Nat)(s:Bool)(m:Nat)(x t:Int):Nat:=if t≤x then m*2^(x-t).toNat else jW md s m (t-x).toNat
def bA(B F k:Nat)(x:Int):Int:=max (1-(B:Int)-(F:Int)) (x+(k:Int)-1-(F:Int))
def dz(B F md:Nat)(s:Bool)(m k:Nat)(x:Int):Nat:=(bA B F k x-(1-(B:Int)-(F:Int))).toNat*2^F+dX md s m x (bA B F k x)
def kL(F md:Nat)(s:Bool)(m k:Nat)(x:Int):Int:=(aK (dX md s m x (x+(k:Int)-1-(F:Int))):Int)-1+(x+(k:Int)-1-(F:Int))
def dG(B F I md:Nat)(s:Bool)(m k:Nat)(x:Int):Nat:=if I≤dz B F md s m k x then 3 else if bA B F k x≤x then 0 else if kL F md s m k x<1-(B:Int) then 5 else 1
def fD(S I md:Nat)(s:Bool)(r:Nat):Nat:=(if s then S else 0)+(if r<I then r else if bN md s false 1 then I else I-1)
theorem cut_le{md:Nat}{s:Bool}{m dr n:Nat}(h:m/2^dr<2^n):jW md s m dr≤2^n:=by
 unfold jW;split<;>omega
theorem F7{md:Nat}{s:Bool}{m dr n:Nat}(h:2^n≤m/2^dr):2^n≤jW md s m dr:=by
 unfold jW;omega
theorem kH{md:Nat}{s:Bool}{m k F:Nat}{x t:Int}(hk:Bl m k)(h0:0<m)(ht:x+(k:Int)-1-(F:Int)≤t):dX md s m x t≤2^(F+1):=by
 have hk1:=hk.1;have hkp:0<k:=by
  rcases Nat.eq_zero_or_pos k with h|h
  ·rw [h] at hk1;simp at hk1;omega
  ·exact h
 unfold dX;by_cases hx:t≤x
 ·rw [if_pos hx];obtain ⟨j,hj⟩:∃j,(x-t).toNat=j:=⟨_,rfl⟩;rw [hj];have hle:k+j≤F+1:=by omega
  have h1:m*2^j≤2^k*2^j:=Nat.mul_le_mul_right _ (by omega);rw [←Nat.pow_add] at h1;exact Nat.le_trans h1 (aJ hle)
 ·rw [if_neg hx];obtain ⟨j,hj⟩:∃j,(t-x).toNat=j:=⟨_,rfl⟩;rw [hj];refine cut_le ?_;rw [Nat.div_lt_iff_lt_mul (aL _),←Nat.pow_add];exact Nat.lt_of_lt_of_le hk1 (aJ (by omega))
theorem vN{md:Nat}{s:Bool}{m k F:Nat}{x t:Int}(hk:Bl m k)(h0:0<m)(ht:x+(k:Int)-1-(F:Int)=t):2^F≤dX md s m x t:=by
 have hk1:=hk.1;have hkp:0<k:=by
  rcases Nat.eq_zero_or_pos k with h|h
  ·rw [h] at hk1;simp at hk1;omega
  ·exact h
 have hge:2^(k-1)≤m:=by rcases hk.2 with h|h;omega;exact h
 unfold dX;by_cases hx:t≤x
 ·rw [if_pos hx];obtain ⟨j,hj⟩:∃j,(x-t).toNat=j:=⟨_,rfl⟩;rw [hj];have h1:2^(k-1)*2^j≤m*2^j:=Nat.mul_le_mul_right _ hge;rw [←Nat.pow_add] at h1;exact Nat.le_trans (aJ (by omega)) h1
 ·rw [if_neg hx];obtain ⟨j,hj⟩:∃j,(t-x).toNat=j:=⟨_,rfl⟩;rw [hj];refine F7 ?_;rw [Nat.le_div_iff_mul_le (aL _),←Nat.pow_add];exact Nat.le_trans (aJ (by omega)) hge
theorem uQ(s:Bool)(a:Option Addr)(n cap m md F k:Nat)(x t:Int)(w:World)(h:Num w a n m)(hcap:n≤cap)(hcap2:cap≤9223372036854775807)(hm:md≤4)(hk:Bl m k)(h0:0<m)(hF:F≤52)(hx:-2147483648≤x∧x≤2147483648)(ht2:-2147483648≤t∧t≤2147483648)(ht:x+(k:Int)-1-(F:Int)≤t) :
  Calls Tryz.prog 137 #[.agg #[.bool s,.slice a n cap,.int .i64 x],.int .i64 t,.int .u8 (md:Int)] w fun e w'=>e = .returned (.tuple #[.int .u64 (dX md s m x t:Int),.bool (decide (t≤x))])∧Below w.heap.size w w':=by
 have hk1:=hk.1;have hkp:0<k:=by
  rcases Nat.eq_zero_or_pos k with h|h
  ·rw [h] at hk1;simp at hk1;omega
  ·exact h
 have hle:=kH (md:=md) (s:=s) hk h0 ht;have hp53:2^(F+1)≤2^53:=aJ (by omega);have e53:(2:Nat)^53=9007199254740992:=by decide
 unfold dX at *;by_cases hxt:t≤x
 ·rw [if_pos hxt] at hle ⊢;rw [decide_eq_true hxt];obtain ⟨j,hj⟩:∃j,(x-t).toNat=j:=⟨_,rfl⟩;rw [hj] at hle ⊢;have hk53:m<2^53:=Nat.lt_of_lt_of_le hk1 (aJ (by omega));have:=yC s a n cap m j md x w h (by omega) (by omega) (by omega);rw [show x-(j:Int)=t from by omega] at this;exact this
 ·rw [if_neg hxt] at hle ⊢;rw [decide_eq_false hxt];obtain ⟨j,hj⟩:∃j,(t-x).toNat=j:=⟨_,rfl⟩;rw [hj] at hle ⊢;have hq:m/2^j<9223372036854775808:=by
   have:m/2^j≤jW md s m j:=by unfold jW;omega
   omega
  have:=Bj s a n cap m j md x w h hcap hcap2 hm (by omega) (by omega) hq;rw [show x+(j:Int)=t from by omega] at this;exact this
theorem I1{E B:Nat}(hE:2≤E)(HB:B=2^(E-1)-1):2*B+1=2^E-1∧1≤B:=by
 obtain ⟨e,rfl⟩:∃e,E=e+2:=⟨E-2,by omega⟩;rw [show e+2-1=e+1 from by omega] at HB;have h1:2^(e+2)=2*2^(e+1):=by rw [Nat.pow_succ,Nat.mul_comm]
 have h2:2^(e+1)=2*2^e:=by rw [Nat.pow_succ,Nat.mul_comm]
 have:=aL e;omega
theorem Bw{B F N kN I:Nat}{t:Int}(hkN:Bl N kN)(hN:N≤2^(F+1))(hlo:t=1-(B:Int)-(F:Int)∨(1-(B:Int)-(F:Int)<t∧2^F≤N))(hB:1≤B)(hI:I=(2*B+1)*2^F) :
  (B:Int)<(kN:Int)-1+t↔I≤(t-(1-(B:Int)-(F:Int))).toNat*2^F+N:=by
 obtain ⟨st,hst⟩:∃st,(t-(1-(B:Int)-(F:Int))).toNat=st:=⟨_,rfl⟩;rw [hst];have hts:t=(st:Int)+(1-(B:Int)-(F:Int)):=by omega
 have p0:=aL F;have p1:2^(F+1)=2*2^F:=by rw [Nat.pow_succ,Nat.mul_comm]
 have kle:kN≤F+2:=hkN.le_of (by rw [show F+2=F+1+1 from rfl,Nat.pow_succ];have:=aL (F+1);omega);obtain ⟨P,hP⟩:∃P,P=2^F:=⟨_,rfl⟩;rw [p1] at hN;rw [←hP] at hN hlo p0 hI ⊢;by_cases c0:N<P
 ·have hz:st=0:=by rcases hlo with h|h<;>omega
  have k0:kN≤F:=hkN.le_of (by rw [←hP];exact c0);subst hz;constructor
  ·intro h;omega
  ·intro h;exfalso;have:P≤(2*B+1)*P:=Nat.le_mul_of_pos_left _ (by omega);omega
 ·have k1:F<kN:=hkN.gt_of (by rw [←hP];omega);by_cases c1:N<2*P
  ·have k2:kN=F+1:=by
    have:=hkN.le_of (n:=F+1) (by rw [p1,←hP];exact c1);omega
   constructor
   ·intro h;have hs:2*B≤st:=by omega
    have:=Nat.mul_le_mul_right P hs;rw [hI,Nat.add_mul,Nat.one_mul];omega
   ·intro h;have hs:2*B≤st:=by
     refine Nat.le_of_not_lt fun hc=>?_;have:=Nat.mul_le_mul_right P (show st+1≤2*B from hc);rw [Nat.add_mul,Nat.one_mul] at this;rw [hI,Nat.add_mul,Nat.one_mul] at h;omega
    omega
  ·have k2:kN=F+2:=by
    have:=hkN.gt_of (n:=F+1) (by rw [p1,←hP];omega);omega
   obtain ⟨Bm,rfl⟩:∃Bm,B=Bm+1:=⟨B-1,by omega⟩;constructor
   ·intro h;have hs:2*Bm+1≤st:=by omega
    have h2:=Nat.mul_le_mul_right P hs;rw [show 2*(Bm+1)+1=2*Bm+1+2 from by omega,Nat.add_mul] at hI;omega
   ·intro h;have hs:2*Bm+1≤st:=by
     refine Nat.le_of_not_lt fun hc=>?_;have h2:=Nat.mul_le_mul_right P (show st+1≤2*Bm+1 from hc);rw [Nat.add_mul,Nat.one_mul] at h2;rw [show 2*(Bm+1)+1=2*Bm+1+2 from by omega,Nat.add_mul] at hI;omega
    omega
theorem Num.bl{w:World}{a:Option Addr}{n m k:Nat}(h:Num w a n m)(hk:Bl m k):k≤524288:=by
 have h1:=h.lt;rw [show (4294967296:Nat)^Pl.top=2^(32*Pl.top) from by rw [Nat.pow_mul]] at h1;have:=hk.le_of h1;have:=Pl.top_eq;omega
theorem jX{E F S I B md:Nat}(h:Fm E F S I)(hB:B=2^(E-1)-1)(hm:md≤4)(ng s:Bool)(a:Option Addr)(n cap m k:Nat)(x:Int)(W:World)(Bs:Nat)(g:Mine W Bs a n cap m)(hA:m%2=1∧-1073741824≤x∧x≤1073741824)(hk:Bl m k) :
  Calls Tryz.prog 108 #[.agg #[.int .i64 E,.int .i64 F],.agg #[.bool s,.slice a n cap,.int .i64 x],.bool ng,.int .u8 (md:Int)] W fun e w'=>e = .returned (.tuple #[.int .u64 (fD S I md s (dz B F md s m k x):Int),.int .u8 (dG B F I md s m k x:Int),.int .i64 0])∧Below W.heap.size W w':=by
 obtain ⟨hc1,hc2⟩:=lF g;have h0:0<m:=by omega
 have hn:0<n:=by have:=g.num.zero;omega
 have hk2:=g.num.bl hk;have hF:=h.fo.f52;have hF1:=h.fo.f1;have hE:=h.fo.e2;obtain ⟨b2,b1⟩:=I1 hE hB;have hI:I=(2*B+1)*2^F:=by rw [b2];exact h.hI
 have hB10:B≤1023:=by
  have:=aJ (n:=E-1) (k:=10) (by have:=h.fo.e11;omega);have e10:(2:Nat)^10=1024:=by decide
  omega
 obtain ⟨t,ht⟩:∃t,bA B F k x=t:=⟨_,rfl⟩;have htd:=ht;unfold bA at htd;obtain ⟨N,hN⟩:∃N,dX md s m x t=N:=⟨_,rfl⟩;have hNle:N≤2^(F+1):=by rw [←hN];exact kH hk h0 (by omega)
 have hlo:t=1-(B:Int)-(F:Int)∨(1-(B:Int)-(F:Int)<t∧2^F≤N):=by
  by_cases c:t=1-(B:Int)-(F:Int)
  ·exact Or.inl c
  ·exact Or.inr ⟨by omega,by rw [←hN];exact vN hk h0 (by omega)⟩
 have hkN:=bu N;have hiff:=Bw hkN hNle hlo b1 hI;have hp53:2^(F+1)≤2^53:=aJ (by omega);have e53:(2:Nat)^53=9007199254740992:=by decide
 have hkN2:aK N≤64:=hkN.le_of (Nat.lt_of_le_of_lt hNle (Nat.lt_of_le_of_lt hp53 (by decide)));have HC:∀W:World,Num W a n m→Calls Tryz.prog 137 #[.agg #[.bool s,.slice a n cap,.int .i64 x],.int .i64 t,.int .u8 (md:Int)] W fun e w'=>e = .returned (.tuple #[.int .u64 N,.bool (decide (t≤x))])∧Below W.heap.size W w':=fun W g=>by
  have:=uQ s a n cap m md F k x t W g hc1 hc2 hm hk h0 hF (by omega) (by omega) (by omega);rw [hN] at this;exact this
 have hr:dz B F md s m k x=(t-(1-(B:Int)-(F:Int))).toNat*2^F+N:=by unfold dz;rw [ht,hN]
 obtain ⟨st,hst⟩:∃st,(t-(1-(B:Int)-(F:Int))).toNat=st:=⟨_,rfl⟩;rw [hst] at hr hiff;unfold fD dG;rw [hr,ht];by_cases hov:I≤st*2^F+N
 ·rw [if_neg (show ¬st*2^F+N<I by omega),if_pos hov];have hov2:=hiff.2 hov;have hlt:=h.lt;have hfar:=mO md s false 1 hm (Or.inr (Or.inr rfl));by_cases hf:bN md s false 1=true
  ·rw [if_pos hf];have hbt:Bt E F ((if s then S else 0)+I) s (2^E-1) 0:=⟨aL _,by have:=aL E;omega,by rw [←h.hS,←h.hI];cases s<;>simp⟩;refine lG E F B md ng s a n cap m k x t N (aK N) (decide (t≤x)) _ W h.fo (hide hB) g.num hn hk hk2 hA.2 htd (hide HC) (by omega) hkN hkN2 hov2 (hide fun W=>?_);exact BF E F _ (2^E-1) md s h.fo W hbt (hide rfl) (hide fun W=>by have:=hfar W;rw [hf] at this;exact this)
  ·rw [if_neg hf];have hf':bN md s false 1=false:=by simpa using hf
   have hp:=aL F;have hE4:2^2≤2^E:=aJ hE;have hbt:Bt E F ((if s then S else 0)+(I-1)) s (2^E-2) (2^F-1):=by
    refine ⟨by omega,by omega,?_⟩;have e1:(2^E-2)*2^F+(2^F-1)=I-1:=by
     rw [h.hI];obtain ⟨q,hq⟩:∃q,2^E=q+2:=⟨2^E-2,by omega⟩;rw [hq,show q+2-2=q from by omega,show q+2-1=q+1 from by omega,Nat.add_mul,Nat.one_mul];omega
    rw [←h.hS,e1];cases s<;>simp
   refine lG E F B md ng s a n cap m k x t N (aK N) (decide (t≤x)) _ W h.fo (hide hB) g.num hn hk hk2 hA.2 htd (hide HC) (by omega) hkN hkN2 hov2 (hide fun W=>?_);exact CR E F _ (2^E-2) (2^F-1) md s h.fo W hbt (hide (by omega)) (hide rfl) (hide fun W=>by have:=hfar W;rw [hf'] at this;exact this)
 ·rw [if_pos (show st*2^F+N<I by omega),if_neg hov];have hov2:(aK N:Int)-1+t≤(B:Int):=by
   refine Int.not_lt.1 fun hc=>hov (hiff.1 hc)
  have hp:=aL F;have p1:2^(F+1)=2*2^F:=by rw [Nat.pow_succ,Nat.mul_comm]
  obtain ⟨hd,hhd⟩:∃hd,hd=N/2^F:=⟨_,rfl⟩;have hdm:=Nat.div_add_mod N (2^F);have hml:=Nat.mod_lt N hp;rw [←hhd,Nat.mul_comm] at hdm;have hd2:hd≤2:=by
   rw [hhd];exact Nat.le_of_lt_succ ((Nat.div_lt_iff_lt_mul hp).2 (by omega))
  have hsum:(st+hd)*2^F+N%2^F=st*2^F+N:=by rw [Nat.add_mul];omega
  have hlt2:st+hd<2^E-1:=by
   refine Nat.lt_of_not_le fun hc=>?_;have:=Nat.mul_le_mul_right (2^F) hc;rw [←h.hI] at this;omega
  have hE11:2^E≤2^11:=aJ h.fo.e11;have e11:(2:Nat)^11=2048:=by decide
  have hfr:N%2^F=N-hd*2^F:=by omega
  have hbt:Bt E F ((if s then S else 0)+(st*2^F+N)) s (st+hd) (N%2^F):=⟨hml,by omega,by rw [hsum,←h.hS];cases s<;>simp⟩;have HS9:Hid (t-(1-(B:Int)-(F:Int))=(st:Int)):=hide (by omega);by_cases hw:t≤x
  ·rw [if_pos hw];rw [decide_eq_true hw] at HC;exact qG E F B md ng s a n cap m k x t N (aK N) _ st hd (N%2^F) W h.fo (hide hB) g.num hn hk hk2 hA.2 htd (hide HC) (by omega) hkN hkN2 hov2 HS9 (by omega) hhd hd2 hfr hbt
  ·rw [if_neg hw];rw [decide_eq_false hw] at HC;obtain ⟨N2,hN2⟩:∃N2,dX md s m x (x+(k:Int)-1-(F:Int))=N2:=⟨_,rfl⟩;have hN2le:N2≤2^(F+1):=by rw [←hN2];exact kH hk h0 (Int.le_refl _)
   have HM:∀W:World,Num W a n m→Calls Tryz.prog 140 #[.agg #[.bool s,.slice a n cap,.int .i64 x],.int .i64 (x+(k:Int)-1-(F:Int)),.int .i64 (1-(B:Int)),.int .u8 (md:Int)] W fun e w'=>e = .returned (.bool (decide ((aK N2:Int)-1+(x+(k:Int)-1-(F:Int))<1-(B:Int))))∧Below W.heap.size W w':=fun W g=>by
    refine BG s a n cap x _ _ md N2 (aK N2) (decide (x+(k:Int)-1-(F:Int)≤x)) W (hide fun W' hb=>?_) (by omega) (bu N2) ((bu N2).le_of (Nat.lt_of_le_of_lt hN2le (Nat.lt_of_le_of_lt hp53 (by decide)))) (by omega);have:=uQ s a n cap m md F k x (x+(k:Int)-1-(F:Int)) W' (g.kept hb) hc1 hc2 hm hk h0 hF (by omega) (by omega) (Int.le_refl _);rw [hN2] at this;exact this
   have hfree:kL F md s m k x=(aK N2:Int)-1+(x+(k:Int)-1-(F:Int)):=by unfold kL;rw [hN2]
   rw [hfree];by_cases hs:(aK N2:Int)-1+(x+(k:Int)-1-(F:Int))<1-(B:Int)
   ·rw [if_pos hs];rw [decide_eq_true hs] at HM;exact qI E F B md ng s a n cap m k x t N (aK N) _ st hd (N%2^F) W h.fo (hide hB) g.num hn hk hk2 hA.2 htd (hide HC) (by omega) hkN hkN2 hov2 HS9 (by omega) hhd hd2 hfr hbt (hide HM)
   ·rw [if_neg hs];rw [decide_eq_false hs] at HM;exact qL E F B md ng s a n cap m k x t N (aK N) _ st hd (N%2^F) W h.fo (hide hB) g.num hn hk hk2 hA.2 htd (hide HC) (by omega) hkN hkN2 hov2 HS9 (by omega) hhd hd2 hfr hbt (hide HM)
theorem uu{E F S I B md:Nat}(h:Fm E F S I)(hB:B=2^(E-1)-1)(hm:md≤4)(ng s:Bool)(a:Option Addr)(n cap m k:Nat)(x:Int)(W:World)(Bs:Nat)(g:Mine W Bs a n cap m)(hA:m%2=1∧-1073741824≤x∧x≤1073741824)(hk:Bl m k) :
  Calls Tryz.prog 65 #[.agg #[.int .i64 E,.int .i64 F],.agg #[.bool s,.slice a n cap,.int .i64 x],.bool ng,.int .u8 (md:Int)] W fun e w'=>e = .returned (.tuple #[.int .u64 (fD S I md s (dz B F md s m k x):Int),.int .u8 (dG B F I md s m k x:Int),.int .i64 0])∧Below W.heap.size W w':=
 ou E F md h.fo hm s a n cap m x ng _ _ W Bs g (hide fun W g=>iK s a n cap m x W ⟨g,Or.inr hA⟩) (hide fun W g=>jX h hB hm ng s a n cap m k x W Bs g hA hk)
theorem zO(w:World)(s:Bool)(a b:Option Addr)(n c k l x y i j:Nat)(sz e X:Int)(v M:Nat)(hT:Tb w)(h1:Num w a n x)(h2:Num w b k y)(hx:x≠0)(hi:i≤524288)(hj:j≤524288)(hz:(i:Int)-(j:Int)=sz)(hz1:-4096≤sz)(hz2:sz≤4096)(HB1:Hid (eF x i))(HB2:Hid (eF y j))(HP:Hid xE)(HF:Hid (∀(W:World) (p:Nat) (A:Option Addr) (N C:Nat) (A':Option Addr) (N' C':Nat),Rn W p 0→Num W a n x→Num W A N 1→Num W b k y→Num W A' N' 1→Calls Tryz.prog 145 #[.agg #[.slice a n c,.slice A N C,.slice b k l,.slice A' N' C',.int .i64 0],.pointer (some ⟨p,0,none⟩)] W fun en W'=>(∃A N C,en = .returned (.tuple #[.agg #[.slice A N C],.int .i64 e])∧Mine W' W.heap.size A N C v)∧Below W.heap.size W W'))(HK:Hid (∀(W:World) (B:Nat) (A:Option Addr) (N C:Nat),Tb W→Mine W B A N C v→Calls Tryz.prog 53 #[.bool s,.agg #[.slice A N C],.int .i64 e] W fun en W'=>(∃A N C,en = .returned (.tuple #[.agg #[.bool s,.slice A N C,.int .i64 X],.int .i64 0])∧Mine W' W.heap.size A N C M)∧Below W.heap.size W W')) :
  Calls Tryz.prog 111 #[.agg #[.bool s,.slice a n c,.slice b k l],.int .i64 0] w fun en w'=>(∃A N C,en = .returned (.tuple #[.agg #[.bool s,.slice A N C,.int .i64 X],.int .i64 0])∧Mine w' w.heap.size A N C M)∧Below w.heap.size w w':=by
 refine ax Tryz.func111 rfl (by kernel_rfl) fun T hK=>?_;replace hK:Kn T _ [(0,.agg #[.bool s,.slice a n c,.slice b k l]),(1,.int .i64 0)]:=hK;have hS:=Fb.begin w;have hG:au [gN a n x,gN b k y] w:=⟨h1,h2,trivial⟩;refine wq hS hG hK (fun p1=>[.n 2 #[.bool s,.slice a n c,.slice b k l] 29,.n 4 #[.bool false,nJ,vJ 0] 58,.v 5 (vJ 0)]) (fun p1=>[(1,vJ 0),(2,pT (p1 0).N 0),(4,pT (p1 1).N 0),(5,vJ 0)]) (fun p1=>?_) (fun p1 W1 T hF hK=>?_)
 ·iterate 2 refine aI ?_
  refine af ?_;exact ae
 replace hS:=ag.fc hS hF [1000,1001] [⟨(p1 0).N,#[.bool s,.slice a n c,.slice b k l],29,true⟩,⟨(p1 1).N,#[.bool false,nJ,vJ 0],58,true⟩];replace hG:=hF.gx;clear hF;refine wp_seq ?_;refine wq hS hG hK (fun p2=>[.v 10 (pT (p1 0).N 1),.l 11 (.agg #[.slice a n c]) 0 1,.c (some 12) (cV (.bool false))]) (fun p2=>[(1,vJ 0),(2,pT (p1 0).N 0),(4,pT (p1 1).N 0),(5,vJ 0),(12,.bool false)]) (fun p2=>?_) (fun p2 W2 T hF hK=>?_)
 ·refine af ?_;refine aj ?_;refine av (fun W cx=>aD (ig a _ c _ _ (Num.noz (cx.G.1) hx))) ?_;exact ae
 obtain ⟨hS,hG⟩:=ag.fg hS hF;clear hF;refine wp_cond_false (hK.ew 12) (wp_skip (aB ?_));refine wq hS hG hK (fun p3=>[.n 6 #[vJ 0] 188]) (fun p3=>[(1,vJ 0),(2,pT (p1 0).N 0),(4,pT (p1 1).N 0),(5,vJ 0),(6,pT (p3 0).N 0),(12,.bool false)]) (fun p3=>?_) (fun p3 W3 T hF hK=>?_)
 ·refine aI ?_;exact ae
 replace hS:=ag.fc hS hF [0,1,1000] [⟨(p1 0).N,#[.bool s,.slice a n c,.slice b k l],29,true⟩,⟨(p1 1).N,#[.bool false,nJ,vJ 0],58,true⟩,⟨(p3 0).N,#[vJ 0],188,true⟩];replace hG:=hF.gx;clear hF;refine wq hS hG hK (fun p4=>[.l 14 (.agg #[.bool s,.slice a n c,.slice b k l]) 0 0,.v 15 (vJ 0),.c (some 16) (cV (vJ sz)),.v 7 (vJ sz)]) (fun p4=>[(1,vJ 0),(2,pT (p1 0).N 0),(4,pT (p1 1).N 0),(5,vJ 0),(6,pT (p3 0).N 0),(7,vJ sz),(12,.bool false)]) (fun p4=>?_) (fun p4 W4 T hF hK=>?_)
 ·refine aj ?_;refine af ?_;refine av (fun W cx=>aD (nI _ _ s a b n c k l x y i j sz ⟨_,_,cx.B 2 _ rfl (by kernel_rfl) (by kernel_rfl),rfl⟩ (cx.G.1) (cx.G.2.1) hi hj hz HB1 HB2)) ?_;refine af ?_;exact ae
 obtain ⟨hS,hG⟩:=ag.fg hS hF;clear hF;refine wp_seq ?_;refine wq hS hG hK (fun p5=>[.v 17 (vJ sz),.v 18 (.bool false),.v 19 (.bool false),.v 20 (vJ sz),.v 21 (.bool false),.v 22 (.bool false)]) (fun p5=>[(1,vJ 0),(2,pT (p1 0).N 0),(4,pT (p1 1).N 0),(5,vJ 0),(6,pT (p3 0).N 0),(7,vJ sz),(12,.bool false),(22,.bool false)]) (fun p5=>?_) (fun p5 W5 T hF hK=>?_)
 ·refine af ?_;refine aO (decide_eq_false (show ¬sz>4096 by omega)) ?_;iterate 2 refine af ?_
  refine aO (decide_eq_false (show ¬sz < -4096 by omega)) ?_;refine af ?_;exact ae
 obtain ⟨hS,hG⟩:=ag.fg hS hF;clear hF;refine wp_cond_false (hK.ew 22) (wp_skip (aB ?_));refine wq hS hG hK (fun p6=>[.l 31 (.agg #[.bool s,.slice a n c,.slice b k l]) 0 0,.v 32 (vJ 0),.c (some 33) (cH W5.heap.size 1 1 fun x9 y9=>.agg #[.slice a n c,x9,.slice b k l,y9,vJ 0]),.c (some 34) (cG W5.heap.size v fun x9=>.tuple #[.agg #[x9],vJ e]),.v 30 (.tuple #[.agg #[sJ (p6 3)],vJ e]),.v 35 (.agg #[sJ (p6 3)]),.v 36 (vJ e),.n 8 #[nJ] 27,.p 1007 0 [sJ (p6 3)],.v 9 (vJ e)]) (fun p6=>[(2,pT (p1 0).N 0),(4,pT (p1 1).N 0),(5,vJ 0),(6,pT (p3 0).N 0),(7,vJ sz),(8,pT (p6 7).N 0),(9,vJ e),(12,.bool false),(22,.bool false)]) (fun p6=>?_) (fun p6 W6 T hF hK=>?_)
 ·refine aj ?_;refine af ?_;refine av (fun W cx=>bP cx.hb (BP _ _ s a b n c k l x y ⟨_,_,cx.B 2 _ rfl (by kernel_rfl) (by kernel_rfl),rfl⟩ (cx.G.1) (cx.G.2.1) HP)) ?_;refine av (fun W cx=>fQ cx.hb (aa HF _ _ _ _ (p6 2).C _ _ (p6 2).C' ⟨_,_,cx.B 2 _ rfl (by kernel_rfl) (by kernel_rfl),rfl⟩ (cx.G.1) (Mine.num (And.left (cx.F 2 (by kernel_rfl)))) (cx.G.2.1) (Mine.num (And.right (cx.F 2 (by kernel_rfl)))))) ?_;iterate 3 refine af ?_
  refine aI ?_;refine aF ?_;refine af ?_;exact ae
 replace hS:=ag.fc hS hF [0,1,2,1007] [⟨(p1 0).N,#[.bool s,.slice a n c,.slice b k l],29,true⟩,⟨(p1 1).N,#[.bool false,nJ,vJ 0],58,true⟩,⟨(p3 0).N,#[vJ 0],188,true⟩,⟨(p6 7).N,#[sJ (p6 3)],27,true⟩];replace hG:au (gM W5.heap.size (p6 2).A (p6 2).N (p6 2).C 1::gM W5.heap.size (p6 2).A' (p6 2).N' (p6 2).C' 1::gM W5.heap.size (p6 3).A (p6 3).N (p6 3).C v::_) W6:=⟨And.left (hF.fx 2),And.right (hF.fx 2),hF.fx 3,hF.gx⟩;clear hF;refine wp_seq ?_;refine wq hS hG hK (fun p7=>[.v 37 (pT (p3 0).N 0),.v 38 (pT (p3 0).N 0),.l 39 (vJ 0) 2 0,.v 40 (.bool false)]) (fun p7=>[(2,pT (p1 0).N 0),(4,pT (p1 1).N 0),(5,vJ 0),(6,pT (p3 0).N 0),(7,vJ sz),(8,pT (p6 7).N 0),(9,vJ e),(12,.bool false),(22,.bool false),(40,.bool false)]) (fun p7=>?_) (fun p7 W7 T hF hK=>?_)
 ·iterate 2 refine af ?_
  refine aj ?_;refine af ?_;exact ae
 obtain ⟨hS,hG⟩:=ag.fg hS hF;clear hF;have z7:=hS.fr.size;refine wp_cond_false (hK.ew 40) (wp_skip (aB ?_));refine wq hS hG hK (fun p8=>[.v 45 (pT (p1 0).N 0),.l 46 (.bool s) 0 0,.l 47 (.agg #[sJ (p6 3)]) 3 0,.v 48 (vJ e),.c (some 49) (cG W7.heap.size M fun x9=>.tuple #[.agg #[.bool s,x9,vJ X],vJ 0]),.v 50 (.agg #[.bool s,sJ (p8 4),vJ X]),.v 51 (vJ 0),.p 1 0 [.bool s,sJ (p8 4),vJ X],.v 5 (vJ 0)]) (fun p8=>[(2,pT (p1 0).N 0),(4,pT (p1 1).N 0),(5,vJ 0),(6,pT (p3 0).N 0),(7,vJ sz),(12,.bool false),(22,.bool false),(40,.bool false)]) (fun p8=>?_) (fun p8 W8 T hF hK=>?_)
 ·refine af ?_;iterate 2 refine aj ?_
  refine af ?_;refine av (fun W cx=>fQ cx.hb (aa HK _ _ _ _ _ (hT.kept cx.fr) cx.G.2.2.1)) ?_;iterate 2 refine af ?_
  refine aF ?_;refine af ?_;exact ae
 replace hS:=ag.fc hS hF [0,1,2] [⟨(p1 0).N,#[.bool s,.slice a n c,.slice b k l],29,true⟩,⟨(p1 1).N,#[.bool s,sJ (p8 4),vJ X],58,true⟩,⟨(p3 0).N,#[vJ 0],188,true⟩];replace hG:au (gM W7.heap.size (p8 4).A (p8 4).N (p8 4).C M::_) W8:=⟨hF.fx 4,hF.gx⟩;clear hF;refine wp_ret ?_;exact aA hS hK (.tuple #[.agg #[.bool s,.slice (p8 4).A (p8 4).N (p8 4).C,.int .i64 X],.int .i64 0]) [(1,0,3)] [.bool s,.slice (p8 4).A (p8 4).N (p8 4).C,.int .i64 X] (by kernel_rfl) (by kernel_rfl) ⟨⟨_,_,_,rfl,Mine.mono hG.1 z7⟩,hS.fr⟩
theorem kU(w:World)(E F md:Nat)(s ng:Bool)(a b:Option Addr)(n c k l x y:Nat)(X:Int)(M bt fl:Nat)(hfo:Fo E F)(hm:md≤4)(hT:Tb w)(h1:Num w a n x)(h2:Num w b k y)(HC:Hid (∀W:World,Num W a n x→Num W b k y→Calls Tryz.prog 12 #[.agg #[.bool s,.slice a n c,.slice b k l]] W fun e W'=>e = .returned (.int .i64 0)∧Below W.heap.size W W'))(HD:Hid (∀W:World,Tb W→Num W a n x→Num W b k y→Calls Tryz.prog 111 #[.agg #[.bool s,.slice a n c,.slice b k l],.int .i64 0] W fun en W'=>(∃A N C,en = .returned (.tuple #[.agg #[.bool s,.slice A N C,.int .i64 X],.int .i64 0])∧Mine W' W.heap.size A N C M)∧Below W.heap.size W W'))(HR:Hid (∀(W:World) (B:Nat) (A:Option Addr) (N C:Nat),Mine W B A N C M→Calls Tryz.prog 108 #[.agg #[.int .i64 E,.int .i64 F],.agg #[.bool s,.slice A N C,.int .i64 X],.bool ng,.int .u8 (md:Int)] W fun e W'=>e = .returned (.tuple #[.int .u64 (bt:Int),.int .u8 (fl:Int),.int .i64 0])∧Below W.heap.size W W')) :
  Calls Tryz.prog 70 #[.agg #[.int .i64 (E:Int),.int .i64 (F:Int)],.agg #[.bool s,.slice a n c,.slice b k l],.int .i64 0,.bool ng,.int .u8 (md:Int)] w fun en w'=>en = .returned (.tuple #[.int .u64 (bt:Int),.int .u8 (fl:Int),.int .i64 0])∧Below w.heap.size w w':=by
 refine ax Tryz.func70 rfl (by kernel_rfl) fun T hK=>?_;replace hK:Kn T _ [(0,.agg #[.int .i64 (E:Int),.int .i64 (F:Int)]),(1,.agg #[.bool s,.slice a n c,.slice b k l]),(2,.int .i64 0),(3,.bool ng),(4,.int .u8 (md:Int))]:=hK;have hS:=Fb.begin w;have hG:au [gN a n x,gN b k y] w:=⟨h1,h2,trivial⟩;refine wq hS hG hK (fun p1=>[.n 5 #[vJ (E:Int),vJ (F:Int)] 23,.n 6 #[.bool s,.slice a n c,.slice b k l] 29,.v 10 (.int .u64 0),.v 11 (.int .u8 0),.v 12 (vJ 0)]) (fun p1=>[(2,vJ 0),(3,.bool ng),(4,.int .u8 (md:Int)),(5,pT (p1 0).N 0),(6,pT (p1 1).N 0),(10,.int .u64 0),(11,.int .u8 0),(12,vJ 0)]) (fun p1=>?_) (fun p1 W1 T hF hK=>?_)
 ·iterate 2 refine aI ?_
  iterate 3 refine af ?_
  exact ae
 replace hS:=ag.fc hS hF [1000,1001] [⟨(p1 0).N,#[vJ (E:Int),vJ (F:Int)],23,true⟩,⟨(p1 1).N,#[.bool s,.slice a n c,.slice b k l],29,true⟩];replace hG:=hF.gx;clear hF;refine wp_seq ?_;refine wq hS hG hK (fun p2=>[.l 17 (.agg #[vJ (E:Int),vJ (F:Int)]) 0 0,.c (some 18) (cV (vJ 0)),.v 13 (vJ 0)]) (fun p2=>[(2,vJ 0),(3,.bool ng),(4,.int .u8 (md:Int)),(5,pT (p1 0).N 0),(6,pT (p1 1).N 0),(10,.int .u64 0),(11,.int .u8 0),(12,vJ 0),(13,vJ 0)]) (fun p2=>?_) (fun p2 W2 T hF hK=>?_)
 ·refine aj ?_;refine av (fun W cx=>aD (dW _ _ _ hfo)) ?_;refine af ?_;exact ae
 obtain ⟨hS,hG⟩:=ag.fg hS hF;clear hF;refine wq hS hG hK (fun p3=>[.v 19 (vJ 0),.v 20 (.bool false)]) (fun p3=>[(2,vJ 0),(3,.bool ng),(4,.int .u8 (md:Int)),(5,pT (p1 0).N 0),(6,pT (p1 1).N 0),(10,.int .u64 0),(11,.int .u8 0),(12,vJ 0),(13,vJ 0),(20,.bool false)]) (fun p3=>?_) (fun p3 W3 T hF hK=>?_)
 ·iterate 2 refine af ?_
  exact ae
 obtain ⟨hS,hG⟩:=ag.fg hS hF;clear hF;refine wp_cond_false (hK.ew 20) (wp_skip ?_);refine aB (wp_seq ?_);refine wq hS hG hK (fun p4=>[.l 22 (.agg #[.bool s,.slice a n c,.slice b k l]) 1 0,.v 23 (.int .u8 (md:Int)),.c (some 24) (cV (vJ 0)),.v 14 (vJ 0)]) (fun p4=>[(2,vJ 0),(3,.bool ng),(4,.int .u8 (md:Int)),(5,pT (p1 0).N 0),(6,pT (p1 1).N 0),(10,.int .u64 0),(11,.int .u8 0),(12,vJ 0),(13,vJ 0),(14,vJ 0),(20,.bool false)]) (fun p4=>?_) (fun p4 W4 T hF hK=>?_)
 ·refine aj ?_;refine af ?_;refine av (fun W cx=>aD (xL s a n c b k l md hm _ (hide fun W9 hb9=>aa HC W9 (Num.kept (cx.G.1) hb9) (Num.kept (cx.G.2.1) hb9)))) ?_;refine af ?_;exact ae
 obtain ⟨hS,hG⟩:=ag.fg hS hF;clear hF;refine wq hS hG hK (fun p5=>[.v 25 (vJ 0),.v 26 (.bool false)]) (fun p5=>[(2,vJ 0),(3,.bool ng),(4,.int .u8 (md:Int)),(5,pT (p1 0).N 0),(6,pT (p1 1).N 0),(10,.int .u64 0),(11,.int .u8 0),(12,vJ 0),(13,vJ 0),(14,vJ 0),(20,.bool false),(26,.bool false)]) (fun p5=>?_) (fun p5 W5 T hF hK=>?_)
 ·iterate 2 refine af ?_
  exact ae
 obtain ⟨hS,hG⟩:=ag.fg hS hF;clear hF;refine wp_cond_false (hK.ew 26) (wp_skip (aB ?_));refine wq hS hG hK (fun p6=>[.l 29 (.agg #[.bool s,.slice a n c,.slice b k l]) 1 0,.v 30 (vJ 0),.c (some 31) (cG W5.heap.size M fun x9=>.tuple #[.agg #[.bool s,x9,vJ X],vJ 0]),.v 28 (.tuple #[.agg #[.bool s,sJ (p6 2),vJ X],vJ 0]),.v 32 (.agg #[.bool s,sJ (p6 2),vJ X]),.v 33 (vJ 0),.n 15 #[.bool false,nJ,vJ 0] 58,.p 1006 0 [.bool s,sJ (p6 2),vJ X],.v 16 (vJ 0)]) (fun p6=>[(3,.bool ng),(4,.int .u8 (md:Int)),(5,pT (p1 0).N 0),(10,.int .u64 0),(11,.int .u8 0),(12,vJ 0),(13,vJ 0),(14,vJ 0),(15,pT (p6 6).N 0),(16,vJ 0),(20,.bool false),(26,.bool false)]) (fun p6=>?_) (fun p6 W6 T hF hK=>?_)
 ·refine aj ?_;refine af ?_;refine av (fun W cx=>fQ cx.hb (aa HD _ (hT.kept cx.fr) (cx.G.1) (cx.G.2.1))) ?_;iterate 3 refine af ?_
  refine aI ?_;refine aF ?_;refine af ?_;exact ae
 replace hS:=ag.fc hS hF [0,1006] [⟨(p1 0).N,#[vJ (E:Int),vJ (F:Int)],23,true⟩,⟨(p6 6).N,#[.bool s,sJ (p6 2),vJ X],58,true⟩];replace hG:au (gM W5.heap.size (p6 2).A (p6 2).N (p6 2).C M::_) W6:=⟨hF.fx 2,hF.gx⟩;clear hF;refine wp_seq ?_;refine wq hS hG hK (fun p7=>[.v 34 (vJ 0),.v 35 (.bool false)]) (fun p7=>[(3,.bool ng),(4,.int .u8 (md:Int)),(5,pT (p1 0).N 0),(10,.int .u64 0),(11,.int .u8 0),(12,vJ 0),(13,vJ 0),(14,vJ 0),(15,pT (p6 6).N 0),(16,vJ 0),(20,.bool false),(26,.bool false),(35,.bool false)]) (fun p7=>?_) (fun p7 W7 T hF hK=>?_)
 ·iterate 2 refine af ?_
  exact ae
 obtain ⟨hS,hG⟩:=ag.fg hS hF;clear hF;refine wp_cond_false (hK.ew 35) (wp_skip (aB ?_));refine wq hS hG hK (fun p8=>[.l 37 (.agg #[vJ (E:Int),vJ (F:Int)]) 0 0,.l 38 (.agg #[.bool s,sJ (p6 2),vJ X]) 1 0,.v 39 (.bool ng),.v 40 (.int .u8 (md:Int)),.c (some 41) (cV (.tuple #[.int .u64 (bt:Int),.int .u8 (fl:Int),vJ 0])),.v 42 (.int .u64 (bt:Int)),.v 43 (.int .u8 (fl:Int)),.v 44 (vJ 0),.v 10 (.int .u64 (bt:Int)),.v 11 (.int .u8 (fl:Int)),.v 12 (vJ 0)]) (fun p8=>[(10,.int .u64 (bt:Int)),(11,.int .u8 (fl:Int)),(12,vJ 0),(13,vJ 0),(14,vJ 0),(16,vJ 0),(20,.bool false),(26,.bool false),(35,.bool false)]) (fun p8=>?_) (fun p8 W8 T hF hK=>?_)
 ·iterate 2 refine aj ?_
  iterate 2 refine af ?_
  refine av (fun W cx=>aD (aa HR _ _ _ _ _ cx.G.1)) ?_;iterate 6 refine af ?_
  exact ae
 replace hS:=ag.fc hS hF [] [];replace hG:=hF.gx;clear hF;refine wp_ret ?_;exact aA hS hK (.tuple #[.int .u64 (bt:Int),.int .u8 (fl:Int),.int .i64 0]) [] [] (by kernel_rfl) (by kernel_rfl) ⟨rfl,hS.fr⟩
theorem nC(w:World)(E F md:Nat)(s ng:Bool)(a b:Option Addr)(n c k l x y bt fl:Nat)(h1:Num w a n x)(h2:Num w b k y)(HR:Hid (∀W:World,Below w.heap.size w W→Num W a n x→Num W b k y→Calls Tryz.prog 70 #[.agg #[.int .i64 E,.int .i64 F],.agg #[.bool s,.slice a n c,.slice b k l],.int .i64 0,.bool ng,.int .u8 (md:Int)] W fun e W'=>e = .returned (.tuple #[.int .u64 (bt:Int),.int .u8 (fl:Int),.int .i64 0])∧Below W.heap.size W W')) :
  Calls Tryz.prog 28 #[.agg #[.int .i64 (E:Int),.int .i64 (F:Int)],.agg #[.bool s,.slice a n c,.slice b k l],.bool ng,.int .u8 (md:Int)] w fun en w'=>en = .returned (.tuple #[.int .u64 (bt:Int),.int .u8 (fl:Int),.int .i64 0])∧Below w.heap.size w w':=by
 refine ax Tryz.func28 rfl (by kernel_rfl) fun T hK=>?_;replace hK:Kn T _ [(0,.agg #[.int .i64 (E:Int),.int .i64 (F:Int)]),(1,.agg #[.bool s,.slice a n c,.slice b k l]),(2,.bool ng),(3,.int .u8 (md:Int))]:=hK;have hS:=Fb.begin w;have hG:au [gN a n x,gN b k y] w:=⟨h1,h2,trivial⟩;refine wq hS hG hK (fun p1=>[.n 4 #[vJ (E:Int),vJ (F:Int)] 23,.n 5 #[.bool s,.slice a n c,.slice b k l] 29,.v 8 (.int .u64 0),.v 9 (.int .u8 0),.v 10 (vJ 0)]) (fun p1=>[(2,.bool ng),(3,.int .u8 (md:Int)),(4,pT (p1 0).N 0),(5,pT (p1 1).N 0),(8,.int .u64 0),(9,.int .u8 0),(10,vJ 0)]) (fun p1=>?_) (fun p1 W1 T hF hK=>?_)
 ·iterate 2 refine aI ?_
  iterate 3 refine af ?_
  exact ae
 replace hS:=ag.fc hS hF [1000,1001] [⟨(p1 0).N,#[vJ (E:Int),vJ (F:Int)],23,true⟩,⟨(p1 1).N,#[.bool s,.slice a n c,.slice b k l],29,true⟩];replace hG:=hF.gx;clear hF;refine wq hS hG hK (fun p2=>[.l 11 (.agg #[vJ (E:Int),vJ (F:Int)]) 0 0,.l 12 (.agg #[.bool s,.slice a n c,.slice b k l]) 1 0,.v 13 (.bool ng),.v 14 (.int .u8 (md:Int)),.c (some 15) (cV (.tuple #[.int .u64 (bt:Int),.int .u8 (fl:Int),vJ 0])),.v 16 (.int .u64 (bt:Int)),.v 17 (.int .u8 (fl:Int)),.v 18 (vJ 0),.v 8 (.int .u64 (bt:Int)),.v 9 (.int .u8 (fl:Int)),.v 10 (vJ 0)]) (fun p2=>[(8,.int .u64 (bt:Int)),(9,.int .u8 (fl:Int)),(10,vJ 0)]) (fun p2=>?_) (fun p2 W2 T hF hK=>?_)
 ·iterate 2 refine aj ?_
  iterate 2 refine af ?_
  refine av (fun W cx=>aD (aa HR _ cx.fr (cx.G.1) (cx.G.2.1))) ?_;iterate 6 refine af ?_
  exact ae
 replace hS:=ag.fc hS hF [] [];replace hG:=hF.gx;clear hF;refine wp_ret ?_;exact aA hS hK (.tuple #[.int .u64 (bt:Int),.int .u8 (fl:Int),.int .i64 0]) [] [] (by kernel_rfl) (by kernel_rfl) ⟨rfl,hS.fr⟩
theorem j3{m K:Nat}(h:m<2^K)(hK:K≤524288):¬Over m:=dE h hK
theorem oC{w:World}{base:Nat}{e:Ending}{m:Nat}(h:ib w base e m)(hn:¬Over m):∃a n cap,e = .returned (.tuple #[.agg #[.slice a n cap],.int .i64 0])∧Mine w base a n cap m:=by
 rcases h with h|⟨_,h⟩
 ·exact h
 ·exact absurd h hn
theorem gL(m:Nat):eF m (aK m):=fun W A N C h=>(ru A N C m W h).mono fun e W' ⟨⟨k,h1,h2,_⟩,hb⟩=>⟨by rw [h1,h2.uniq (bu m)],hb⟩
theorem hup{m k:Nat}(hk:k<9223372036854775808)(ho:¬Over (m*2^k)):iV m k (m*2^k):=fun W A N C h=>(qZ A N C m k W h hk).mono fun _ _ ⟨h1,hb⟩=>⟨oC h1 ho,hb⟩
theorem hmul{x y:Nat}(ho:¬Over (x*y)):o7 118 x y (x*y):=fun W a n c a' n' c' h h'=>(j6 a a' n n' c c' x y W h h').mono fun _ _ ⟨h1,hb⟩=>⟨oC h1 ho,hb⟩
theorem hadd{x y:Nat}(ho:¬Over (x+y)):o7 148 x y (x+y):=fun W a n c a' n' c' h h'=>(pz a a' n n' c c' x y W h h').mono fun _ _ ⟨h1,hb⟩=>⟨oC h1 ho,hb⟩
theorem hdiv{x d:Nat}(hd:0<d):HDiv x d (x/d) (x%d):=fun W a n c a' n' c' h h'=>div_pos a a' n n' c c' x d W h h' hd
theorem IX:xE:=fun W=>by
 have:=vZ 5 0 W (by omega) (by omega);exact this.mono fun _ _ ⟨h1,hb⟩=>⟨oC h1 (j3 (K:=1) (by decide) (by omega)),hb⟩
def gH(m d:Nat):Nat:=aK d-aK m
def jE(m d:Nat):Nat:=m*2^gH m d
def fK(m d:Nat):Nat:=65+aK d-aK (jE m d)
def dS(m d:Nat):Nat:=jE m d*2^fK m d
def iw(m d:Nat):Nat:=if dS m d%d=0 then 2*(dS m d/d) else 2*(dS m d/d)+1
def jG(m d:Nat):Int:=-(gH m d:Int)-(fK m d:Int)-1
theorem pQ{m K:Nat}(h:aK m≤K):m<2^K:=Nat.lt_of_lt_of_le (bu m).1 (Nat.pow_le_pow_right (by omega) h)
theorem tN:aK 1=1:=by decide
theorem Ah{t d f:Nat}(hd:0<d):t/d*f+t%d*f/d=t*f/d∧t%d*f%d=t*f%d:=by
 have h:=Nat.div_add_mod t d;have h1:t*f=t%d*f+d*(t/d*f):=by
  conv=>lhs;rw [←h]
  rw [Nat.add_mul,Nat.mul_assoc];omega
 rw [h1];exact ⟨by rw [Nat.add_mul_div_left _ _ hd];omega,by rw [Nat.add_mul_mod_self_left]⟩
theorem xk(W:World)(p:Nat)(a1 a2 a3 a4:Option Addr)(n1 n2 n3 n4 c1 c2 c3 c4 m d:Nat)(hk:Rn W p 0)(h1:Num W a1 n1 m)(h2:Num W a2 n2 1)(h3:Num W a3 n3 d)(h4:Num W a4 n4 1)(hd:0<d)(bm:aK m≤100000)(bd:aK d≤100000)(hr:aK d≤aK m+4096) :
  Calls Tryz.prog 145 #[.agg #[.slice a1 n1 c1,.slice a2 n2 c2,.slice a3 n3 c3,.slice a4 n4 c4,.int .i64 0],.pointer (some ⟨p,0,none⟩)] W fun en W'=>(∃A N C,en = .returned (.tuple #[.agg #[.slice A N C],.int .i64 (jG m d)])∧Mine W' W.heap.size A N C (iw m d))∧Below W.heap.size W W':=by
 obtain ⟨lift,hlift⟩:∃lift,gH m d=lift:=⟨_,rfl⟩;obtain ⟨t1,ht1⟩:∃t1,jE m d=t1:=⟨_,rfl⟩;obtain ⟨more,hmore⟩:∃more,fK m d=more:=⟨_,rfl⟩;have el:lift≤4096:=by rw [←hlift];unfold gH;omega
 have em:more≤100065:=by rw [←hmore];unfold fK;omega
 obtain ⟨K0,hK0⟩:∃K,K=100000:=⟨_,rfl⟩;obtain ⟨K4,hK4⟩:∃K,K=4096:=⟨_,rfl⟩;obtain ⟨K1,hK1⟩:∃K,K=104096:=⟨_,rfl⟩;obtain ⟨K2,hK2⟩:∃K,K=100065:=⟨_,rfl⟩;obtain ⟨K3,hK3⟩:∃K,K=204161:=⟨_,rfl⟩;have b1:t1<2^K1:=by
  rw [←ht1];unfold jE;rw [hlift,show K1=K0+K4 from by omega,Nat.pow_add];exact Nat.mul_lt_mul_of_lt_of_le (pQ (by omega)) (Nat.pow_le_pow_right (by omega) (by omega)) (Nat.pow_pos (by omega))
 have b2:2^more≤2^K2:=Nat.pow_le_pow_right (by omega) (by omega);have b3:t1*2^more<2^K3:=by
  rw [show K3=K1+K2 from by omega,Nat.pow_add];exact Nat.mul_lt_mul_of_lt_of_le b1 b2 (Nat.pow_pos (by omega))
 have hall:dS m d=t1*2^more:=by unfold dS;rw [ht1,hmore]
 obtain ⟨e1,e2⟩:=Ah (t:=t1) (f:=2^more) hd;have hq:t1*2^more/d≤t1*2^more:=Nat.div_le_self _ _;have l1:t1/d*2^more≤t1*2^more/d:=by rw [←e1];exact Nat.le_add_right _ _
 have l2:t1%d*2^more≤t1*2^more:=Nat.mul_le_mul_right _ (Nat.mod_le _ _);have i5:aK t1≤104096:=by have:=(bu t1).le_of b1;omega
 have p0:2^K3*2=2^(K3+1):=(Nat.pow_succ ..).symm;have lt9:∀{v:Nat},v<2^K3*2→¬Over v:=fun {v} h=>j3 (K:=K3+1) (by rw [←p0];exact h) (by omega);obtain ⟨T,hT⟩:∃T,2^K3=T:=⟨_,rfl⟩;rw [hT] at b3 lt9;have hT1:1<T:=by rw [←hT];exact Nat.one_lt_two_pow (by omega)
 clear p0 hT;have key:=za W p a1 a2 a3 a4 n1 n2 n3 n4 c1 c2 c3 c4 m 1 d 1 (aK m) 1 (aK d) 1 (aK t1) lift more t1 (2^more) (t1/d) (t1%d) (t1%d*2^more/d) (t1/d*2^more) (t1*2^more/d) (t1*2^more/d) 0 (t1*2^more/d*2) (t1*2^more/d*2+1) 0 ((aK t1:Int)-(aK d:Int)) (!decide (t1%d*2^more%d=0)) (iw m d) hk h1 h2 h3 h4 (by omega) (by omega) (by omega) (by omega) (by omega)
  (by rw [←hlift];unfold gH;omega) (by omega) (by rw [←hmore];unfold fK;rw [ht1];omega) (by omega) (by omega) (by omega) (by omega)
  (hide (by
   rw [e2];unfold iw;rw [hall];by_cases hz:t1*2^more%d=0
   ·right;right;rw [if_pos hz];exact ⟨by simp [hz],rfl,by omega⟩
   ·left;rw [if_neg hz];exact ⟨by simp [hz],by omega⟩))
  (hide (gL m)) (hide (by have:=gL 1;rw [tN] at this;exact this)) (hide (gL d)) (hide (by have:=gL 1;rw [tN] at this;exact this)) (hide (gL t1))
  (hide (by have:=hup (m:=m) (k:=lift) (by omega) (by rw [←hlift];exact j3 (K:=K1) (by have:=b1;rw [←ht1] at this;exact this) (by omega));rw [show m*2^lift=t1 from by rw [←ht1,←hlift];rfl] at this;exact this))
  (hide (by have:=hup (m:=1) (k:=more) (by omega) (by rw [Nat.one_mul];exact j3 (K:=K2+1) (Nat.lt_of_le_of_lt b2 (Nat.pow_lt_pow_right (by omega) (by omega))) (by omega));rw [Nat.one_mul] at this;exact this))
  (hide (hdiv hd))
  (hide fun W a n c b k l d9 m9 e9 q1 q2 q3 q4=>zW W p a b d9 n c k l m9 e9 (t1%d) (2^more) d (t1%d*2^more) _ _ q1 q2 q3 q4 (hide (hmul (lt9 (by omega)))) (hide (hdiv hd)))
  (hide (hmul (lt9 (by omega)))) (hide (by have:=hadd (x:=t1/d*2^more) (y:=t1%d*2^more/d) (lt9 (by omega));rw [e1] at this;exact this))
  (hide (by have:=hdiv (x:=t1*2^more/d) (d:=1) (by omega);rw [Nat.div_one,Nat.mod_one] at this;exact this))
  (hide (by have:=hup (m:=t1*2^more/d) (k:=1) (by omega) (lt9 (by rw [Nat.pow_one];omega));rw [Nat.pow_one] at this;exact this))
  (hide (hadd (lt9 (by omega))))
 have ee:(0:Int)-(lift:Int)-(more:Int)-1=jG m d:=by unfold jG;rw [hlift,hmore];omega
 rw [ee] at key;exact key
theorem yN{E F S I B md:Nat}(h:Fm E F S I)(hB:B=2^(E-1)-1)(hm:md≤4)(ng s:Bool)(a b:Option Addr)(n c k l m d:Nat)(w:World)(hT:Tb w)(h1:Num w a n m)(h2:Num w b k d)(h0:m≠0)(hd:0<d)(bm:aK m≤100000)(bd:aK d≤100000)(hr1:aK d≤aK m+4096)(hr2:aK m≤aK d+4096)(HC:Hid (∀W:World,Num W a n m→Num W b k d→Calls Tryz.prog 12 #[.agg #[.bool s,.slice a n c,.slice b k l]] W fun e W'=>e = .returned (.int .i64 0)∧Below W.heap.size W W'))(z M K:Nat)(X:Int)(hz:Tz (iw m d) z)(hz2:z≤300000)(hM:iw m d/2^z=M)(hX:jG m d+(z:Int)=X)(hK:Bl M K) :
  Calls Tryz.prog 28 #[.agg #[.int .i64 E,.int .i64 F],.agg #[.bool s,.slice a n c,.slice b k l],.bool ng,.int .u8 (md:Int)] w fun e w'=>e = .returned (.tuple #[.int .u64 (fD S I md s (dz B F md s M K X):Int),.int .u8 (dG B F I md s M K X:Int),.int .i64 0])∧Below w.heap.size w w':=by
 obtain ⟨q,hq⟩:=hz;have hMq:M=2*q+1:=by rw [←hM,hq,Nat.mul_div_cancel_left _ (Nat.pow_pos (by omega))]
 have hX2:-204200≤jG m d∧jG m d≤0:=by unfold jG gH fK;omega
 refine nC w E F md s ng a b n c k l m d _ _ h1 h2 (hide fun W hb q1 q2=>?_);refine kU W E F md s ng a b n c k l m d X M _ _ h.fo hm (hT.kept hb) q1 q2 HC (hide fun W t9 r1 r2=>?_) (hide fun W B9 A N C g=>?_)
 ·refine zO W s a b n c k l m d (aK m) (aK d) ((aK m:Int)-(aK d:Int)) (jG m d) X (iw m d) M t9 r1 r2 h0 (by omega) (by omega) rfl (by omega) (by omega) (hide (gL m)) (hide (gL d)) (hide IX) (hide fun W p A N C A' N' C' x1 x2 x3 x4 x5=>xk W p a A b A' n N k N' c C l C' m d x1 x2 x3 x4 x5 hd bm bd hr1) (hide fun W B9 A N C t8 g=>?_);obtain ⟨g1,g2⟩:=lF g;have:=j4 s A N C (iw m d) z (jG m d) W g.num (by rw [hq];exact Nat.mul_pos (Nat.pow_pos (by omega)) (by omega)) t8 ⟨q,hq⟩ (by omega) g1 g2 (by omega);rw [hM,hX] at this;exact this
 ·exact jX h hB hm ng s A N C M K X W B9 g ⟨by omega,by omega,by omega⟩ hK
def hlf(r w:Nat):Int:=if 2*r<w then -1 else if 2*r=w then 0 else 1
def jI(md:Nat)(s:Bool)(p w:Nat):Nat:=p/w+(if p%w=0 then 0 else if bN md s (decide (p/w%2=1)) (hlf (p%w) w) then 1 else 0)
theorem qY{md:Nat}{s o:Bool}{h h':Int}(hle:h≤h')(hf:bN md s o h=true):bN md s o h'=true:=by
 match md with
 | 0=>
  simp only [bN,Bool.or_eq_true,Bool.and_eq_true,decide_eq_true_eq] at hf ⊢;rcases hf with hf|⟨hf,ho⟩
  ·left;omega
  ·by_cases h0:h'=0
   ·exact Or.inr ⟨h0,ho⟩
   ·left;omega
 | 1=>simp only [bN,decide_eq_true_eq] at hf ⊢;omega
 | 2=>simp [bN] at hf
 | 3=>simpa [bN] using hf
 | n+4=>simpa [bN] using hf
theorem Be{r w r' w':Nat}(hw:0<w)(hw':0<w')(h:r*w'≤r'*w):hlf r w≤hlf r' w':=by
 have k1:2*r'<w'→2*r<w:=fun h1=>by
  refine Nat.lt_of_not_le fun h2=>?_;have a1:=Nat.mul_le_mul_right w' h2;have a2:=Nat.mul_lt_mul_of_pos_right h1 hw;have a3:2*r*w'=2*(r*w'):=Nat.mul_assoc ..;have a4:2*r'*w=2*(r'*w):=Nat.mul_assoc ..;have a5:=Nat.mul_comm w w';omega
 have k2:2*r'=w'→2*r≤w:=fun h1=>by
  refine Nat.le_of_not_lt fun h2=>?_;have a1:=Nat.mul_lt_mul_of_pos_right h2 hw';have a3:2*r*w'=2*(r*w'):=Nat.mul_assoc ..;have a4:2*r'*w=2*(r'*w):=Nat.mul_assoc ..;have a5:=Nat.mul_comm w w';rw [h1] at a4;omega
 unfold hlf
 split<;>split<;>(try split)<;>(try split)<;>omega
theorem BX{md:Nat}{s:Bool}{p w p' w':Nat}(hw:0<w)(hw':0<w')(h:p*w'≤p'*w):jI md s p w≤jI md s p' w':=by
 have hq:p/w≤p'/w':=by
  rw [Nat.le_div_iff_mul_le hw'];have h1:p/w*w≤p:=Nat.div_mul_le_self p w;have h2:=Nat.mul_le_mul_right w' h1;refine Nat.le_of_mul_le_mul_right (c:=w) ?_ hw;have a1:p/w*w'*w=p/w*w*w':=Nat.mul_right_comm ..;omega
 have i1:jI md s p w≤p/w+1:=by unfold jI;split<;>(try split)<;>omega
 have i2:p'/w'≤jI md s p' w':=by unfold jI;omega
 rcases Nat.lt_or_ge (p/w) (p'/w') with h1|h1
 ·omega
 ·have e:p/w=p'/w':=by omega
  have hr:p%w*w'≤p'%w'*w:=by
   have d1:=Nat.div_add_mod p w;have d2:=Nat.div_add_mod p' w';rw [←d1,←d2,Nat.add_mul,Nat.add_mul,←e] at h;have a1:w*(p/w)*w'=w'*(p/w)*w:=by rw [Nat.mul_comm w (p/w),Nat.mul_comm w' (p/w),Nat.mul_right_comm]
   omega
  unfold jI;rw [←e];by_cases h0:p%w=0
  ·rw [if_pos h0];omega
  ·rw [if_neg h0];have h0':p'%w'≠0:=fun hc=>by
    rw [hc,Nat.zero_mul] at hr;have:=Nat.mul_pos (Nat.pos_of_ne_zero h0) hw';omega
   rw [if_neg h0'];have hm:=Be hw hw' hr;by_cases hf:bN md s (decide (p/w%2=1)) (hlf (p%w) w)=true
   ·rw [if_pos hf,if_pos (qY hm hf)];exact Nat.le_refl _
   ·rw [if_neg hf];omega
theorem Ep{M dr:Nat}(ho:M%2=1)(h1:1≤dr):lK M dr=hlf (M%2^dr) (2^dr):=by
 obtain ⟨k,rfl⟩:∃k,dr=k+1:=⟨dr-1,by omega⟩;have hp:2^(k+1)=2*2^k:=by rw [Nat.pow_succ,Nat.mul_comm]
 have hpk:=Nat.pow_pos (n:=k) (show 0<2 by omega);have hm:M%2^(k+1)=M%2^k+2^k*(M/2^k%2):=by rw [Nat.pow_succ,Nat.mod_mul]
 have hl:=Nat.mod_lt M hpk;unfold lK hlf;rw [show k+1-1=k from by omega,hm,hp];by_cases hb:M/2^k%2=1
 ·rw [if_pos hb,hb,Nat.mul_one];by_cases hk:k=0
  ·subst hk;simp [Nat.mod_one]
  ·have hodd:M%2^k%2=1:=by
    rw [Nat.mod_mod_of_dvd _ (Nat.dvd_of_mod_eq_zero (by rw [show k=(k-1)+1 from by omega,Nat.pow_succ];exact Nat.mul_mod_left ..))];exact ho
   rw [if_neg (by omega),if_neg (by omega),if_neg (by omega)]
 ·have h0:M/2^k%2=0:=by omega
  rw [if_neg hb,h0,Nat.mul_zero,if_pos (by omega)]
theorem yO{r w c:Nat}(hc:0<c):hlf (c*r) (c*w)=hlf r w:=by
 have a1:2*(c*r)=c*(2*r):=Nat.mul_left_comm ..;unfold hlf;rw [a1];have e1:(c*(2*r)<c*w)=(2*r<w):=propext (Nat.mul_lt_mul_left hc);have e2:(c*(2*r)=c*w)=(2*r=w):=propext (Nat.mul_right_inj (by omega));simp only [e1,e2]
theorem vV{md:Nat}{s:Bool}{n d D A z M:Nat}{X t:Int}(hd:0<d)(hA:A=if n%d=0 then 2*(n/d) else 2*(n/d)+1)(hz:A=M*2^z)(ho:M%2=1)(hD:2≤D)(hXt:(D:Int)=t-X+(z:Int)):dX md s M X t=jI md s n (d*2^(D-1)):=by
 have p2:∀k,0<2^k:=fun k=>Nat.pow_pos (by omega);obtain ⟨e,rfl⟩:∃e,D=e+2:=⟨D-2,by omega⟩;rw [show e+2-1=e+1 from by omega];have hdm:=Nat.div_add_mod n d;have hml:=Nat.mod_lt n hd;obtain ⟨Q,hQ⟩:∃Q,n/d=Q:=⟨_,rfl⟩;obtain ⟨ρ,hρ⟩:∃ρ,n%d=ρ:=⟨_,rfl⟩;rw [hQ,hρ] at hdm hA;rw [hρ] at hml;have hpe:2^(e+2)=2*2^(e+1):=by rw [Nat.pow_succ,Nat.mul_comm]
 have hpe1:2^(e+1)=2*2^e:=by rw [Nat.pow_succ,Nat.mul_comm]
 have hdiv:n/(d*2^(e+1))=Q/2^(e+1):=by rw [←Nat.div_div_eq_div_mul,hQ]
 obtain ⟨c,hc⟩:∃c,Q/2^(e+1)=c:=⟨_,rfl⟩;obtain ⟨q',hq'⟩:∃q',Q%2^(e+1)=q':=⟨_,rfl⟩;have hQd:=Nat.div_add_mod Q (2^(e+1));have hql:=Nat.mod_lt Q (p2 (e+1));rw [hc,hq'] at hQd;rw [hq'] at hql;have hrem:n%(d*2^(e+1))=d*q'+ρ:=by
  rw [Nat.mod_mul,hρ,hQ,hq'];omega
 have hA2:A/2^(e+2)=c∧A%2^(e+2)=2*q'+(if ρ=0 then 0 else 1):=by
  have e1:A=2^(e+2)*c+(2*q'+(if ρ=0 then 0 else 1)):=by
   rw [hA,hpe,←hQd,Nat.mul_assoc];split<;>omega
  have e2:2*q'+(if ρ=0 then 0 else 1)<2^(e+2):=by rw [hpe];split<;>omega
  rw [e1];exact ⟨by rw [Nat.mul_add_div (p2 _),Nat.div_eq_of_lt e2];omega,by rw [Nat.mul_add_mod,Nat.mod_eq_of_lt e2]⟩
 unfold dX jI;rw [hdiv,hc,hrem];by_cases htX:t≤X
 ·rw [if_pos htX];obtain ⟨y,hy⟩:∃y:Nat,(X-t).toNat=y:=⟨_,rfl⟩;have hzy:z=(e+2)+y:=by omega
  have h1:A=2^(e+2)*(M*2^y):=by rw [hz,hzy,Nat.pow_add,Nat.mul_left_comm]
  have h2:A%2^(e+2)=0:=by rw [h1];exact Nat.mul_mod_right ..
  have h3:A/2^(e+2)=M*2^y:=by rw [h1];exact Nat.mul_div_cancel_left _ (p2 _)
  rw [h2] at hA2;have h4:q'=0∧ρ=0:=by
   have:=hA2.2
   split at this<;>omega
  rw [hy,←h3,hA2.1,h4.1,h4.2];simp
 ·rw [if_neg htX];obtain ⟨dr,hdr⟩:∃dr:Nat,(t-X).toNat=dr:=⟨_,rfl⟩;have hzd:e+2=z+dr:=by omega
  have hdr1:1≤dr:=by omega
  have h1:M/2^dr=c:=by
   rw [←hA2.1,hz,hzd,Nat.pow_add,Nat.mul_comm M,Nat.mul_div_mul_left _ _ (p2 z)]
  have h2:2^z*(M%2^dr)=2*q'+(if ρ=0 then 0 else 1):=by
   rw [←hA2.2,hz,hzd,Nat.pow_add,Nat.mul_comm M,Nat.mul_mod_mul_left]
  have h3:M%2^dr≠0:=fun hc0=>by
   have:M%2^dr%2=1:=by
    rw [Nat.mod_mod_of_dvd _ (Nat.dvd_of_mod_eq_zero (by rw [show dr=(dr-1)+1 from by omega,Nat.pow_succ];exact Nat.mul_mod_left ..))];exact ho
   rw [hc0] at this;cases this
  have h4:d*q'+ρ≠0:=fun hc0=>by
   have hr0:ρ=0:=by omega
   have hq0:d*q'=0:=by omega
   have hq1:q'=0:=by rcases Nat.mul_eq_zero.1 hq0 with h|h<;>omega
   rw [hr0,hq1] at h2;rcases Nat.mul_eq_zero.1 (h2.trans (by simp)) with h|h
   ·have:=p2 z;omega
   ·exact h3 h
  rw [if_neg h4];unfold jW;rw [hdr,h1,Ep ho hdr1,←yO (p2 z),h2,←Nat.pow_add,←hzd];have hh:hlf (2*q'+(if ρ=0 then 0 else 1)) (2^(e+2))=hlf (d*q'+ρ) (d*2^(e+1)):=by
   rw [hpe,hpe1];obtain ⟨H,hH⟩:∃H,2^e=H:=⟨_,rfl⟩;rw [hH];have m1:d*(2*H)=2*(d*H):=Nat.mul_left_comm ..;rw [m1];unfold hlf;rcases Nat.lt_trichotomy q' H with hlt|heq|hgt
   ·have g1:d*q'+d≤d*H:=by rw [←Nat.mul_succ];exact Nat.mul_le_mul_left d hlt
    rw [if_pos (by split<;>omega),if_pos (by omega)]
   ·subst heq;by_cases hr:ρ=0
    ·subst hr;simp only [if_true];rw [if_neg (by omega),if_pos (by omega),if_neg (by omega),if_pos (by omega)]
    ·simp only [hr,if_false];rw [if_neg (by omega),if_neg (by omega),if_neg (by omega),if_neg (by omega)]
   ·have g1:d*H+d≤d*q':=by rw [←Nat.mul_succ];exact Nat.mul_le_mul_left d hgt
    rw [if_neg (by split<;>omega),if_neg (by split<;>omega),if_neg (by omega),if_neg (by omega)]
  rw [hh]
theorem Bl.two{m k z:Nat}(h:Bl m k)(h0:0<m):Bl (2^z*m) (k+z):=by
 have hk:k≠0:=fun e=>by have:=h.1;rw [e] at this;simp at this;omega
 have hp:0<2^z:=Nat.pow_pos (by omega);refine ⟨?_,Or.inr ?_⟩
 ·rw [Nat.add_comm k z,Nat.pow_add];exact Nat.mul_lt_mul_of_pos_left h.1 hp
 ·rcases h.2 with h2|h2
  ·exact absurd h2 hk
  ·rw [show k+z-1=z+(k-1) from by omega,Nat.pow_add];exact Nat.mul_le_mul_left _ h2
theorem Bl.odd{m k:Nat}(h:Bl m k)(h0:0<m):Bl (2*m+1) (k+1):=by
 have h1:=(h.two (z:=1) h0);rw [Nat.pow_one] at h1;have hk:k≠0:=fun e=>by have:=h.1;rw [e] at this;simp at this;omega
 have e1:2^(k+1)=2*2^k:=by rw [Nat.pow_succ,Nat.mul_comm]
 refine ⟨?_,Or.inr ?_⟩
 ·have:=h.1;omega
 ·rcases h1.2 with h2|h2
  ·omega
  ·omega
structure Std(m d j n b z M K:Nat)(X:Int):Prop where
 hn:n=m*2^j
 hd:0<d
 hA:(if n%d=0 then 2*(n/d) else 2*(n/d)+1)=M*2^z
 ho:M%2=1
 hK:Bl M K
 hb:Bl (n/d) b
 b65:65≤b
 hX:X = -(j:Int)-1+(z:Int)
theorem Std.e{m d j n b z M K:Nat}{X:Int}(h:Std m d j n b z M K X):X+(K:Int)-1=(b:Int)-1-(j:Int):=by
 have hM:0<M:=by have:=h.ho;omega
 have hQ:0<n/d:=by
  refine Nat.pos_of_ne_zero fun e=>?_;have h2:=h.hb.2;rw [e] at h2;have:=Nat.pow_pos (n:=b-1) (show 0<2 by omega);have:=h.b65;omega
 have h1:=h.hK.two (z:=z) hM;rw [Nat.mul_comm,←h.hA] at h1;have h2:Bl (if n%d=0 then 2*(n/d) else 2*(n/d)+1) (b+1):=by
  split
  ·have:=h.hb.two (z:=1) hQ;rw [Nat.pow_one] at this;exact this
  ·exact h.hb.odd hQ
 have h3:=h1.uniq h2;rw [h.hX];omega
theorem Std.row{m d j n b z M K:Nat}{X:Int}(h:Std m d j n b z M K X){B F md:Nat}{s:Bool}(hF:F≤52):∃D:Nat,(D:Int)=bA B F K X+(j:Int)+1∧2≤D∧dX md s M X (bA B F K X)=jI md s n (d*2^(D-1)):=by
 have he:=h.e;have hb:=h.b65;have hX:=h.hX;have hl:(b:Int)-1-(j:Int)-(F:Int)≤bA B F K X:=by unfold bA;omega
 obtain ⟨D,hD⟩:∃D:Nat,(D:Int)=bA B F K X+(j:Int)+1:=⟨(bA B F K X+(j:Int)+1).toNat,by omega⟩;exact ⟨D,hD,by omega,vV (z:=z) h.hd rfl h.hA h.ho (by omega) (by omega)⟩
theorem Fh{m d z q:Nat}(h0:0<m)(hd:0<d)(hz:iw m d=2^z*(2*q+1)){K:Nat}(hK:Bl (2*q+1) K):Std m d (gH m d+fK m d) (dS m d) (aK (dS m d/d)) z (2*q+1) K (jG m d+(z:Int)):=by
 have hn:dS m d=m*2^(gH m d+fK m d):=by unfold dS jE;rw [Nat.pow_add,Nat.mul_assoc]
 refine ⟨hn,hd,by unfold iw at hz;rw [hz,Nat.mul_comm],by omega,hK,bu _,?_,by unfold jG;omega⟩;have h1:0<jE m d:=Nat.mul_pos h0 (Nat.pow_pos (by omega));have bt:=bu (jE m d);have bd:=bu d;have ht:2^(aK (jE m d)-1)≤jE m d:=by
  rcases bt.2 with e|e
  ·have:=bt.1;rw [e] at this;simp at this;omega
  ·exact e
 have ht0:aK (jE m d)≠0:=fun e=>by have:=bt.1;rw [e] at this;simp at this;omega
 have h2:2^(64+aK d)≤dS m d:=by
  unfold dS;refine Nat.le_trans ?_ (Nat.mul_le_mul_right _ ht);rw [←Nat.pow_add];exact Nat.pow_le_pow_right (by omega) (by unfold fK;omega)
 have h3:2^64≤dS m d/d:=by
  rw [Nat.le_div_iff_mul_le hd];refine Nat.le_trans ?_ h2;rw [Nat.pow_add];exact Nat.mul_le_mul_left _ (Nat.le_of_lt bd.1)
 exact (bu _).gt_of h3
structure iX(m q d i j n b z M K:Nat)(X:Int):Prop where
 hn:n*q*2^i=m*d*2^j
 hq:0<q
 hd:0<d
 hA:(if n%d=0 then 2*(n/d) else 2*(n/d)+1)=M*2^z
 ho:M%2=1
 hK:Bl M K
 hb:Bl (n/d) b
 b60:60≤b
 hX:X=(i:Int)-(j:Int)-1+(z:Int)
theorem Std.sti{m d j n b z M K:Nat}{X:Int}(h:Std m d j n b z M K X):iX m d d 0 j n b z M K X:=
 ⟨by rw [Nat.pow_zero,Nat.mul_one,h.hn];ac_rfl,h.hd,h.hd,h.hA,h.ho,h.hK,h.hb,by have:=h.b65;omega,by rw [h.hX];omega⟩
theorem iX.e{m q d i j n b z M K:Nat}{X:Int}(h:iX m q d i j n b z M K X):X+(K:Int)-1=(b:Int)-1-(j:Int)+(i:Int):=by
 have hM:0<M:=by have:=h.ho;omega
 have hQ:0<n/d:=by
  refine Nat.pos_of_ne_zero fun e=>?_;have h2:=h.hb.2;rw [e] at h2;have:=Nat.pow_pos (n:=b-1) (show 0<2 by omega);have:=h.b60;omega
 have h1:=h.hK.two (z:=z) hM;rw [Nat.mul_comm,←h.hA] at h1;have h2:Bl (if n%d=0 then 2*(n/d) else 2*(n/d)+1) (b+1):=by
  split
  ·have:=h.hb.two (z:=1) hQ;rw [Nat.pow_one] at this;exact this
  ·exact h.hb.odd hQ
 have h3:=h1.uniq h2;rw [h.hX];omega
theorem iX.cut{m q d i j n b z M K:Nat}{X t:Int}(h:iX m q d i j n b z M K X)(md:Nat)(s:Bool)(ht:X+(K:Int)-1-52≤t):∃D:Nat,(D:Int)=t+(j:Int)-(i:Int)+1∧2≤D∧dX md s M X t=jI md s n (d*2^(D-1)):=by
 have he:=h.e;have hb:=h.b60;have hX:=h.hX;obtain ⟨D,hD⟩:∃D:Nat,(D:Int)=t+(j:Int)-(i:Int)+1:=⟨(t+(j:Int)-(i:Int)+1).toNat,by omega⟩;exact ⟨D,hD,by omega,vV (z:=z) h.hd rfl h.hA h.ho (by omega) (by omega)⟩
theorem jH{n m q d i j n' m' q' d' i' j' D D':Nat}(h1:n*q*2^i=m*d*2^j)(h2:n'*q'*2^i'=m'*d'*2^j')(hq:0<q)(hq':0<q')(hle:m*q'≤m'*q)(hD:D+j'+i=D'+j+i'):n*(d'*2^D')≤n'*(d*2^D):=by
 have hp2:0<q*q'*2^(i+i'):=Nat.mul_pos (Nat.mul_pos hq hq') (Nat.pow_pos (by omega));have a1:n*(d'*2^D')*(q*q'*2^(i+i'))=m*q'*(d*d'*2^(j+D'+i')):=by
  have:n*(d'*2^D')*(q*q'*2^(i+i'))=n*q*2^i*(d'*q'*(2^D'*2^i')):=by rw [Nat.pow_add];ac_rfl
  rw [this,h1,Nat.pow_add,Nat.pow_add];ac_rfl
 have a2:n'*(d*2^D)*(q*q'*2^(i+i'))=m'*q*(d*d'*2^(j'+D+i)):=by
  have:n'*(d*2^D)*(q*q'*2^(i+i'))=n'*q'*2^i'*(d*q*(2^D*2^i)):=by rw [Nat.pow_add];ac_rfl
  rw [this,h2,Nat.pow_add,Nat.pow_add];ac_rfl
 refine Nat.le_of_mul_le_mul_right ?_ hp2;rw [a1,a2,show j'+D+i=j+D'+i' from by omega];exact Nat.mul_le_mul_right _ hle
theorem iX.le{m q d i j n b z M K:Nat}{X:Int}{m' q' d' i' j' n' b' z' M' K':Nat}{X':Int}(h:iX m q d i j n b z M K X)(h':iX m' q' d' i' j' n' b' z' M' K' X')(hle:m*q'≤m'*q):X+(K:Int)-1≤X'+(K':Int)-1:=by
 have he:=h.e;have he':=h'.e;have hpos:∀k,0<2^k:=fun k=>Nat.pow_pos (by omega);refine Int.not_lt.1 fun hc=>?_;have k1:b'+j+i'+1≤b+j'+i:=by omega
 have l1:2^(b-1)*d≤n:=by
  have h2:2^(b-1)≤n/d:=by
   rcases h.hb.2 with q9|q9
   ·have:=h.b60;omega
   ·exact q9
  exact (Nat.le_div_iff_mul_le h.hd).1 h2
 have l2:n'<2^b'*d':=(Nat.div_lt_iff_lt_mul h'.hd).1 h'.hb.1;obtain ⟨D,hD⟩:∃D,D=j+i':=⟨_,rfl⟩;obtain ⟨D',hD'⟩:∃D',D'=j'+i:=⟨_,rfl⟩;have x:=jH h.hn h'.hn h.hq h'.hq hle (D:=D) (D':=D') (by omega);have y1:2^(b-1)*d*(d'*2^D')≤n*(d'*2^D'):=Nat.mul_le_mul_right _ l1;have y2:n'*(d*2^D)<2^b'*d'*(d*2^D):=Nat.mul_lt_mul_of_pos_right l2 (Nat.mul_pos h.hd (hpos _));have y3:2^(b-1)*d*(d'*2^D')=2^(b-1+D')*(d*d'):=by rw [Nat.pow_add];ac_rfl
 have y4:2^b'*d'*(d*2^D)=2^(b'+D)*(d*d'):=by rw [Nat.pow_add];ac_rfl
 have hb:=h.b60;have y5:2^(b'+D)*(d*d')≤2^(b-1+D')*(d*d'):=Nat.mul_le_mul_right _ (Nat.pow_le_pow_right (by omega) (by omega));omega
theorem iX.cut_le{m q d i j n b z M K:Nat}{X:Int}{m' q' d' i' j' n' b' z' M' K':Nat}{X' t:Int}(h:iX m q d i j n b z M K X)(h':iX m' q' d' i' j' n' b' z' M' K' X')(md:Nat)(s:Bool)(ht:X+(K:Int)-1-52≤t)(ht':X'+(K':Int)-1-52≤t)(hle:m*q'≤m'*q):dX md s M X t≤dX md s M' X' t:=by
 have hpos:∀k,0<2^k:=fun k=>Nat.pow_pos (by omega);obtain ⟨D,hD,hD2,hr⟩:=h.cut md s ht;obtain ⟨D',hD',hD2',hr'⟩:=h'.cut md s ht';rw [hr,hr'];exact BX (Nat.mul_pos h.hd (hpos _)) (Nat.mul_pos h'.hd (hpos _)) (jH h.hn h'.hn h.hq h'.hq hle (by omega))
theorem iX.whole{m q d i j n b z M K:Nat}{X t:Int}(h:iX m q d i j n b z M K X){D:Nat}(hD:(D:Int)=t+(j:Int)-(i:Int)+1)(hD2:2≤D):t≤X↔d*2^(D-1)∣n:=by
 have hX:=h.hX;have hA:=h.hA;have hpos:∀k,0<2^k:=fun k=>Nat.pow_pos (by omega);have hdm:=Nat.div_add_mod n d;constructor
 ·intro ht;obtain ⟨y,rfl⟩:∃y,z=y+D:=⟨z-D,by omega⟩;obtain ⟨D1,rfl⟩:∃D1,D=D1+1:=⟨D-1,by omega⟩;have e:M*2^(y+(D1+1))=2*(2^D1*(M*2^y)):=by rw [Nat.pow_add,Nat.pow_succ];ac_rfl
  rw [e] at hA;by_cases hz:n%d=0
  ·rw [if_pos hz] at hA;refine ⟨M*2^y,?_⟩;rw [show D1+1-1=D1 from by omega,Nat.mul_assoc,←Nat.eq_of_mul_eq_mul_left (show 0<2 by omega) hA];omega
  ·rw [if_neg hz] at hA;omega
 ·intro ⟨c,hc⟩;obtain ⟨D1,rfl⟩:∃D1,D=D1+1:=⟨D-1,by omega⟩;rw [show D1+1-1=D1 from by omega,Nat.mul_assoc] at hc;rw [hc,Nat.mul_mod_right,if_pos rfl,Nat.mul_div_cancel_left _ h.hd] at hA;refine Int.not_lt.1 fun hlt=>?_;obtain ⟨y,hy⟩:∃y,D1+1=z+(y+1):=⟨D1-z,by omega⟩;have e:2*(2^D1*c)=2*(2^y*c)*2^z:=by
   have e0:2^D1*2=2^z*(2^y*2):=by rw [←Nat.pow_succ,←Nat.pow_succ,←Nat.pow_add];exact congrArg (2 ^ ·) hy
   have e1:2*(2^D1*c)=2^D1*2*c:=by ac_rfl
   rw [e1,e0];ac_rfl
  rw [e] at hA;have:=Nat.eq_of_mul_eq_mul_right (hpos z) hA;have:=h.ho;omega
theorem qF{a N a' N':Nat}(hN:0<N)(h:a*N'=a'*N)(hd:N∣a):N'∣a':=by
 obtain ⟨c,rfl⟩:=hd;refine ⟨c,Nat.eq_of_mul_eq_mul_right hN ?_⟩;rw [←h];ac_rfl
theorem iX.same{m q d i j n b z M K:Nat}{X:Int}{m' q' d' i' j' n' b' z' M' K':Nat}{X':Int}(h:iX m q d i j n b z M K X)(h':iX m' q' d' i' j' n' b' z' M' K' X')(B F I md:Nat)(s:Bool)(hF:F≤52)(he:m*q'=m'*q):dz B F md s M K X=dz B F md s M' K' X'∧dG B F I md s M K X=dG B F I md s M' K' X':=by
 have hpos:∀k,0<2^k:=fun k=>Nat.pow_pos (by omega);have ee:X+(K:Int)-1=X'+(K':Int)-1:=Int.le_antisymm (h.le h' (Nat.le_of_eq he)) (h'.le h (Nat.le_of_eq he.symm));have cc:∀t:Int,X+(K:Int)-1-52≤t→dX md s M X t=dX md s M' X' t:=fun t ht=>Nat.le_antisymm (h.cut_le h' md s ht (by omega) (Nat.le_of_eq he)) (h'.cut_le h md s (by omega) ht (Nat.le_of_eq he.symm));have hl:bA B F K X=bA B F K' X':=by unfold bA;omega
 have hlt:X+(K:Int)-1-52≤bA B F K X:=by unfold bA;omega
 have hrow:dz B F md s M K X=dz B F md s M' K' X':=by unfold dz;rw [cc _ hlt,hl]
 have hfree:kL F md s M K X=kL F md s M' K' X':=by unfold kL;rw [cc _ (by omega),ee]
 have hw:bA B F K X≤X↔bA B F K' X'≤X':=by
  obtain ⟨D,hD,hD2,-⟩:=h.cut md s hlt;obtain ⟨D',hD',hD2',-⟩:=h'.cut md s (t:=bA B F K X) (by omega);rw [←hl,h.whole hD hD2,h'.whole hD' hD2'];have x1:=jH h.hn h'.hn h.hq h'.hq (Nat.le_of_eq he) (D:=D-1) (D':=D'-1) (by omega);have x2:=jH h'.hn h.hn h'.hq h.hq (Nat.le_of_eq he.symm) (D:=D'-1) (D':=D-1) (by omega);have x:=Nat.le_antisymm x1 x2;exact ⟨qF (Nat.mul_pos h.hd (hpos _)) x,qF (Nat.mul_pos h'.hd (hpos _)) x.symm⟩
 refine ⟨hrow,?_⟩;unfold dG;rw [hrow,hfree];by_cases h1:bA B F K X≤X
 ·rw [if_pos h1,if_pos (hw.1 h1)]
 ·rw [if_neg h1,if_neg (fun q=>h1 (hw.2 q))]
def pv(F r:Nat):Nat:=if r<2^F then r else (2^F+r%2^F)*2^(r/2^F-1)
theorem lI{F k c:Nat}(hc:c≤2^(F+1))(hk:k=0∨2^F≤c):pv F (k*2^F+c)=c*2^k:=by
 have hP:0<2^F:=Nat.pow_pos (by omega);rw [Nat.pow_succ] at hc;generalize hPd:2^F=P at *;unfold pv;rw [hPd];have key:∀q f:Nat,f<P→k*P+c=q*P+f→1≤q→(if k*P+c<P then k*P+c else (P+(k*P+c)%P)*2^((k*P+c)/P-1))=(P+f)*2^(q-1):=fun q f hf e hq=>by
  have h1:1*P≤q*P:=Nat.mul_le_mul_right _ hq;rw [e,if_neg (by omega),Nat.mul_comm q P,Nat.mul_add_mod,Nat.mod_eq_of_lt hf,Nat.mul_add_div hP,Nat.div_eq_of_lt hf,Nat.add_zero]
 rcases Nat.lt_or_ge c P with h1|h1
 ·have:k=0:=by omega
  subst this;rw [Nat.zero_mul,Nat.zero_add,if_pos h1,Nat.pow_zero,Nat.mul_one]
 ·rcases Nat.lt_or_ge c (P*2) with h2|h2
  ·rw [key (k+1) (c-P) (by omega) (by rw [Nat.add_mul];omega) (by omega),show P+(c-P)=c by omega,Nat.add_sub_cancel]
  ·have h3:c=P*2:=by omega
   rw [key (k+2) 0 hP (by rw [Nat.add_mul];omega) (by omega),Nat.add_zero,show k+2-1=k+1 by omega,Nat.pow_succ,h3]
   ac_rfl
theorem Ap(F r:Nat):∃k c,r=k*2^F+c∧c<2^(F+1)∧(k=0∨2^F≤c):=by
 have hP:0<2^F:=Nat.pow_pos (by omega);rw [Nat.pow_succ];generalize 2^F=P at *;by_cases h:r<P
 ·exact ⟨0,r,by omega,by omega,Or.inl rfl⟩
 ·have h1:=Nat.div_add_mod r P;have h2:=Nat.mod_lt r hP;have h3:1≤r/P:=(Nat.le_div_iff_mul_le hP).2 (by omega);refine ⟨r/P-1,P+r%P,?_,by omega,Or.inr (by omega)⟩;rw [Nat.sub_mul,Nat.one_mul,Nat.mul_comm];have:=Nat.mul_le_mul_left P h3;omega
theorem jc(F r:Nat):pv F r<pv F (r+1):=by
 obtain ⟨k,c,rfl,h1,h2⟩:=Ap F r;rw [lI (by omega) h2,Nat.add_assoc,lI (by omega) (by omega),Nat.add_mul,Nat.one_mul];exact Nat.lt_add_of_pos_right (Nat.pow_pos (by omega))
theorem iD{F r r':Nat}(h:r<r'):pv F r<pv F r':=by
 induction r' with
 | zero=>omega
 | succ n ih=>
  rcases Nat.lt_succ_iff_lt_or_eq.1 h with h|rfl
  ·exact Nat.lt_trans (ih h) (jc F n)
  ·exact jc F r
theorem IM{F r r':Nat}(h:r≤r'):pv F r≤pv F r':=by
 rcases Nat.lt_or_eq_of_le h with h|rfl
 ·exact Nat.le_of_lt (iD h)
 ·exact Nat.le_refl _
theorem fA(F:Nat):pv F 0=0:=by
 unfold pv;rw [if_pos (Nat.pow_pos (by omega))]
def s3(a b:Nat):Int:=if a<b then -1 else if a=b then 0 else 1
theorem tH(r w:Nat):hlf r w=s3 (2*r) w:=rfl
theorem sD{a b c:Nat}(hc:0<c):s3 (a*c) (b*c)=s3 a b:=by
 unfold s3;have e1:(a*c<b*c)=(a<b):=propext (Nat.mul_lt_mul_right hc);have e2:(a*c=b*c)=(a=b):=propext ⟨fun h=>Nat.eq_of_mul_eq_mul_right hc h,fun h=>by rw [h]⟩;simp only [e1,e2]
structure mM(p d B F G M K:Nat)(X:Int)(r0 ρ w:Nat):Prop where
 hρ:ρ<w
 row:∀md s,dz B F md s M K X=r0+(if ρ=0 then 0 else if bN md s (decide (r0%2=1)) (hlf ρ w) then 1 else 0)
 ex:bA B F K X≤X↔ρ=0
 le:pv F r0*d≤p*2^G
 eq:ρ=0↔pv F r0*d=p*2^G
 lt:p*2^G<pv F (r0+1)*d
 half:hlf ρ w=s3 (2*(p*2^G)) ((pv F r0+pv F (r0+1))*d)
theorem lU{p d j n b z M K:Nat}{X:Int}(h:Std p d j n b z M K X){B F G:Nat}(hF:F≤52)(hF1:1≤F)(hG:(G:Int)=(B:Int)+(F:Int)-1):∃r0 ρ w,mM p d B F G M K X r0 ρ w:=by
 have hpos:∀k,0<2^k:=fun k=>Nat.pow_pos (by omega);have hM:0<M:=by have:=h.ho;omega
 obtain ⟨D,hD,hD2,-⟩:=h.row (B:=B) (md:=2) (s:=false) hF;have hrow:∀md s,dX md s M X (bA B F K X)=jI md s n (d*2^(D-1)):=fun md s=>by
  obtain ⟨D',hD',_,hr⟩:=h.row (B:=B) (md:=md) (s:=s) hF;rw [hr,show D'=D by omega]
 obtain ⟨k,hk⟩:∃k:Nat,(k:Int)=bA B F K X-(1-(B:Int)-(F:Int)):=⟨(bA B F K X-(1-(B:Int)-(F:Int))).toNat,by unfold bA;omega⟩;obtain ⟨w,hw⟩:∃w,d*2^(D-1)=w:=⟨_,rfl⟩;have hw0:0<w:=by rw [←hw];exact Nat.mul_pos h.hd (hpos _)
 rw [hw] at hrow;have hdm:=Nat.div_add_mod n w;have hml:=Nat.mod_lt n hw0;obtain ⟨c,hc⟩:∃c,n/w=c:=⟨_,rfl⟩;obtain ⟨ρ,hρ⟩:∃ρ,n%w=ρ:=⟨_,rfl⟩;have hrnd:∀md s,jI md s n w=c+(if ρ=0 then 0 else if bN md s (decide (c%2=1)) (hlf ρ w) then 1 else 0):=fun md s=>by unfold jI;rw [hc,hρ]
 rw [hc,hρ] at hdm;rw [hρ] at hml;have hple:X+(K:Int)-1-(F:Int)≤bA B F K X:=by unfold bA;omega
 have c1:c≤2^(F+1):=by
  have:=kH (md:=2) (s:=false) (F:=F) h.hK hM hple;rw [hrow,hrnd] at this;omega
 have c2:ρ≠0→c+1≤2^(F+1):=fun hne=>by
  have:=kH (md:=3) (s:=false) (F:=F) h.hK hM hple;rw [hrow,hrnd,if_neg hne,if_pos (show bN 3 false (decide (c%2=1)) (hlf ρ w)=true from rfl)] at this;exact this
 have c3:k=0∨2^F≤c:=by
  by_cases h0:k=0
  ·exact Or.inl h0
  ·have:=vN (md:=2) (s:=false) (F:=F) (x:=X) (t:=bA B F K X) h.hK hM (by unfold bA at hk ⊢;omega);rw [hrow,hrnd] at this;have e:(if ρ=0 then 0 else if bN 2 false (decide (c%2=1)) (hlf ρ w)=true then 1 else 0)=0:=by split<;>rfl
   rw [e] at this;exact Or.inr (by omega)
 have hpar:∀c',(k*2^F+c')%2=c'%2:=fun c'=>by
  obtain ⟨f,rfl⟩:∃f,F=f+1:=⟨F-1,by omega⟩;rw [Nat.pow_succ,←Nat.mul_assoc];omega
 have hexp:D-1+G=k+j:=by omega
 have e1:p*2^G*2^j=c*2^k*d*2^j+ρ*2^G:=by
  have a1:p*2^G*2^j=n*2^G:=by rw [h.hn];ac_rfl
  have a2:c*2^k*d*2^j=w*c*2^G:=by
   rw [←hw];have a3:c*2^k*d*2^j=c*d*2^(k+j):=by rw [Nat.pow_add];ac_rfl
   rw [a3,←hexp,Nat.pow_add];ac_rfl
  rw [a1,a2,←Nat.add_mul,hdm]
 have e2:2^k*d*2^j=w*2^G:=by
  rw [←hw];have a3:2^k*d*2^j=d*2^(k+j):=by rw [Nat.pow_add];ac_rfl
  rw [a3,←hexp,Nat.pow_add];ac_rfl
 have v0:pv F (k*2^F+c)=c*2^k:=lI c1 c3;have hlt0:ρ*2^G<w*2^G:=Nat.mul_lt_mul_of_pos_right hml (hpos G);have hnext:p*2^G<pv F (k*2^F+c+1)*d:=by
  rcases Nat.eq_zero_or_pos ρ with h0|h0
  ·rw [h0,Nat.zero_mul,Nat.add_zero] at e1;have e3:=Nat.eq_of_mul_eq_mul_right (hpos j) e1;rw [e3,←v0];exact Nat.mul_lt_mul_of_pos_right (jc F _) h.hd
  ·rw [Nat.add_assoc,lI (c2 (by omega)) (by omega)];refine Nat.lt_of_mul_lt_mul_right (a:=2^j) ?_;rw [e1,Nat.add_mul,Nat.one_mul,Nat.add_mul,Nat.add_mul,e2];omega
 refine ⟨k*2^F+c,ρ,w,hml,fun md s=>?_,?_,?_,?_,hnext,?_⟩
 ·unfold dz;rw [hrow,hrnd,hpar,←hk,Int.toNat_natCast,Nat.add_assoc]
 ·have:=h.sti.whole (t:=bA B F K X) (D:=D) (by omega) hD2;rw [this,hw,←hρ];exact Nat.dvd_iff_mod_eq_zero
 ·rw [v0];refine Nat.le_of_mul_le_mul_right ?_ (hpos j);omega
 ·rw [v0];constructor
  ·intro h0;rw [h0,Nat.zero_mul,Nat.add_zero] at e1;exact (Nat.eq_of_mul_eq_mul_right (hpos j) e1).symm
  ·intro h0;rw [h0] at e1;rcases Nat.eq_zero_or_pos ρ with q|q
   ·exact q
   ·have:=Nat.mul_pos q (hpos G);omega
 ·have hstep:∀v',v'=pv F (k*2^F+c+1)→(ρ≠0→v'=(c+1)*2^k):=fun v' hv hne=>by rw [hv,Nat.add_assoc,lI (c2 hne) (by omega)]
  rcases Nat.eq_zero_or_pos ρ with h0|h0
  ·
   rw [h0,Nat.zero_mul,Nat.add_zero] at e1;have e3:=Nat.eq_of_mul_eq_mul_right (hpos j) e1;have hs:=Nat.mul_lt_mul_of_pos_right (jc F (k*2^F+c)) h.hd;rw [v0] at hs ⊢;rw [h0,tH,Nat.add_mul];unfold s3;rw [if_pos (by omega),if_pos (by omega)]
  ·rw [hstep _ rfl (by omega),v0,tH,←sD (hpos G),←sD (a:=2*(p*2^G)) (hpos j)];have f1:2*(p*2^G)*2^j=2*(c*2^k*d*2^j)+2*ρ*2^G:=by
    rw [Nat.mul_assoc 2 (p*2^G),e1,Nat.mul_add,Nat.mul_assoc 2 ρ]
   have f2:(c*2^k+(c+1)*2^k)*d*2^j=2*(c*2^k*d*2^j)+w*2^G:=by
    rw [←e2,Nat.add_mul c 1,Nat.one_mul,Nat.add_mul,Nat.add_mul,Nat.add_mul,Nat.add_mul];omega
   rw [f1,f2];unfold s3
   split<;>split<;>(try split)<;>(try split)<;>omega
def JQ(j:Nat):List UInt8:=match j with
 | 0=>[101,118,101,110]
 | 1=>[97,119,97,121]
 | 2=>[122,101,114,111]
 | 3=>[117,112]
 | _=>[100,111,119,110]
structure dH(w:World):Prop where
 lt:0<w.heap.size
 c0:w.cell? ⟨0,0,none⟩=some (.string ⟨#[101,118,101,110]⟩)
 c1:w.cell? ⟨0,1,none⟩=some (.string ⟨#[97,119,97,121]⟩)
 c2:w.cell? ⟨0,2,none⟩=some (.string ⟨#[122,101,114,111]⟩)
 c3:w.cell? ⟨0,3,none⟩=some (.string ⟨#[117,112]⟩)
 c4:w.cell? ⟨0,4,none⟩=some (.string ⟨#[100,111,119,110]⟩)
theorem dH.kept{w w':World}(h:dH w)(hb:Below w.heap.size w w'):dH w':=
 ⟨Nat.lt_of_lt_of_le h.lt hb.size,(hb.cell (p:=⟨0,0,none⟩) h.lt).trans h.c0,(hb.cell (p:=⟨0,1,none⟩) h.lt).trans h.c1,(hb.cell (p:=⟨0,2,none⟩) h.lt).trans h.c2,(hb.cell (p:=⟨0,3,none⟩) h.lt).trans h.c3,(hb.cell (p:=⟨0,4,none⟩) h.lt).trans h.c4⟩
theorem CP(w:World)(h:dH w):Calls Tryz.prog 21 #[.int .u8 0] w fun e w'=>e = .returned (.tuple #[.string ⟨#[101,118,101,110]⟩,.int .i64 0])∧Below w.heap.size w w':=by
 go_enter Tryz.func21,Tryz.ntmps21
 go_wp2_with fail
 refine (iy 0 (by decide) _).mono ?_;rintro e w1 ⟨rfl,hb1⟩;have hc:=(h.kept hb1).c0;clear h;go_wp2
 go_ret2
 exact ⟨rfl,hb1⟩
theorem BR(w:World)(h:dH w):Calls Tryz.prog 21 #[.int .u8 1] w fun e w'=>e = .returned (.tuple #[.string ⟨#[97,119,97,121]⟩,.int .i64 0])∧Below w.heap.size w w':=by
 go_enter Tryz.func21,Tryz.ntmps21
 go_wp2_with fail
 refine (iy 1 (by decide) _).mono ?_;rintro e w1 ⟨rfl,hb1⟩;have hc:=(h.kept hb1).c1;clear h;go_wp2
 go_ret2
 exact ⟨rfl,hb1⟩
theorem BJ(w:World)(h:dH w):Calls Tryz.prog 21 #[.int .u8 2] w fun e w'=>e = .returned (.tuple #[.string ⟨#[122,101,114,111]⟩,.int .i64 0])∧Below w.heap.size w w':=by
 go_enter Tryz.func21,Tryz.ntmps21
 go_wp2_with fail
 refine (iy 2 (by decide) _).mono ?_;rintro e w1 ⟨rfl,hb1⟩;have hc:=(h.kept hb1).c2;clear h;go_wp2
 go_ret2
 exact ⟨rfl,hb1⟩
theorem Au(w:World)(h:dH w):Calls Tryz.prog 21 #[.int .u8 3] w fun e w'=>e = .returned (.tuple #[.string ⟨#[117,112]⟩,.int .i64 0])∧Below w.heap.size w w':=by
 go_enter Tryz.func21,Tryz.ntmps21
 go_wp2_with fail
 refine (iy 3 (by decide) _).mono ?_;rintro e w1 ⟨rfl,hb1⟩;have hc:=(h.kept hb1).c3;clear h;go_wp2
 go_ret2
 exact ⟨rfl,hb1⟩
theorem Bc(w:World)(h:dH w):Calls Tryz.prog 21 #[.int .u8 4] w fun e w'=>e = .returned (.tuple #[.string ⟨#[100,111,119,110]⟩,.int .i64 0])∧Below w.heap.size w w':=by
 go_enter Tryz.func21,Tryz.ntmps21
 go_wp2_with fail
 refine (iy 4 (by decide) _).mono ?_;rintro e w1 ⟨rfl,hb1⟩;have hc:=(h.kept hb1).c4;clear h;go_wp2
 go_ret2
 exact ⟨rfl,hb1⟩
theorem zR(md:Nat)(hm:4<md)(w:World):Calls Tryz.prog 21 #[.int .u8 (md:Int)] w fun e w'=>e = .returned (.tuple #[.string ⟨#[]⟩,.int .i64 7])∧Below w.heap.size w w':=by
 go_enter Tryz.func21,Tryz.ntmps21
 go_wp2_with fail
 refine (Cj md hm _).mono ?_;rintro e w1 ⟨rfl,hb1⟩;clear hm;go_wp2
 go_ret2
 exact ⟨rfl,hb1⟩
theorem kW{E F S I:Nat}(h:Fm E F S I)(s:Bool){r:Nat}(hr:r<S):Bt E F ((if s then S else 0)+r) s (r/2^F) (r%2^F):=by
 have hP:=aL F;refine ⟨Nat.mod_lt _ hP,?_,?_⟩
 ·rw [Nat.div_lt_iff_lt_mul hP,←Nat.pow_add,Nat.add_comm E F,←h.hS];exact hr
 ·rw [←h.hS,Nat.mul_comm (r/2^F),Nat.div_add_mod];cases s<;>simp
def Jj:Nat:=1300
def GR:Nat:=2100
structure zy(F G:Nat)(s:Bool)(r:Nat)(sa:Bool)(va da:Nat):Prop where
 eq:va*2^G=pv F r*da
 sg:Rm.sgn sa va=Rm.sgn s va
 hd:0<da
 hg:Nat.gcd va da=1
 h0:sa=true→0<va
 bv:va<2^Jj
 bd:da<2^GR
theorem rW{a b:Nat}(h:a<b):2^a<2^b:=Nat.pow_lt_pow_right (by omega) h
theorem mP{m j:Nat}(h:m%2=1):Nat.gcd m (2^j)=1:=by
 have h2:Nat.Coprime m 2:=by
  rw [Nat.coprime_comm]
  show Nat.gcd 2 m=1
  rw [Nat.gcd_rec,h];decide
 exact Nat.Coprime.pow_right j h2
theorem uI{E F S I B G:Nat}(h:Fm E F S I)(hB:B=2^(E-1)-1)(hG:(G:Int)=(B:Int)+(F:Int)-1)(s:Bool){r:Nat}(hr:r<I) :
  ∃(sa:Bool) (m:Nat) (x:Int) (i j:Nat),pq E F (((if s then S else 0)+r:Nat):Int) sa m x∧jS sa m x∧max x 0=(i:Int)∧max (-x) 0=(j:Int)∧zy F G s r sa (m*2^i) (1*2^j):=by
 have hP:=aL F;have hBt:=kW h s (Nat.lt_trans hr h.lt);have hfin:r/2^F+1<2^E:=by
  have:r/2^F<2^E-1:=by rw [Nat.div_lt_iff_lt_mul hP,←h.hI];exact hr
  have:=aL E;omega
 have hdm:=Nat.div_add_mod r (2^F);have hfl:=Nat.mod_lt r hP;have hpvd:pv F r=if r<2^F then r else (2^F+r%2^F)*2^(r/2^F-1):=rfl;by_cases h0:r=0
 ·subst h0;rw [Nat.zero_div,Nat.zero_mod] at hBt;refine ⟨false,0,0,0,0,zK h.fo (hide hB) hBt,Or.inl ⟨rfl,rfl,rfl⟩,rfl,rfl,?_,?_,by decide,by decide,by simp,?_,?_⟩
  ·rw [fA];simp
  ·cases s<;>simp [Rm.sgn]
  ·rw [Nat.zero_mul];exact Nat.pow_pos (by omega)
  ·exact Nat.lt_of_lt_of_le (show 1*2^0<2^1 by decide) (Nat.pow_le_pow_right (by omega) (by unfold GR;omega))
 ·obtain ⟨M,z,xe,hW⟩:=Wo.ex (B:=B) hfin hfl (fun ⟨a,b⟩=>h0 (by rw [a,b] at hdm;omega));have hr1:=hW.range h.fo (hide hB);have hz:=hW.zle;have hF:=h.fo.f52;have ho:=hW.odd;have hlt:=hW.lt;obtain ⟨k,hk,hpv⟩:∃k:Nat,xe=1-(B:Int)-(F:Int)+(k:Int)∧pv F r=M*2^k:=by
   rcases hW.part with ⟨a1,a2,a3,a4⟩|⟨a1,a2,a3⟩
   ·refine ⟨0,by omega,?_⟩;rw [a1,Nat.mul_zero,Nat.zero_add] at hdm;rw [hpvd,if_pos (by omega),a2,hdm,Nat.pow_zero,Nat.mul_one]
   ·refine ⟨r/2^F-1,by omega,?_⟩;have:¬r<2^F:=fun hc=>by rw [Nat.div_eq_of_lt hc] at a1;omega
    rw [hpvd,if_neg this,a2,Nat.add_comm]
  obtain ⟨i,hi⟩:∃i:Nat,max (xe+(z:Int)) 0=(i:Int):=⟨(max (xe+(z:Int)) 0).toNat,by omega⟩;obtain ⟨j,hj⟩:∃j:Nat,max (-(xe+(z:Int))) 0=(j:Int):=⟨(max (-(xe+(z:Int))) 0).toNat,by omega⟩;have hm0:0<M/2^z:=Nat.pos_of_ne_zero fun e=>by have:=ho.1;rw [e] at this;cases this
  have hml:M/2^z<2^53:=Nat.lt_of_le_of_lt (Nat.div_le_self _ _) (Nat.lt_of_lt_of_le hlt (Nat.pow_le_pow_right (by omega) (by omega)));refine ⟨s,M/2^z,xe+(z:Int),i,j,wC h.fo (hide hB) hBt hW,Or.inr ⟨ho.1,by omega,by omega⟩,hi,hj,?_,rfl,?_,?_,fun _=>Nat.mul_pos hm0 (Nat.pow_pos (by omega)),?_,?_⟩
  ·rw [hpv,Nat.one_mul];have e:i+G=z+k+j:=by omega
   have a1:M/2^z*2^i*2^G=M/2^z*2^(i+G):=by rw [Nat.pow_add];ac_rfl
   rw [a1,e,Nat.pow_add,Nat.pow_add,←Nat.mul_assoc,←Nat.mul_assoc,ho.2]
  ·rw [Nat.one_mul];exact Nat.pow_pos (by omega)
  ·rw [Nat.one_mul];rcases Nat.eq_zero_or_pos j with q|q
   ·rw [q,Nat.pow_zero];exact Nat.gcd_one_right _
   ·have:i=0:=by omega
    rw [this,Nat.pow_zero,Nat.mul_one];exact mP ho.1
  ·refine Nat.lt_of_lt_of_le (Nat.mul_lt_mul_of_pos_right hml (Nat.pow_pos (by omega))) ?_;rw [←Nat.pow_add];exact Nat.pow_le_pow_right (by omega) (by unfold Jj;omega)
  ·rw [Nat.one_mul];exact rW (by unfold GR;omega)
theorem CO(w:World)(s:Bool)(a b:Option Addr)(n c k l:Nat)(h1:Num w a n 0) :
  Calls Tryz.prog 111 #[.agg #[.bool s,.slice a n c,.slice b k l],.int .i64 0] w fun en w'=>en = .returned (.tuple #[.agg #[.bool false,.slice none 0 0,.int .i64 0],.int .i64 0])∧Below w.heap.size w w':=by
 refine ax Tryz.func111 rfl (by kernel_rfl) fun T hK=>?_;replace hK:Kn T _ [(0,.agg #[.bool s,.slice a n c,.slice b k l]),(1,.int .i64 0)]:=hK;have hS:=Fb.begin w;have hG:au [gN a n 0] w:=⟨h1,trivial⟩;refine wq hS hG hK (fun p1=>[.n 2 #[.bool s,.slice a n c,.slice b k l] 29,.n 4 #[.bool false,nJ,vJ 0] 58,.v 5 (vJ 0)]) (fun p1=>[(1,vJ 0),(2,pT (p1 0).N 0),(4,pT (p1 1).N 0),(5,vJ 0)]) (fun p1=>?_) (fun p1 W1 T hF hK=>?_)
 ·iterate 2 refine aI ?_
  refine af ?_;exact ae
 replace hS:=ag.fc hS hF [1000,1001] [⟨(p1 0).N,#[.bool s,.slice a n c,.slice b k l],29,true⟩,⟨(p1 1).N,#[.bool false,nJ,vJ 0],58,true⟩];replace hG:=hF.gx;clear hF;refine wp_seq ?_;refine wq hS hG hK (fun p2=>[.v 10 (pT (p1 0).N 1),.l 11 (.agg #[.slice a n c]) 0 1,.c (some 12) (cV (.bool true))]) (fun p2=>[(1,vJ 0),(2,pT (p1 0).N 0),(4,pT (p1 1).N 0),(5,vJ 0),(12,.bool true)]) (fun p2=>?_) (fun p2 W2 T hF hK=>?_)
 ·refine af ?_;refine aj ?_;refine av (fun W cx=>aD (ig a _ c _ _ (Num.isz (cx.G.1) rfl))) ?_;exact ae
 obtain ⟨hS,hG⟩:=ag.fg hS hF;clear hF;refine wp_cond_true (hK.ew 12) ?_;refine wq hS hG hK (fun p3=>[.v 13 (.agg #[.bool false,nJ,vJ 0]),.p 1 0 [.bool false,nJ,vJ 0],.v 5 (vJ 0)]) (fun p3=>[(1,vJ 0),(2,pT (p1 0).N 0),(4,pT (p1 1).N 0),(5,vJ 0),(12,.bool true)]) (fun p3=>?_) (fun p3 W3 T hF hK=>?_)
 ·refine af ?_;refine aF ?_;refine af ?_;exact ae
 obtain ⟨hS,hG⟩:=ag.fg hS hF;clear hF;refine wp_ret ?_;refine bz ?_;exact aA hS hK (.tuple #[.agg #[.bool false,.slice none 0 0,.int .i64 0],.int .i64 0]) [(1,0,3)] [.bool false,.slice none 0 0,.int .i64 0] (by kernel_rfl) (by kernel_rfl) ⟨rfl,hS.fr⟩
theorem CW{w w':World}{s t:Bool}{a1 a2 a3 a4:Option Addr}{n1 n2 n3 n4:Nat}{x y:Rat}(hx:Fq w s a1 n1 a2 n2 x)(hy:Fq w' t a3 n3 a4 n4 y) :
  decide (x=y)=((s==t)&&decide (x.num.natAbs=y.num.natAbs)&&decide (x.den=y.den)):=by
 have h1:=hx.neg;have h2:=hy.neg;subst h1 h2;by_cases h:x=y
 ·subst h;simp
 ·have:¬((decide (x.num<0)=decide (y.num<0)∧x.num.natAbs=y.num.natAbs)∧x.den=y.den):=by
   rintro ⟨⟨e1,e2⟩,e3⟩;apply h;refine Rat.ext ?_ e3;rw [decide_eq_decide] at e1;omega
  rw [decide_eq_false h]
  symm
  simp only [Bool.and_eq_false_iff,beq_eq_false_iff_ne,decide_eq_false_iff_not];by_cases e1:decide (x.num<0)=decide (y.num<0)
  ·by_cases e2:x.num.natAbs=y.num.natAbs
   ·exact Or.inr (fun e3=>this ⟨⟨e1,e2⟩,e3⟩)
   ·exact Or.inl (Or.inr e2)
  ·exact Or.inl (Or.inl e1)
theorem ze(w:World)(s:Bool)(a b:Option Addr)(n c k l x y i j:Nat)(sz:Int)(hT:Tb w)(h1:Num w a n x)(h2:Num w b k y)(hx:x≠0)(hi:i≤524288)(hj:j≤524288)(hz:(i:Int)-(j:Int)=sz)(hz1:4096<sz)(HB1:Hid (eF x i))(HB2:Hid (eF y j))(HK:Hid (∀(W:World) (B:Nat) (A:Option Addr) (N C:Nat),Mine W B A N C 1→Tb W→Calls Tryz.prog 53 #[.bool s,.agg #[.slice A N C],.int .i64 sz] W fun en W'=>(∃A N C,en = .returned (.tuple #[.agg #[.bool s,.slice A N C,.int .i64 sz],.int .i64 0])∧Mine W' W.heap.size A N C 1)∧Below W.heap.size W W')) :
  Calls Tryz.prog 111 #[.agg #[.bool s,.slice a n c,.slice b k l],.int .i64 0] w fun en w'=>(∃A N C,en = .returned (.tuple #[.agg #[.bool s,.slice A N C,.int .i64 sz],.int .i64 0])∧Mine w' w.heap.size A N C 1)∧Below w.heap.size w w':=by
 refine ax Tryz.func111 rfl (by kernel_rfl) fun T hK=>?_;replace hK:Kn T _ [(0,.agg #[.bool s,.slice a n c,.slice b k l]),(1,.int .i64 0)]:=hK;have hS:=Fb.begin w;have hG:au [gN a n x,gN b k y] w:=⟨h1,h2,trivial⟩;refine wq hS hG hK (fun p1=>[.n 2 #[.bool s,.slice a n c,.slice b k l] 29,.n 4 #[.bool false,nJ,vJ 0] 58,.v 5 (vJ 0)]) (fun p1=>[(1,vJ 0),(2,pT (p1 0).N 0),(4,pT (p1 1).N 0),(5,vJ 0)]) (fun p1=>?_) (fun p1 W1 T hF hK=>?_)
 ·iterate 2 refine aI ?_
  refine af ?_;exact ae
 replace hS:=ag.fc hS hF [1000,1001] [⟨(p1 0).N,#[.bool s,.slice a n c,.slice b k l],29,true⟩,⟨(p1 1).N,#[.bool false,nJ,vJ 0],58,true⟩];replace hG:=hF.gx;clear hF;refine wp_seq ?_;refine wq hS hG hK (fun p2=>[.v 10 (pT (p1 0).N 1),.l 11 (.agg #[.slice a n c]) 0 1,.c (some 12) (cV (.bool false))]) (fun p2=>[(1,vJ 0),(2,pT (p1 0).N 0),(4,pT (p1 1).N 0),(5,vJ 0),(12,.bool false)]) (fun p2=>?_) (fun p2 W2 T hF hK=>?_)
 ·refine af ?_;refine aj ?_;refine av (fun W cx=>aD (ig a _ c _ _ (Num.noz (cx.G.1) hx))) ?_;exact ae
 obtain ⟨hS,hG⟩:=ag.fg hS hF;clear hF;refine wp_cond_false (hK.ew 12) (wp_skip (aB ?_));refine wq hS hG hK (fun p3=>[.n 6 #[vJ 0] 188]) (fun p3=>[(1,vJ 0),(2,pT (p1 0).N 0),(4,pT (p1 1).N 0),(5,vJ 0),(6,pT (p3 0).N 0)]) (fun p3=>?_) (fun p3 W3 T hF hK=>?_)
 ·refine aI ?_;exact ae
 replace hS:=ag.fc hS hF [0,1,1000] [⟨(p1 0).N,#[.bool s,.slice a n c,.slice b k l],29,true⟩,⟨(p1 1).N,#[.bool false,nJ,vJ 0],58,true⟩,⟨(p3 0).N,#[vJ 0],188,true⟩];replace hG:=hF.gx;clear hF;refine wq hS hG hK (fun p4=>[.l 14 (.agg #[.bool s,.slice a n c,.slice b k l]) 0 0,.v 15 (vJ 0),.c (some 16) (cV (vJ sz)),.v 7 (vJ sz)]) (fun p4=>[(1,vJ 0),(2,pT (p1 0).N 0),(4,pT (p1 1).N 0),(5,vJ 0),(6,pT (p3 0).N 0),(7,vJ sz)]) (fun p4=>?_) (fun p4 W4 T hF hK=>?_)
 ·refine aj ?_;refine af ?_;refine av (fun W cx=>aD (nI _ _ s a b n c k l x y i j sz ⟨_,_,cx.B 2 _ rfl (by kernel_rfl) (by kernel_rfl),rfl⟩ (cx.G.1) (cx.G.2.1) hi hj hz HB1 HB2)) ?_;refine af ?_;exact ae
 obtain ⟨hS,hG⟩:=ag.fg hS hF;clear hF;refine wp_seq ?_;refine wq hS hG hK (fun p5=>[.v 17 (vJ sz),.v 18 (.bool true),.v 19 (.bool true),.k (some 20),.k (some 21),.v 22 (.bool true)]) (fun p5=>[(1,vJ 0),(2,pT (p1 0).N 0),(4,pT (p1 1).N 0),(5,vJ 0),(6,pT (p3 0).N 0),(7,vJ sz),(22,.bool true)]) (fun p5=>?_) (fun p5 W5 T hF hK=>?_)
 ·refine af ?_;refine aO (decide_eq_true (show sz>4096 by omega)) ?_;refine af ?_;iterate 2 refine eZ ?_
  refine af ?_;exact ae
 obtain ⟨hS,hG⟩:=ag.fg hS hF;clear hF;have z5:=hS.fr.size;refine wp_cond_true (hK.ew 22) ?_;refine wq hS hG hK (fun p6=>[.v 23 (pT (p1 0).N 0),.l 24 (.bool s) 0 0,.c (some 25) (cN W5.heap.size 1),.v 26 (vJ sz),.c (some 27) (cG W5.heap.size 1 fun x9=>.tuple #[.agg #[.bool s,x9,vJ sz],vJ 0]),.v 28 (.agg #[.bool s,sJ (p6 4),vJ sz]),.v 29 (vJ 0),.p 1 0 [.bool s,sJ (p6 4),vJ sz],.v 5 (vJ 0)]) (fun p6=>[(1,vJ 0),(2,pT (p1 0).N 0),(4,pT (p1 1).N 0),(5,vJ 0),(6,pT (p3 0).N 0)]) (fun p6=>?_) (fun p6 W6 T hF hK=>?_)
 ·refine af ?_;refine aj ?_;refine av (fun W cx=>aT cx.hb (dD 1 _ (by decide))) ?_;refine af ?_;refine av (fun W cx=>fQ cx.hb (aa HK _ _ _ _ _ (cx.F 2 (by kernel_rfl)) (hT.kept cx.fr))) ?_;iterate 2 refine af ?_
  refine aF ?_;refine af ?_;exact ae
 replace hS:=ag.fc hS hF [0,1,2] [⟨(p1 0).N,#[.bool s,.slice a n c,.slice b k l],29,true⟩,⟨(p1 1).N,#[.bool s,sJ (p6 4),vJ sz],58,true⟩,⟨(p3 0).N,#[vJ 0],188,true⟩];replace hG:au (gM W5.heap.size (p6 2).A (p6 2).N (p6 2).C 1::gM W5.heap.size (p6 4).A (p6 4).N (p6 4).C 1::_) W6:=⟨hF.fx 2,hF.fx 4,hF.gx⟩;clear hF;refine wp_ret ?_;refine bz ?_;exact aA hS hK (.tuple #[.agg #[.bool s,.slice (p6 4).A (p6 4).N (p6 4).C,.int .i64 sz],.int .i64 0]) [(1,0,3)] [.bool s,.slice (p6 4).A (p6 4).N (p6 4).C,.int .i64 sz] (by kernel_rfl) (by kernel_rfl) ⟨⟨_,_,_,rfl,Mine.mono hG.2.1 z5⟩,hS.fr⟩
theorem zo(w:World)(s:Bool)(a b:Option Addr)(n c k l x y i j:Nat)(sz:Int)(hT:Tb w)(h1:Num w a n x)(h2:Num w b k y)(hx:x≠0)(hi:i≤524288)(hj:j≤524288)(hz:(i:Int)-(j:Int)=sz)(hz1:sz < -4096)(HB1:Hid (eF x i))(HB2:Hid (eF y j))(HK:Hid (∀(W:World) (B:Nat) (A:Option Addr) (N C:Nat),Mine W B A N C 1→Tb W→Calls Tryz.prog 53 #[.bool s,.agg #[.slice A N C],.int .i64 sz] W fun en W'=>(∃A N C,en = .returned (.tuple #[.agg #[.bool s,.slice A N C,.int .i64 sz],.int .i64 0])∧Mine W' W.heap.size A N C 1)∧Below W.heap.size W W')) :
  Calls Tryz.prog 111 #[.agg #[.bool s,.slice a n c,.slice b k l],.int .i64 0] w fun en w'=>(∃A N C,en = .returned (.tuple #[.agg #[.bool s,.slice A N C,.int .i64 sz],.int .i64 0])∧Mine w' w.heap.size A N C 1)∧Below w.heap.size w w':=by
 refine ax Tryz.func111 rfl (by kernel_rfl) fun T hK=>?_;replace hK:Kn T _ [(0,.agg #[.bool s,.slice a n c,.slice b k l]),(1,.int .i64 0)]:=hK;have hS:=Fb.begin w;have hG:au [gN a n x,gN b k y] w:=⟨h1,h2,trivial⟩;refine wq hS hG hK (fun p1=>[.n 2 #[.bool s,.slice a n c,.slice b k l] 29,.n 4 #[.bool false,nJ,vJ 0] 58,.v 5 (vJ 0)]) (fun p1=>[(1,vJ 0),(2,pT (p1 0).N 0),(4,pT (p1 1).N 0),(5,vJ 0)]) (fun p1=>?_) (fun p1 W1 T hF hK=>?_)
 ·iterate 2 refine aI ?_
  refine af ?_;exact ae
 replace hS:=ag.fc hS hF [1000,1001] [⟨(p1 0).N,#[.bool s,.slice a n c,.slice b k l],29,true⟩,⟨(p1 1).N,#[.bool false,nJ,vJ 0],58,true⟩];replace hG:=hF.gx;clear hF;refine wp_seq ?_;refine wq hS hG hK (fun p2=>[.v 10 (pT (p1 0).N 1),.l 11 (.agg #[.slice a n c]) 0 1,.c (some 12) (cV (.bool false))]) (fun p2=>[(1,vJ 0),(2,pT (p1 0).N 0),(4,pT (p1 1).N 0),(5,vJ 0),(12,.bool false)]) (fun p2=>?_) (fun p2 W2 T hF hK=>?_)
 ·refine af ?_;refine aj ?_;refine av (fun W cx=>aD (ig a _ c _ _ (Num.noz (cx.G.1) hx))) ?_;exact ae
 obtain ⟨hS,hG⟩:=ag.fg hS hF;clear hF;refine wp_cond_false (hK.ew 12) (wp_skip (aB ?_));refine wq hS hG hK (fun p3=>[.n 6 #[vJ 0] 188]) (fun p3=>[(1,vJ 0),(2,pT (p1 0).N 0),(4,pT (p1 1).N 0),(5,vJ 0),(6,pT (p3 0).N 0)]) (fun p3=>?_) (fun p3 W3 T hF hK=>?_)
 ·refine aI ?_;exact ae
 replace hS:=ag.fc hS hF [0,1,1000] [⟨(p1 0).N,#[.bool s,.slice a n c,.slice b k l],29,true⟩,⟨(p1 1).N,#[.bool false,nJ,vJ 0],58,true⟩,⟨(p3 0).N,#[vJ 0],188,true⟩];replace hG:=hF.gx;clear hF;refine wq hS hG hK (fun p4=>[.l 14 (.agg #[.bool s,.slice a n c,.slice b k l]) 0 0,.v 15 (vJ 0),.c (some 16) (cV (vJ sz)),.v 7 (vJ sz)]) (fun p4=>[(1,vJ 0),(2,pT (p1 0).N 0),(4,pT (p1 1).N 0),(5,vJ 0),(6,pT (p3 0).N 0),(7,vJ sz)]) (fun p4=>?_) (fun p4 W4 T hF hK=>?_)
 ·refine aj ?_;refine af ?_;refine av (fun W cx=>aD (nI _ _ s a b n c k l x y i j sz ⟨_,_,cx.B 2 _ rfl (by kernel_rfl) (by kernel_rfl),rfl⟩ (cx.G.1) (cx.G.2.1) hi hj hz HB1 HB2)) ?_;refine af ?_;exact ae
 obtain ⟨hS,hG⟩:=ag.fg hS hF;clear hF;refine wp_seq ?_;refine wq hS hG hK (fun p5=>[.v 17 (vJ sz),.v 18 (.bool false),.v 19 (.bool false),.v 20 (vJ sz),.v 21 (.bool true),.v 22 (.bool true)]) (fun p5=>[(1,vJ 0),(2,pT (p1 0).N 0),(4,pT (p1 1).N 0),(5,vJ 0),(6,pT (p3 0).N 0),(7,vJ sz),(22,.bool true)]) (fun p5=>?_) (fun p5 W5 T hF hK=>?_)
 ·refine af ?_;refine aO (decide_eq_false (show ¬sz>4096 by omega)) ?_;iterate 2 refine af ?_
  refine aO (decide_eq_true (show sz < -4096 by omega)) ?_;refine af ?_;exact ae
 obtain ⟨hS,hG⟩:=ag.fg hS hF;clear hF;have z5:=hS.fr.size;refine wp_cond_true (hK.ew 22) ?_;refine wq hS hG hK (fun p6=>[.v 23 (pT (p1 0).N 0),.l 24 (.bool s) 0 0,.c (some 25) (cN W5.heap.size 1),.v 26 (vJ sz),.c (some 27) (cG W5.heap.size 1 fun x9=>.tuple #[.agg #[.bool s,x9,vJ sz],vJ 0]),.v 28 (.agg #[.bool s,sJ (p6 4),vJ sz]),.v 29 (vJ 0),.p 1 0 [.bool s,sJ (p6 4),vJ sz],.v 5 (vJ 0)]) (fun p6=>[(1,vJ 0),(2,pT (p1 0).N 0),(4,pT (p1 1).N 0),(5,vJ 0),(6,pT (p3 0).N 0)]) (fun p6=>?_) (fun p6 W6 T hF hK=>?_)
 ·refine af ?_;refine aj ?_;refine av (fun W cx=>aT cx.hb (dD 1 _ (by decide))) ?_;refine af ?_;refine av (fun W cx=>fQ cx.hb (aa HK _ _ _ _ _ (cx.F 2 (by kernel_rfl)) (hT.kept cx.fr))) ?_;iterate 2 refine af ?_
  refine aF ?_;refine af ?_;exact ae
 replace hS:=ag.fc hS hF [0,1,2] [⟨(p1 0).N,#[.bool s,.slice a n c,.slice b k l],29,true⟩,⟨(p1 1).N,#[.bool s,sJ (p6 4),vJ sz],58,true⟩,⟨(p3 0).N,#[vJ 0],188,true⟩];replace hG:au (gM W5.heap.size (p6 2).A (p6 2).N (p6 2).C 1::gM W5.heap.size (p6 4).A (p6 4).N (p6 4).C 1::_) W6:=⟨hF.fx 2,hF.fx 4,hF.gx⟩;clear hF;refine wp_ret ?_;refine bz ?_;exact aA hS hK (.tuple #[.agg #[.bool s,.slice (p6 4).A (p6 4).N (p6 4).C,.int .i64 sz],.int .i64 0]) [(1,0,3)] [.bool s,.slice (p6 4).A (p6 4).N (p6 4).C,.int .i64 sz] (by kernel_rfl) (by kernel_rfl) ⟨⟨_,_,_,rfl,Mine.mono hG.2.1 z5⟩,hS.fr⟩
end Go.Proofs.YtaidedkpfnidpaaGreatDoor
