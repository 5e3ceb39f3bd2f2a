/- Of what NearRoundsRow stands on: RcRea RcAwk RcLaw RcRndW RcFar. -/
import Derived.Test.YtaidedkpfnidpaaGreatDoorPbi
namespace Go.Proofs.YtaidedkpfnidpaaGreatDoor
open Go.RowKit
set_option maxHeartbeats 8000000
set_option maxRecDepth 20000
structure kS(G:Nat)(g:Int)(t:Bool)(n d:Nat):Prop where
 hd:0<d
 hg:Nat.gcd n d=1
 hs:t=true→0<n
 eq:Rm.sgn t n*((2^(G+1):Nat):Int)=g*(d:Int)
 bn:n<2^dF
 bd:d<2^dF
theorem vS{md:Nat}(hm:md≤4):∃str,∀W:World,dH W→Calls Tryz.prog 21 #[.int .u8 (md:Int)] W fun e W'=>e = .returned (.tuple #[.string str,.int .i64 0])∧Below W.heap.size W W':=by
 rcases (show md=0∨md=1∨md=2∨md=3∨md=4 by omega) with rfl|rfl|rfl|rfl|rfl
 ·exact ⟨_,fun W h=>CP W h⟩
 ·exact ⟨_,fun W h=>BR W h⟩
 ·exact ⟨_,fun W h=>BJ W h⟩
 ·exact ⟨_,fun W h=>Au W h⟩
 ·exact ⟨_,fun W h=>Bc W h⟩
theorem DV{ex fr top:Nat}(h:ex<top):dN ex fr top≤3:=by unfold dN;(repeat' split)<;>omega
theorem ny{E F S I:Nat}(h:Fm E F S I)(s:Bool){k:Nat}(hk:k<S)(W:World) :
  Calls Tryz.prog 15 #[.agg #[.int .i64 (E:Int),.int .i64 (F:Int)],.int .u64 (((if s then S else 0)+k:Nat):Int)] W fun e W'=>e = .returned (.tuple #[.int .u8 (dN (k/2^F) (k%2^F) (2^E-1):Int),.int .i64 0])∧Below W.heap.size W W':=
 eU E F _ _ _ _ h.fo (kW h s hk) _ (hide rfl) W
theorem Fe{E F S I:Nat}(h:Fm E F S I):dN (I/2^F) (I%2^F) (2^E-1)=4:=by
 have hP:0<2^F:=Nat.pow_pos (by omega);have hE:2^2≤2^E:=Nat.pow_le_pow_right (by omega) h.fo.e2;rw [show I/2^F=2^E-1 by rw [h.hI];exact Nat.mul_div_cancel _ hP,show I%2^F=0 by rw [h.hI];exact Nat.mul_mod_left ..];unfold dN;rw [if_neg (by omega),if_neg (by omega),if_neg (by omega),if_pos rfl]
theorem zX{E F S I k:Nat}(h:Fm E F S I)(hk:k<I):k/2^F<2^E-1:=by
 rw [Nat.div_lt_iff_lt_mul (Nat.pow_pos (by omega)),←h.hI];exact hk
theorem jg{E F S I B G:Nat}(h:Fm E F S I)(hB:B=2^(E-1)-1)(hG:(G:Int)=(B:Int)+(F:Int)-1)(s:Bool){k:Nat}(hk:k≤I)(b md:Int) :
  ∃(sa:Bool) (m:Nat) (x:Int),iO (-(G:Int)) gK sa m x (iP F s k)∧(0<k→sa=s)∧(k=0→sa=false)∧(k=0→m=0)∧∀(er c0:Int)(_:er=0→c0=0)(W:World)(p:Nat),Tb W→W.heap[p]? = some (.cells #[.int .i64 (E:Int),.int .i64 (F:Int),.int .u64 b,.int .u8 md,.int .i64 er] 67 (0,0)) →
   Calls Tryz.prog 58 #[.pointer (some ⟨p,0,none⟩),.int .u64 (((if s then S else 0)+k:Nat):Int),.int .i64 c0] W fun e W'=>(∃A N C,e = .returned (.agg #[.bool sa,.slice A N C,.int .i64 x])∧Mine W' 0 A N C m)∧Below W.heap.size W W':=by
 have hlt:=h.lt;rcases Nat.lt_or_eq_of_le hk with hk|rfl
 ·obtain ⟨sa,m,x,hV,hD,h1,h2,h3⟩:=qz h hB hG s hk;have hc:=DV (fr:=k%2^F) (zX h hk);refine ⟨sa,m,x,hD,h1,h2,h3,fun er c0 hk0 W p hT hp=>?_⟩;exact Ha W E F b md er _ c0 p sa m x _ hT hp hk0 (show ((dN (k/2^F) (k%2^F) (2^E-1):Nat):Int)≠4 by omega) (hide fun W=>ny h s (Nat.lt_trans hk hlt) W) (hide fun W hT=>(hV W hT).mono fun e w' ⟨⟨A,N,C,e1,g⟩,hb⟩=>⟨⟨A,N,C,e1,g.mono (Nat.zero_le _)⟩,hb⟩)
 ·have h6:=h.six;have hBb:B<1024:=by
   have:=Nat.pow_le_pow_right (show 0<2 by omega) (show E-1≤10 by have:=h.fo.e11;omega);omega
  have hc:=ny h s hlt;rw [Fe h] at hc;refine ⟨s,1,(B:Int)+1,EJ h hB hG s,fun _=>rfl,fun e=>by omega,fun e=>by omega,fun er c0 hk0 W p hT hp=>?_⟩;refine GJ W E F b md er _ c0 p s _ (B:Int) S hT hp hk0 ?_ (by omega) (hide fun W=>hc W) (hide fun W=>eO E F B h.fo (hide hB) W) (hide fun W=>dw E F S h.fo (hide h.hS) W) (hide (vB _ _ (by omega)));cases s
  ·exact decide_eq_false (by simp;omega)
  ·exact decide_eq_true (by simp;omega)
theorem A9{E F S I B G:Nat}(h:Fm E F S I)(hB:B=2^(E-1)-1)(hG:(G:Int)=(B:Int)+(F:Int)-1)(hG2:G≤2000){md:Nat}(hm:md≤4)(s:Bool){r:Nat}(hr:r<I) :
  ∃(sl:Bool) (ml:Nat) (xl:Int) (sh:Bool) (mh:Nat) (xh:Int),iO (-(G:Int)-1) (gK+3) sl ml xl (eD md s F r)∧iO (-(G:Int)-1) (gK+3) sh mh xh (dU md s F r) ∧
   ∀(W:World)(p:Nat),Tb W→W.heap[p]? = some (.cells #[.int .i64 (E:Int),.int .i64 (F:Int),.int .u64 (((if s then S else 0)+r:Nat):Int),.int .u8 (md:Int),.int .i64 0] 67 (0,0)) →
    Calls Tryz.prog 22 #[.pointer (some ⟨p,0,none⟩)] W fun e W'=>(∃A N C A' N' C',e = .returned (.tuple #[.agg #[.bool sl,.slice A N C,.int .i64 xl],.agg #[.bool sh,.slice A' N' C',.int .i64 xh]])∧Mine W' 0 A N C ml∧Mine W' 0 A' N' C' mh)∧Below W.heap.size W W':=by
 have hlt:=h.lt;have h6:=h.six;have hL:-100000≤-(G:Int):=by omega
 obtain ⟨sa,m,x,hV,hD,h1,h2,h3⟩:=qz h hB hG s hr;have HV:Hid (∀W:World,Tb W→Calls Tryz.prog 51 #[.agg #[.int .i64 (E:Int),.int .i64 (F:Int)],.int .u64 (((if s then S else 0)+r:Nat):Int)] W fun e W'=>(∃A N C,e = .returned (.tuple #[.agg #[.bool sa,.slice A N C,.int .i64 x],.int .i64 0])∧Mine W' 0 A N C m)∧Below W.heap.size W W'):=
  hide fun W hT=>(hV W hT).mono fun e w' ⟨⟨A,N,C,e1,g⟩,hb⟩=>⟨⟨A,N,C,e1,g.mono (Nat.zero_le _)⟩,hb⟩
 have HB:=hide fun (W:World)=>dw E F S h.fo (hide h.hS) W;have hbor:∀{s1 s2:Bool}{m1 m2:Nat}{x1 x2:Int}{q:Bool}{v:Nat}{y:Int},AV md s1 m1 x1 s2 m2 x2 q v y→∀(W:World)(p:Nat)(A:Option Addr)(N C:Nat)(A':Option Addr)(N' C':Nat),Tb W→W.heap[p]? = some (.cells #[.int .i64 (E:Int),.int .i64 (F:Int),.int .u64 (((if s then S else 0)+r:Nat):Int),.int .u8 (md:Int),.int .i64 0] 67 (0,0))→Mine W 0 A N C m1→Mine W 0 A' N' C' m2 →
   Calls Tryz.prog 57 #[.pointer (some ⟨p,0,none⟩),.agg #[.bool s1,.slice A N C,.int .i64 x1],.agg #[.bool s2,.slice A' N' C',.int .i64 x2]] W fun e W'=>(∃A N C,e = .returned (.agg #[.bool q,.slice A N C,.int .i64 y])∧Mine W' 0 A N C v)∧Below W.heap.size W W':=
  fun hbd W p A N C A' N' C' hT hp g1 g2=>lH _ _ _ 0 md p _ A N C _ _ _ A' N' C' _ _ _ _ _ W g1 g2 hT hp (vB _ _ (by decide)) hbd
 cases s
 ·
  simp only [Bool.false_eq_true,if_false,Nat.zero_add] at *;obtain ⟨su,mu,xu,hDu,u1,u2,u3,hWu⟩:=jg h hB hG false (show r+1≤I by omega) (r:Int) (md:Int);simp only [Bool.false_eq_true,if_false,Nat.zero_add] at hWu;have hsa:sa=false:=by
   rcases Nat.eq_zero_or_pos r with e|e
   ·exact h2 e
   ·exact h1 e
  subst hsa;obtain rfl:=u1 (by omega);obtain ⟨sh,mh,xh,hBo,hDh⟩:=iA hL (by omega) hm hD hDu (Or.inl rfl);rw [(kV hm F r).1] at hDh;have hup:nX S r=r+1:=by unfold nX;rw [if_pos (by omega)]
  have iV:=wV h (b:=r) (by omega) (by rw [Nat.mod_eq_of_lt (by omega)];omega) (by omega);rw [hup] at iV;rcases Nat.eq_zero_or_pos r with e|e
  ·subst e;refine ⟨false,m,x,sh,mh,xh,?_,hDh,fun W p hT hp=>?_⟩
   ·have:=hD.up;have e0:iP F false 0=0:=by unfold iP;rw [fA];rfl
    rw [e0] at this;exact this.more (by omega)
   ·exact oU W _ _ _ _ (S:Int) p false m x false true 0 false 0 0 false m x _ false mu xu sh mh xh hT hp HV HB rfl (by simp;omega) (hide fun e=>by cases e) (hide fun e=>by cases e) (hide fun e=>by cases e) (hide fun _=>⟨rfl,rfl,rfl⟩) (hide fun _=>iV) (hide fun _ W hT hp=>hWu 0 0 (fun _=>rfl) W p hT hp) (hide fun _ W A N C A' N' C' hT hp g1 g2=>hbor hBo W p A N C A' N' C' hT hp g1 g2) (hide fun e=>by cases e) (fun _=>rfl)
  ·obtain ⟨sd,m2,xd,hDd,d1,d2,d3,hWd⟩:=jg h hB hG false (show r-1≤I by omega) (r:Int) (md:Int);simp only [Bool.false_eq_true,if_false,Nat.zero_add] at hWd;have hsd:sd=false:=by
    rcases Nat.eq_zero_or_pos (r-1) with e|e
    ·exact d2 e
    ·exact d1 e
   subst hsd;obtain ⟨sl,ml,xl,hBl,hDl⟩:=iA hL (by omega) hm hDd hD (Or.inl rfl);have hv:=(kV hm F (r-1)).1;rw [show r-1+1=r by omega] at hv;rw [hv] at hDl;have hdn:oW S r=r-1:=by unfold oW;rw [if_neg (by omega),if_pos (by omega)]
   have HDn:=rC h (b:=r) (by omega) (by rw [Nat.mod_eq_of_lt (by omega)];omega) (by omega);rw [hdn] at HDn;refine ⟨sl,ml,xl,sh,mh,xh,by unfold eD;rw [if_neg (by decide),if_neg (by omega)];exact hDl,hDh,fun W p hT hp=>?_⟩;exact oU W _ _ _ _ (S:Int) p false m x true true _ false m2 xd sl ml xl _ false mu xu sh mh xh hT hp HV HB (by simp;omega) (by simp;omega) (hide fun _=>HDn) (hide fun _ W hT hp=>hWd 0 0 (fun _=>rfl) W p hT hp) (hide fun _ W A N C A' N' C' hT hp g1 g2=>hbor hBl W p A N C A' N' C' hT hp g1 g2) (hide fun e=>by cases e) (hide fun _=>iV) (hide fun _ W hT hp=>hWu 0 0 (fun _=>rfl) W p hT hp) (hide fun _ W A N C A' N' C' hT hp g1 g2=>hbor hBo W p A N C A' N' C' hT hp g1 g2) (hide fun e=>by cases e) (fun e=>by cases e)
 ·
  simp only [if_true] at *;obtain ⟨sd,m2,xd,hDd,d1,d2,d3,hWd⟩:=jg h hB hG true (show r+1≤I by omega) ((S+r:Nat):Int) (md:Int);simp only [if_true] at hWd;obtain rfl:=d1 (by omega);have hsg:true=sa∨m2=0∨m=0:=by
   rcases Nat.eq_zero_or_pos r with e|e
   ·exact Or.inr (Or.inr (h3 e))
   ·exact Or.inl (h1 e).symm
  obtain ⟨sl,ml,xl,hBl,hDl⟩:=iA hL (by omega) hm hDd hD hsg;rw [(kV hm F r).2] at hDl;have hdn:oW S (S+r)=S+(r+1):=by unfold oW;rw [if_neg (by omega),if_neg (by omega)];omega
  have hmod:(S+r)%S=r:=by rw [Nat.add_mod_left,Nat.mod_eq_of_lt (by omega)]
  have HDn:=rC h (b:=S+r) (by omega) (by rw [hmod];omega) (by omega);rw [hdn] at HDn;rcases Nat.eq_zero_or_pos r with e|e
  ·subst e;obtain rfl:=h2 rfl;refine ⟨sl,ml,xl,false,m,x,hDl,?_,fun W p hT hp=>?_⟩
   ·have:=hD.up;have e0:iP F true 0=0:=by unfold iP;rw [fA];rfl
    rw [e0] at this;exact this.more (by omega)
   ·exact oU W _ _ _ _ (S:Int) p false m x true false _ true m2 xd sl ml xl 0 false 0 0 false m x hT hp HV HB (by simp;omega) (by simp) (hide fun _=>HDn) (hide fun _ W hT hp=>hWd 0 0 (fun _=>rfl) W p hT hp) (hide fun _ W A N C A' N' C' hT hp g1 g2=>hbor hBl W p A N C A' N' C' hT hp g1 g2) (hide fun e=>by cases e) (hide fun e=>by cases e) (hide fun e=>by cases e) (hide fun e=>by cases e) (hide fun _=>⟨rfl,rfl,rfl⟩) (fun e=>by cases e)
  ·obtain rfl:=h1 e;obtain ⟨su,mu,xu,hDu,u1,u2,u3,hWu⟩:=jg h hB hG true (show r-1≤I by omega) ((S+r:Nat):Int) (md:Int);simp only [if_true] at hWu;have hsu:true=su∨m=0∨mu=0:=by
    rcases Nat.eq_zero_or_pos (r-1) with e|e
    ·exact Or.inr (Or.inr (u3 e))
    ·exact Or.inl (u1 e).symm
   obtain ⟨sh,mh,xh,hBo,hDh⟩:=iA hL (by omega) hm hD hDu hsu;have hv:=(kV hm F (r-1)).2;rw [show r-1+1=r by omega] at hv;rw [hv] at hDh;have hup:nX S (S+r)=S+(r-1):=by unfold nX;rw [if_neg (by omega),if_neg (by omega)];omega
   have iV:=wV h (b:=S+r) (by omega) (by rw [hmod];omega) (by omega);rw [hup] at iV;refine ⟨sl,ml,xl,sh,mh,xh,hDl,by unfold dU;rw [if_pos rfl,if_neg (by omega)];exact hDh,fun W p hT hp=>?_⟩;exact oU W _ _ _ _ (S:Int) p true m x true true _ true m2 xd sl ml xl _ su mu xu sh mh xh hT hp HV HB (by simp;omega) (by simp;omega) (hide fun _=>HDn) (hide fun _ W hT hp=>hWd 0 0 (fun _=>rfl) W p hT hp) (hide fun _ W A N C A' N' C' hT hp g1 g2=>hbor hBl W p A N C A' N' C' hT hp g1 g2) (hide fun e=>by cases e) (hide fun _=>iV) (hide fun _ W hT hp=>hWu 0 0 (fun _=>rfl) W p hT hp) (hide fun _ W A N C A' N' C' hT hp g1 g2=>hbor hBo W p A N C A' N' C' hT hp g1 g2) (hide fun e=>by cases e) (fun e=>by cases e)
theorem vI{E F S I B G:Nat}(h:Fm E F S I)(hB:B=2^(E-1)-1)(hG:(G:Int)=(B:Int)+(F:Int)-1):G≤2000:=by
 have:=Nat.pow_le_pow_right (show 0<2 by omega) (show E-1≤10 by have:=h.fo.e11;omega);have:=h.fo.f52;omega
theorem nZ{E F S I B G:Nat}(h:Fm E F S I)(hB:B=2^(E-1)-1)(hG:(G:Int)=(B:Int)+(F:Int)-1){md:Nat}(hm:md≤4)(s:Bool){r:Nat}(hr:r<I) :
  ∃(sl sh:Bool) (nl dl nh dh:Nat),kS G (eD md s F r) sl nl dl∧kS G (dU md s F r) sh nh dh∧∀W:World,Tb W→dH W→Calls Tryz.prog 6 #[.agg #[.int .i64 (E:Int),.int .i64 (F:Int)],.int .u64 (((if s then S else 0)+r:Nat):Int),.int .u8 (md:Int)] W fun en W'=>(∃A1 N1 C1 A1' N1' C1' A2 N2 C2 A2' N2' C2',en = .returned (.tuple #[.agg #[.bool sl,.slice A1 N1 C1,.slice A1' N1' C1'],.agg #[.bool sh,.slice A2 N2 C2,.slice A2' N2' C2'],.bool (iW md s r),.bool (jo md s r),.int .i64 0])∧Mine W' W.heap.size A1 N1 C1 nl∧Mine W' W.heap.size A1' N1' C1' dl∧Mine W' W.heap.size A2 N2 C2 nh∧Mine W' W.heap.size A2' N2' C2' dh)∧Below W.heap.size W W':=by
 have hG2:=vI h hB hG;have hlt:=h.lt;obtain ⟨sl,ml,xl,sh,mh,xh,hDl,hDh,hE⟩:=A9 h hB hG hG2 hm s hr;obtain ⟨nl,dl,l1,l2,l3,l4,l5,l6,l7,lr,il,jl,l8,l9,lx⟩:=hDl.ratio (G:=G) (by omega) (by decide) (by omega);obtain ⟨nh,dh,k1,k2,k3,k4,k5,k6,k7,kr,ih,jh,k8,k9,kx⟩:=hDh.ratio (G:=G) (by omega) (by decide) (by omega);obtain ⟨str,hN⟩:=vS hm;refine ⟨sl,sh,nl,dl,nh,dh,⟨l1,l2,l3,l4,l5,l6⟩,⟨k1,k2,k3,k4,k5,k6⟩,fun W hT hn=>?_⟩;have hlo:dV md s F r G sl (ml*2^il) (2^jl)↔iW md s r=true:=by rw [←l8,←l9];exact uZ l1 l3 l4
 have hhi:dV md s F r G sh (mh*2^ih) (2^jh)↔jo md s r=true:=by rw [←k8,←k9];exact uX k1 k3 k4
 have hb2:(if s then S else 0)+r<2*S:=by cases s<;>simp<;>omega
 exact ER W E F _ md str sl ml xl sh mh xh nl dl nh dh _ _ hT hn (hide fun W q hq=>fe _ _ q _ (eY h hb2) W hq) (hide fun W hn=>hN W hn) (hide hE) (hide lr) (hide kr) (hide fun W p A N C hp g=>vY h hB hG hm s hr hDl.ok lx _ hlo 0 W p A N C hp g) (hide fun W p A N C hp g=>vY h hB hG hm s hr hDh.ok kx _ hhi 0 W p A N C hp g)
theorem yJ{E F S I B G:Nat}(h:Fm E F S I)(hB:B=2^(E-1)-1)(hG:(G:Int)=(B:Int)+(F:Int)-1){md:Nat}(hm:md≤4)(s:Bool){r:Nat}(hr:r<I) :
  ∃(sl sh:Bool) (nl dl nh dh:Nat),kS G (eD md s F r) sl nl dl∧kS G (dU md s F r) sh nh dh∧Im E F (((if s then S else 0)+r:Nat):Int) md sl sh (iW md s r) (jo md s r) nl dl nh dh:=by
 obtain ⟨sl,sh,nl,dl,nh,dh,h1,h2,h3⟩:=nZ h hB hG hm s hr;refine ⟨sl,sh,nl,dl,nh,dh,h1,h2,fun W hT hn=>(h3 W hT hn).mono ?_⟩;rintro e w' ⟨⟨A1,N1,C1,A1',N1',C1',A2,N2,C2,A2',N2',C2',e1,g1,g2,g3,g4⟩,hb⟩;exact ⟨⟨A1,N1,C1,A1',N1',C1',A2,N2,C2,A2',N2',C2',e1,g1.num,g2.num,g3.num,g4.num⟩,hb⟩
theorem xw(E F B b ex fr:Nat)(s:Bool)(h0:Fo E F)(HB:Hid (B=2^(E-1)-1))(hB:Bt E F b s ex fr)(hnf:¬ex+1<2^E)(w:World) :
  Calls Tryz.prog 51 #[.agg #[.int .i64 (E:Int),.int .i64 (F:Int)],.int .u64 b] w fun e w'=>e = .returned (.tuple #[.agg #[.bool false,.slice none 0 0,.int .i64 0],.int .i64 8])∧Below w.heap.size w w':=by
 have h2:=(aJ h0.e2:2^2≤2^E);by_cases hf:fr=0
 ·exact EO E F B b ex fr s h0 HB hB (by unfold dN;rw [if_neg (by omega),if_neg (by omega),if_neg (by omega),if_pos hf]) w
 ·exact Ea E F B b ex fr s h0 HB hB (by unfold dN;rw [if_neg (by omega),if_neg (by omega),if_neg (by omega),if_neg hf]) w
theorem xy{E F S I:Nat}(h:Fm E F S I)(s:Bool){q:Nat}(hq:I≤q)(hq2:q<S) :
  (∃(sd:Bool) (kd:Nat) (cd:Int),kd≤I∧bf 59 #[.agg #[.int .i64 (E:Int),.int .i64 (F:Int)],.int .u64 (((if s then S else 0)+q:Nat):Int)] (.tuple #[.int .u64 (((if sd then S else 0)+kd:Nat):Int),.int .i64 cd])) ∧
  (∃(su:Bool) (ku:Nat) (cu:Int),ku≤I∧bf 14 #[.agg #[.int .i64 (E:Int),.int .i64 (F:Int)],.int .u64 (((if s then S else 0)+q:Nat):Int)] (.tuple #[.int .u64 (((if su then S else 0)+ku:Nat):Int),.int .i64 cu])):=by
 have hlt:=h.lt;have h6:=h.six;have hmod:((if s then S else 0)+q)%S=q:=by
  cases s
  ·simp only [Bool.false_eq_true,if_false,Nat.zero_add];exact Nat.mod_eq_of_lt hq2
  ·simp only [if_true];rw [Nat.add_mod_left,Nat.mod_eq_of_lt hq2]
 have hb2:(if s then S else 0)+q<2*S:=by cases s<;>simp<;>omega
 by_cases he:q=I
 ·subst he;cases s
  ·simp only [Bool.false_eq_true,if_false,Nat.zero_add] at *;refine ⟨⟨false,q-1,0,by omega,?_⟩,⟨false,0,60,by omega,?_⟩⟩
   ·have:=rC h hb2 (by rw [hmod];omega) (by omega);rw [show oW S q=q-1 by unfold oW;rw [if_neg (by omega),if_pos (by omega)]] at this;simpa using this
   ·have:=Ih h;simpa using this
  ·simp only [if_true] at *;refine ⟨⟨false,0,60,by omega,?_⟩,⟨true,q-1,0,by omega,?_⟩⟩
   ·have:=Ip h;simpa using this
   ·have:=wV h hb2 (by rw [hmod];omega) (by omega);rw [show nX S (S+q)=S+(q-1) by unfold nX;rw [if_neg (by omega),if_neg (by omega)];omega] at this;simpa using this
 ·refine ⟨⟨false,0,2,by omega,?_⟩,⟨false,0,2,by omega,?_⟩⟩
  ·have:=Iu h hb2 (by rw [hmod];omega);simpa using this
  ·have:=Jt h hb2 (by rw [hmod];omega);simpa using this
theorem zU{E F S I B G:Nat}(h:Fm E F S I)(hB:B=2^(E-1)-1)(hG:(G:Int)=(B:Int)+(F:Int)-1){md:Nat}(hm:md≤4)(s:Bool){q:Nat}(hq:I≤q)(hq2:q<S)(W:World)(hT:Tb W)(hn:dH W) :
  Calls Tryz.prog 6 #[.agg #[.int .i64 (E:Int),.int .i64 (F:Int)],.int .u64 (((if s then S else 0)+q:Nat):Int),.int .u8 (md:Int)] W fun e W'=>e = .returned (.tuple #[.agg #[.bool false,.slice none 0 0,.slice none 0 0],.agg #[.bool false,.slice none 0 0,.slice none 0 0],.bool false,.bool false,.int .i64 8])∧Below W.heap.size W W':=by
 have hlt:=h.lt;have h6:=h.six;have hG2:=vI h hB hG;have hL:-100000≤-(G:Int):=by omega
 have hpos:0<S:=by omega
 obtain ⟨⟨sd,kd,cd,hkd,hDn⟩,⟨su,ku,cu,hku,hUp⟩⟩:=xy h s hq hq2;obtain ⟨b,hbd⟩:∃b,b=(if s then S else 0)+q:=⟨_,rfl⟩;have hbt:=kW h s hq2;rw [←hbd] at hDn hUp hbt ⊢;have hb0:(b:Int)≠0:=by cases s<;>simp at hbd<;>omega
 have hbS:(b:Int)≠(S:Int):=by cases s<;>simp at hbd<;>omega
 have hb2:b<2*S:=by cases s<;>simp at hbd<;>omega
 have hval:=fun W=>xw E F B b _ _ s h.fo (hide hB) hbt (by
  have h1:2^E-1≤q/2^F:=(Nat.le_div_iff_mul_le (Nat.pow_pos (by omega))).2 (by rw [←h.hI];exact hq);omega) W
 have gz:iO (-(G:Int)) gK false 0 0 0:=⟨Or.inl ⟨rfl,rfl,rfl⟩,by omega,by rw [Nat.zero_mul];rfl,by rw [Nat.zero_mul];exact Nat.pow_pos (by omega)⟩;obtain ⟨sd',m1,x1,hD1,-,-,-,hW1⟩:=jg h hB hG sd hkd (b:Int) (md:Int);obtain ⟨su',m2,x2,hD2,-,-,-,hW2⟩:=jg h hB hG su hku (b:Int) (md:Int);obtain ⟨sl,ml,xl,hBl,hDl⟩:=iA hL (by omega) hm hD1 gz (Or.inr (Or.inr rfl));obtain ⟨sh,mh,xh,hBh,hDh⟩:=iA hL (by omega) hm gz hD2 (Or.inr (Or.inl rfl));obtain ⟨nl,dl,l1,l2,l3,l4,l5,l6,l7,lr,il,jl,l8,l9,lx⟩:=hDl.ratio (G:=G) (by omega) (by decide) (by omega);obtain ⟨nh,dh,k1,k2,k3,k4,k5,k6,k7,kr,ih,jh,k8,k9,kx⟩:=hDh.ratio (G:=G) (by omega) (by decide) (by omega);obtain ⟨str,hN⟩:=vS hm;have hor:∀(P:Prop),∃q:Bool,(P↔q=true):=fun P=>by
  by_cases hP:P
  ·exact ⟨true,by simp [hP]⟩
  ·exact ⟨false,by simp [hP]⟩
 have hhas:∀{s1:Bool}{m:Nat}{x:Int}{i j:Nat},jS s1 m x→x=(i:Int)-(j:Int)→∃q:Bool,∀(W:World)(p:Nat)(A:Option Addr)(N C:Nat),W.heap[p]? = some (.cells #[.int .i64 (E:Int),.int .i64 (F:Int),.int .u64 (b:Int),.int .u8 (md:Int),.int .i64 8] 67 (0,0))→Mine W 0 A N C m→Calls Tryz.prog 25 #[.pointer (some ⟨p,0,none⟩),.agg #[.bool s1,.slice A N C,.int .i64 x]] W fun e W'=>e = .returned (.bool q)∧Below W.heap.size W W':=by
  intro s1 m x i j hO hx;obtain ⟨bt,fl,hD,-⟩:=mU h hB hG hm s hO hx;have hs:decide ((b:Int)≥(S:Int))=s:=by
   cases s
   ·exact decide_eq_false (by simp at hbd;omega)
   ·exact decide_eq_true (by simp at hbd;omega)
  have HB:=hide fun (W:World)=>dw E F S h.fo (hide h.hS) W;obtain ⟨q,hq⟩:=hor (bt=b∧bits BinOp.and .u8 (fl:Int) 2=0);exact ⟨q,fun W p A N C hp g=>uU W _ _ _ _ _ p s1 A N C x s _ _ _ _ q hp hs HB (hide fun W' hb=>hD W' 0 A N C (g.kept hb)) rfl (hide (nD hq))⟩
 obtain ⟨li,hli⟩:=hhas hDl.ok lx;obtain ⟨hi,hhi⟩:=hhas hDh.ok kx;refine G9 W E F _ md str sl ml xl sh mh xh nl dl nh dh li hi hT hn (hide fun W q hq=>fe _ _ q _ (eY h hb2) W hq) (hide fun W hn=>hN W hn) (hide fun W p hT hp=>?_) (hide lr) (hide kr) (hide hli) (hide hhi);refine (Gh W E F b md S p _ cd sd' m1 x1 _ cu su' m2 x2 sl ml xl sh mh xh hT hp (hide hval) (hide fun W=>dw E F S h.fo (hide h.hS) W) hb0 hbS (hide hDn) (hide fun W hT hp=>hW1 8 cd (fun e=>absurd e (by decide)) W p hT hp) (hide fun W A N C A' N' C' hT hp g1 g2=>lH _ _ _ 8 md p _ A N C _ _ _ A' N' C' _ _ _ _ _ W g1 g2 hT hp (vB _ _ (by decide)) hBl) (hide hUp) (hide fun W hT hp=>hW2 8 cu (fun e=>absurd e (by decide)) W p hT hp) (hide fun W A N C A' N' C' hT hp g1 g2=>lH _ _ _ 8 md p _ A N C _ _ _ A' N' C' _ _ _ _ _ W g1 g2 hT hp (vB _ _ (by decide)) hBh)).mono ?_;rintro e w' ⟨g,k2,k3⟩;refine ⟨g,bJ.below (by decide) (bD _ rfl) (bD _ rfl) rfl (by simp) hp k2 k3⟩
theorem Db:Fo 5 10:=⟨by decide,by decide,by decide,by decide⟩
theorem lN:Fm 5 10 32768 31744:=⟨Db,by decide,by decide⟩
theorem hb5:Hid (15=2^(5-1)-1):=hide rfl
theorem JD:bf 14 #[.agg #[.int .i64 5,.int .i64 10],.int .u64 32769] (.tuple #[.int .u64 32768,.int .i64 0]):=wV lN (b:=32769) (by decide) (by decide) (by decide)
theorem Jl:bf 14 #[.agg #[.int .i64 5,.int .i64 10],.int .u64 31744] (.tuple #[.int .u64 0,.int .i64 60]):=Ih lN
theorem JP:bf 18 #[.agg #[.int .i64 5,.int .i64 10],.int .u64 31744,.int .u64 64512] (.tuple #[.bool true,.int .u64 63488,.int .i64 0]):=fun W=>by
 obtain ⟨c1,hc1,HC⟩:=jk lN (b:=31744) (by decide) (by decide);obtain ⟨c2,hc2,HD⟩:=jk lN (b:=64512) (by decide) (by decide);exact xH 5 10 31744 64512 c1 hc1 c2 hc2 (eY lN (b:=31744) (by decide)) (eY lN (b:=64512) (by decide)) HC HD _ _ _ _ _ _ (fI lN (b:=31744) (by decide)) (fI lN (b:=64512) (by decide)) (mI lN (b:=31744) (by decide)) (mI lN (b:=64512) (by decide)) (by decide) (by decide) (by decide) (by decide) (by decide) _ (by decide) W
theorem FM:Bt 5 10 31743 false 30 1023:=⟨by decide,by decide,by decide⟩
theorem FB:pq 5 10 31743 false 2047 5:=by
 have h:=wC (E:=5) (F:=10) (B:=15) (M:=2047) (z:=0) (xe:=5) Db hb5 FM ⟨⟨1023,by decide⟩,Or.inr ⟨by decide,by decide,by decide⟩,by decide,by decide⟩;rw [show (2047/2^0:Nat)=2047 from by decide,show ((5:Int)+((0:Nat):Int))=5 from by decide] at h;exact h
theorem iM(w:World):Calls Tryz.prog 17 #[] w fun e w'=>e = .returned (.agg #[.int .i64 5,.int .i64 10])∧Below w.heap.size w w':=by
 go_enter Tryz.func17,Tryz.ntmps17
 go_wp2
 exact bodyPost_ret (v:=.agg #[.int .i64 5,.int .i64 10]) (by simp [results,Tryz.results17,go_sem]) rfl ⟨rfl,ah _ _⟩
theorem Dr(w:World)(hT:Tb w)(hN:dH w):Calls Tryz.prog 6 #[.agg #[.int .i64 5,.int .i64 10],.int .u64 0,.int .u8 1] w fun e w'=>(∃A N C A' N' C' B M D B' M' D',e = .returned (.tuple #[.agg #[.bool false,.slice A N C,.slice A' N' C'],.agg #[.bool false,.slice B M D,.slice B' M' D'],.bool true,.bool false,.int .i64 0])∧Mine w' w.heap.size A N C 0∧Mine w' w.heap.size A' N' C' 1∧Mine w' w.heap.size B M D 1∧Mine w' w.heap.size B' M' D' 33554432)∧Below w.heap.size w w':=by
 obtain ⟨sl,sh,nl,dl,nh,dh,hl,hh,hR⟩:=nZ (md:=1) lN (B:=15) (G:=24) (by decide) (by decide) (by decide) false (r:=0) (by decide);have e1:eD 1 false 10 0=0:=rfl;have e2:dU 1 false 10 0=1:=by decide
 have a1:=hl.eq;rw [e1,Int.zero_mul] at a1;have n0:nl=0:=by
  cases sl<;>simp [Rm.sgn] at a1<;>omega
 subst n0;have s0:sl=false:=by
  cases sl
  ·rfl
  ·have:=hl.hs rfl;omega
 have d0:dl=1:=by have:=hl.hg;rwa [Nat.gcd_zero_left] at this
 have a2:=hh.eq;rw [e2,Int.one_mul] at a2;have hd:=hh.hd;have s1:sh=false:=by
  cases sh
  ·rfl
  ·simp [Rm.sgn] at a2;omega
 subst s1;have a3:nh*33554432=dh:=by
  simp [Rm.sgn] at a2;omega
 have n1:nh=1:=by
  have:=hh.hg;rw [←a3,Nat.gcd_mul_right_right] at this;exact this
 subst s0;subst d0;subst n1;rw [Nat.one_mul] at a3;subst a3;exact hR w hT hN
theorem JN:bf 52 #[.agg #[.int .i64 5,.int .i64 10]] (.tuple #[.int .i64 (-24),.int .i64 15,.int .i64 0]):=fun W=>by
 have h:=eO 5 10 15 Db hb5 W;rw [show (1-((15:Nat):Int)-((10:Nat):Int)) = -24 from by decide] at h;exact h
theorem Jy(w:World)(hT:Tb w):Calls Tryz.prog 19 #[.agg #[.int .i64 5,.int .i64 10],.int .u64 31743] w fun e w'=>(∃A N C,e = .returned (.tuple #[.agg #[.bool false,.slice A N C,.int .i64 5],.int .i64 0])∧Mine w' w.heap.size A N C 1)∧Below w.heap.size w w':=
 He 5 10 31743 false 2047 5 false 30 1023 (-24) 15 30 5 w hT (hide FB) (fun W=>kQ 5 10 31743 30 1023 false Db FM W) JN (by decide) (by decide) (by decide) (by decide) (hide (vB _ _ (by decide)))
theorem DF  (w:World) (hT:Tb w) (hN:dH w) :
  Calls Tryz.prog 5 #[] w fun e w'=>e = .returned (.bool true)∧Below w.heap.size w w':=by
 have HT:=hide hT;have HN:=hide hN;clear hT hN;go_enter Tryz.func5,Tryz.ntmps5
 go_wp2_with fail
 refine (iM _).mono ?_;rintro e w1 ⟨rfl,hb1⟩;have hS:=(Fs.begin w).kept hb1;go_wp2_with fail
 refine (JD _).mono ?_;rintro e w2 ⟨rfl,hb2⟩;replace hS:=hS.kept hb2;go_wp2_with fail
 refine (iM _).mono ?_;rintro e w3 ⟨rfl,hb3⟩;replace hS:=hS.kept hb3;go_wp2_with fail
 refine (Jl _).mono ?_;rintro e w4 ⟨rfl,hb4⟩;replace hS:=hS.kept hb4;go_wp2_with fail
 refine (iM _).mono ?_;rintro e w5 ⟨rfl,hb5⟩;replace hS:=hS.kept hb5;go_wp2_with fail
 refine (JP _).mono ?_;rintro e w6 ⟨rfl,hb6⟩;replace hS:=hS.kept hb6;go_wp2_with fail
 refine (iM _).mono ?_;rintro e w7 ⟨rfl,hb7⟩;replace hS:=hS.kept hb7;go_wp2_with fail
 refine (Dr _ ((aa HT).kept hS.fr) ((aa HN).kept hS.fr)).mono ?_;rintro e w8 ⟨⟨A1,N1,C1,A2,N2,C2,A3,N3,C3,A4,N4,C4,rfl,g1,g2,g3,g4⟩,hb8⟩;replace hS:=hS.kept hb8;obtain rfl:=g1.num.zero.2 rfl;obtain rfl:=(Mine.limb g3 (by decide) (by decide)).1;obtain rfl:=(Mine.limb g4 (by decide) (by decide)).1;have G4:=hide g4;clear g1 g2 g3 g4;replace hS:=hS.alloc #[.bool false,.slice A1 0 C1,.slice A2 N2 C2] 29;replace G4:=hide ((aa G4).alloc (.cells #[.bool false,.slice A1 0 C1,.slice A2 N2 C2] 29));replace hS:=hS.alloc #[.bool false,.slice A3 1 C3,.slice A4 1 C4] 29;replace G4:=hide ((aa G4).alloc (.cells #[.bool false,.slice A3 1 C3,.slice A4 1 C4] 29));simp only [World.size_alloc] at hS;obtain ⟨⟨ya,yb,yc,-⟩,⟨yd,ye,yf,-⟩,-⟩:=hS.cells;go_wp2_with fail
 refine (iM _).mono ?_;rintro e w9 ⟨rfl,hb9⟩;replace hS:=hS.kept hb9;clear ya yb yc yd ye yf;obtain ⟨⟨yg,yh,yi,-⟩,⟨yj,yk,yl,-⟩,-⟩:=hS.cells;replace G4:=hide ((aa G4).kept hb9);go_wp2_with fail
 refine (Jy _ ((aa HT).kept hS.fr)).mono ?_;rintro e w10 ⟨⟨A5,N5,C5,rfl,g5⟩,hb10⟩;replace hS:=hS.kept hb10;clear yg yh yi yj yk yl;obtain ⟨⟨ym,yn,yo,-⟩,⟨yp,yq,yr,-⟩,-⟩:=hS.cells;replace G4:=hide ((aa G4).kept hb10);clear g5;have hltw10_0:w8.heap.size+1<w10.heap.size:=hS.lt 0 rfl;have hltw10_1:w8.heap.size<w10.heap.size:=hS.lt 1 rfl;replace hS:=hS.alloc #[.bool false,.slice A5 N5 C5,.int .i64 5] 58;replace G4:=hide ((aa G4).alloc (.cells #[.bool false,.slice A5 N5 C5,.int .i64 5] 58));clear ym yn yo yp yq yr;obtain ⟨⟨ys,yt,yu,-⟩,⟨yv,yw,yx,-⟩,⟨yy,yz,y0,-⟩,-⟩:=hS.cells;obtain ⟨-,g,he,hc⟩:=Mine.limb (aa G4) (by decide) (by decide);cases he;go_wp2
 go_ret
 exact ⟨rfl,hS.fr⟩
theorem ut(E F:Int)(b md:Nat) :
  (∃er:Int,er≠0∧∀W:World,Tb W→dH W→Calls Tryz.prog 6 #[.agg #[.int .i64 E,.int .i64 F],.int .u64 (b:Int),.int .u8 (md:Int)] W fun e W'=>e = .returned (.tuple #[.agg #[.bool false,.slice none 0 0,.slice none 0 0],.agg #[.bool false,.slice none 0 0,.slice none 0 0],.bool false,.bool false,.int .i64 er])∧Below W.heap.size W W') ∨
  ∃(E' F' S I B G:Nat) (s:Bool) (r:Nat),E=(E':Int)∧F=(F':Int)∧Fm E' F' S I∧B=2^(E'-1)-1∧(G:Int)=(B:Int)+(F':Int)-1∧md≤4∧r<I∧b=(if s then S else 0)+r:=by
 by_cases hf:2≤E∧E≤11∧1≤F∧F≤52
 ·obtain ⟨E',rfl⟩:∃n:Nat,E=(n:Int):=⟨E.toNat,by omega⟩;obtain ⟨F',rfl⟩:∃n:Nat,F=(n:Int):=⟨F.toNat,by omega⟩;obtain ⟨S,hS⟩:∃S,S=2^(F'+E'):=⟨_,rfl⟩;obtain ⟨I,hI⟩:∃I,I=(2^E'-1)*2^F':=⟨_,rfl⟩;have h:Fm E' F' S I:=⟨⟨by omega,by omega,by omega,by omega⟩,hS,hI⟩;clear hS hI;obtain ⟨B,hB⟩:∃B,B=2^(E'-1)-1:=⟨_,rfl⟩;have hB1:2^1≤2^(E'-1):=Nat.pow_le_pow_right (by omega) (by omega);obtain ⟨G,hG⟩:∃G:Nat,(G:Int)=(B:Int)+(F':Int)-1:=⟨B+F'-1,by omega⟩;by_cases hb:b<2*S
  ·have hc:=fun (W:World) (q:Nat) (hq:W.heap[q]? = some (.cells #[.int .u64 (b:Int)] 24 (0,0)))=>fe _ _ q _ (eY h hb) W hq;by_cases hm:md≤4
   ·obtain ⟨s,r,hr,he⟩:∃(s:Bool) (r:Nat),r<S∧b=(if s then S else 0)+r:=by
     by_cases h1:b<S
     ·exact ⟨false,b,h1,by simp⟩
     ·exact ⟨true,b-S,by omega,by simp;omega⟩
    by_cases hrI:r<I
    ·exact Or.inr ⟨E',F',S,I,B,G,s,r,rfl,rfl,h,hB,hG,hm,hrI,he⟩
    ·exact Or.inl ⟨8,by decide,fun W hT hn=>by rw [he];exact zU h hB hG hm s (by omega) hr W hT hn⟩
   ·exact Or.inl ⟨7,by decide,fun W _ hn=>Fp W _ _ _ _ 7 _ (by decide) hn (hide hc) (hide fun W _=>zR md (by omega) W)⟩
  ·exact Or.inl ⟨6,by decide,fun W _ _=>zH W _ _ _ _ 6 (by decide) (hide fun W q hq=>nT _ _ 6 (by decide) q _ (Hr h hb) W hq)⟩
 ·exact Or.inl ⟨5,by decide,fun W _ _=>zH W _ _ _ _ 5 (by decide) (hide fun W q hq=>nT _ _ 5 (by decide) q _ (Gq (by unfold wF;omega) _) W hq)⟩
theorem EN(w:World)(E F bb md:Int)(ng s:Bool)(a:Option Addr)(n c:Nat)(b:Option Addr)(k l:Nat)(gb fl o:Int)(q:Bool)(HR:Hid (∀W:World,Below w.heap.size w W→Calls Tryz.prog 28 #[.agg #[.int .i64 E,.int .i64 F],.agg #[.bool s,.slice a n c,.slice b k l],.bool ng,.int .u8 md] W fun e W'=>e = .returned (.tuple #[.int .u64 gb,.int .u8 fl,.int .i64 0])∧Below W.heap.size W W'))(ho:bits BinOp.and .u8 fl 2=o)(HQ:Hid ((gb≠bb∧q=false)∨(gb=bb∧o=0∧q=true)∨(gb=bb∧o≠0∧q=false))) :
  Calls Tryz.prog 8 #[.agg #[.int .i64 E,.int .i64 F],.int .u64 bb,.int .u8 md,.bool ng,.agg #[.bool s,.slice a n c,.slice b k l],.bool q] w fun en w'=>en = .returned (.bool true)∧Below w.heap.size w w':=by
 refine ax Tryz.func8 rfl (by kernel_rfl) fun T hK=>?_;replace hK:Kn T _ [(0,.agg #[.int .i64 E,.int .i64 F]),(1,.int .u64 bb),(2,.int .u8 md),(3,.bool ng),(4,.agg #[.bool s,.slice a n c,.slice b k l]),(5,.bool q)]:=hK;have hS:=Fb.begin w;have hG:au [] w:=trivial;refine wq hS hG hK (fun p1=>[.n 6 #[vJ E,vJ F] 23,.n 10 #[.bool s,.slice a n c,.slice b k l] 29,.v 12 (.bool false)]) (fun p1=>[(1,.int .u64 bb),(2,.int .u8 md),(3,.bool ng),(5,.bool q),(6,pT (p1 0).N 0),(10,pT (p1 1).N 0),(12,.bool false)]) (fun p1=>?_) (fun p1 W1 T hF hJ=>?_)
 ·iterate 2 refine aI ?_
  refine af ?_;exact ae
 replace hS:=ag.fc hS hF [1000,1001] [⟨(p1 0).N,#[vJ E,vJ F],23,true⟩,⟨(p1 1).N,#[.bool s,.slice a n c,.slice b k l],29,true⟩];replace hG:=hF.gx;clear hF hK;have hK:=hJ;clear hJ;refine wq hS hG hK (fun p2=>[.l 18 (.agg #[vJ E,vJ F]) 0 0,.l 19 (.agg #[.bool s,.slice a n c,.slice b k l]) 1 0,.v 20 (.bool ng),.v 21 (.int .u8 md),.c (some 22) (cV (.tuple #[.int .u64 gb,.int .u8 fl,vJ 0])),.v 17 (.tuple #[.int .u64 gb,.int .u8 fl,vJ 0]),.v 23 (.int .u64 gb),.v 24 (.int .u8 fl),.v 25 (vJ 0),.v 13 (.int .u64 gb),.v 14 (.int .u8 fl),.v 15 (vJ 0)]) (fun p2=>[(1,.int .u64 bb),(5,.bool q),(12,.bool false),(13,.int .u64 gb),(14,.int .u8 fl),(15,vJ 0)]) (fun p2=>?_) (fun p2 W2 T hF hJ=>?_)
 ·iterate 2 refine aj ?_
  iterate 2 refine af ?_
  refine av (fun W cx=>aD (aa HR _ cx.fr)) ?_;iterate 7 refine af ?_
  exact ae
 replace hS:=ag.fd hS hF;replace hG:=hF.gx;clear hF hK;have hK:=hJ;clear hJ;refine wp_seq ?_;refine jq hS hG hK [(5,.bool q),(12,.bool false),(15,.int .i64 0),(16,.bool q)] ?_ (fun T W4 hS9 hG9 hJ=>?_)
 ·rcases aa HQ with ⟨he,rfl⟩|⟨he,ho2,rfl⟩|⟨he,ho2,rfl⟩
  ·refine wg hS hG hK (fun p3=>[.v 26 (.int .i64 0),.v 27 (.bool true),.v 28 (.bool true),.v 29 (.int .u64 gb),.v 30 (.int .u64 bb),.v 31 (.bool false),.v 32 (.bool false),.v 33 (.bool false),.k (some 34),.k (some 35),.k (some 36),.v 37 (.bool false),.v 16 (.bool false)]) (fun p3=>[(5,.bool false),(12,.bool false),(15,.int .i64 0),(16,.bool false)]) (fun p3=>?_) (fun p3 W3 T hF hJ=>?_)
   ·iterate 5 refine af ?_
    refine aO (beq_false_of_ne he) ?_;iterate 2 refine af ?_
    iterate 3 refine eZ ?_
    iterate 2 refine af ?_
    exact ae
   replace hS:=ag.fd hS hF;replace hG:=hF.gx;clear hF hK;have hK:=hJ;clear hJ;have z3:=hS.fr.size;exact bg hS hG (bF (ds:=[]) hK rfl rfl _ (by kernel_rfl) (by kernel_rfl))
  ·refine wg hS hG hK (fun p3=>[.v 26 (.int .i64 0),.v 27 (.bool true),.v 28 (.bool true),.v 29 (.int .u64 gb),.v 30 (.int .u64 bb),.v 31 (.bool true),.v 32 (.bool true),.v 33 (.bool true),.v 34 (.int .u8 fl),.v 35 (.int .u8 o),.v 36 (.bool true),.v 37 (.bool true),.v 16 (.bool true)]) (fun p3=>[(5,.bool true),(12,.bool false),(15,.int .i64 0),(16,.bool true)]) (fun p3=>?_) (fun p3 W3 T hF hJ=>?_)
   ·iterate 5 refine af ?_
    refine aO (beq_iff_eq.2 he) ?_;iterate 3 refine af ?_
    refine bB (ho) ?_;refine aO (beq_iff_eq.2 ho2) ?_;iterate 2 refine af ?_
    exact ae
   replace hS:=ag.fd hS hF;replace hG:=hF.gx;clear hF hK;have hK:=hJ;clear hJ;have z3:=hS.fr.size;exact bg hS hG (bF (ds:=[]) hK rfl rfl _ (by kernel_rfl) (by kernel_rfl))
  ·refine wg hS hG hK (fun p3=>[.v 26 (.int .i64 0),.v 27 (.bool true),.v 28 (.bool true),.v 29 (.int .u64 gb),.v 30 (.int .u64 bb),.v 31 (.bool true),.v 32 (.bool true),.v 33 (.bool true),.v 34 (.int .u8 fl),.v 35 (.int .u8 o),.v 36 (.bool false),.v 37 (.bool false),.v 16 (.bool false)]) (fun p3=>[(5,.bool false),(12,.bool false),(15,.int .i64 0),(16,.bool false)]) (fun p3=>?_) (fun p3 W3 T hF hJ=>?_)
   ·iterate 5 refine af ?_
    refine aO (beq_iff_eq.2 he) ?_;iterate 3 refine af ?_
    refine bB (ho) ?_;refine aO (beq_false_of_ne ho2) ?_;iterate 2 refine af ?_
    exact ae
   replace hS:=ag.fd hS hF;replace hG:=hF.gx;clear hF hK;have hK:=hJ;clear hJ;have z3:=hS.fr.size;exact bg hS hG (bF (ds:=[]) hK rfl rfl _ (by kernel_rfl) (by kernel_rfl))
 clear hS hG hK;have hS:=hS9;have hG:=hG9;have hK:=hJ;clear hS9 hG9 hJ;refine aB ?_;refine wq hS hG hK (fun p5=>[.v 38 (vJ 0),.v 39 (.bool true),.v 40 (.bool true),.v 41 (.bool q),.v 42 (.bool q),.v 43 (.bool true),.v 44 (.bool true),.v 12 (.bool true)]) (fun p5=>[(12,.bool true)]) (fun p5=>?_) (fun p5 W5 T hF hJ=>?_)
 ·iterate 5 refine af ?_
  refine aO (beq_self_eq_true q) ?_;iterate 2 refine af ?_
  exact ae
 replace hS:=ag.fd hS hF;replace hG:=hF.gx;clear hF hK;have hK:=hJ;clear hJ;refine wp_ret ?_;exact aA hS hK (.bool true) [] [] (by kernel_rfl) (by kernel_rfl) ⟨rfl,hS.fr⟩
theorem vR(w:World)(s:Bool)(a:Option Addr)(n c:Nat)(b:Option Addr)(k l:Nat)(h1:n≤200)(h2:k≤200) :
  Calls Tryz.prog 13 #[.agg #[.bool s,.slice a n c,.slice b k l]] w fun en w'=>en = .returned (.bool true)∧Below w.heap.size w w':=by
 refine ax Tryz.func13 rfl (by kernel_rfl) fun T hK=>?_;replace hK:Kn T _ [(0,.agg #[.bool s,.slice a n c,.slice b k l])]:=hK;have hS:=Fb.begin w;have hG:au [] w:=trivial;refine wq hS hG hK (fun p1=>[.n 1 #[.bool s,.slice a n c,.slice b k l] 29,.v 2 (.bool false)]) (fun p1=>[(1,pT (p1 0).N 0),(2,.bool false)]) (fun p1=>?_) (fun p1 W1 T hF hK=>?_)
 ·refine aI ?_;refine af ?_;exact ae
 replace hS:=ag.fc hS hF [1000] [⟨(p1 0).N,#[.bool s,.slice a n c,.slice b k l],29,true⟩];replace hG:=hF.gx;clear hF;refine wq hS hG hK (fun p2=>[.v 3 (pT (p1 0).N 1),.v 4 (pT (p1 0).N 1),.l 5 (.slice a n c) 0 1,.v 6 (vJ (n:Int)),.v 7 (.bool true),.v 8 (.bool true),.v 9 (pT (p1 0).N 2),.v 10 (pT (p1 0).N 2),.l 11 (.slice b k l) 0 2,.v 12 (vJ (k:Int)),.v 13 (.bool true),.v 14 (.bool true),.v 2 (.bool true)]) (fun p2=>[(2,.bool true)]) (fun p2=>?_) (fun p2 W2 T hF hK=>?_)
 ·iterate 2 refine af ?_
  refine aj ?_;refine af ?_;refine aO (decide_eq_true (show (n:Int)≤200 by omega)) ?_;iterate 3 refine af ?_
  refine aj ?_;refine af ?_;refine aO (decide_eq_true (show (k:Int)≤200 by omega)) ?_;iterate 2 refine af ?_
  exact ae
 obtain ⟨hS,hG⟩:=ag.fg hS hF;clear hF;refine wp_ret ?_;exact aA hS hK (.bool true) [] [] (by kernel_rfl) (by kernel_rfl) ⟨rfl,hS.fr⟩
theorem vH(w:World)(s:Bool)(a:Option Addr)(n c:Nat)(b:Option Addr)(k l:Nat)(h1:200<n) :
  Calls Tryz.prog 13 #[.agg #[.bool s,.slice a n c,.slice b k l]] w fun en w'=>en = .returned (.bool false)∧Below w.heap.size w w':=by
 refine ax Tryz.func13 rfl (by kernel_rfl) fun T hK=>?_;replace hK:Kn T _ [(0,.agg #[.bool s,.slice a n c,.slice b k l])]:=hK;have hS:=Fb.begin w;have hG:au [] w:=trivial;refine wq hS hG hK (fun p1=>[.n 1 #[.bool s,.slice a n c,.slice b k l] 29,.v 2 (.bool false)]) (fun p1=>[(1,pT (p1 0).N 0),(2,.bool false)]) (fun p1=>?_) (fun p1 W1 T hF hK=>?_)
 ·refine aI ?_;refine af ?_;exact ae
 replace hS:=ag.fc hS hF [1000] [⟨(p1 0).N,#[.bool s,.slice a n c,.slice b k l],29,true⟩];replace hG:=hF.gx;clear hF;refine wq hS hG hK (fun p2=>[.v 3 (pT (p1 0).N 1),.v 4 (pT (p1 0).N 1),.l 5 (.slice a n c) 0 1,.v 6 (vJ (n:Int)),.v 7 (.bool false),.v 8 (.bool false),.k (some 9),.k (some 10),.k (some 11),.k (some 12),.k (some 13),.v 14 (.bool false),.v 2 (.bool false)]) (fun p2=>[(2,.bool false)]) (fun p2=>?_) (fun p2 W2 T hF hK=>?_)
 ·iterate 2 refine af ?_
  refine aj ?_;refine af ?_;refine aO (decide_eq_false (show ¬(n:Int)≤200 by omega)) ?_;refine af ?_;iterate 5 refine eZ ?_
  iterate 2 refine af ?_
  exact ae
 obtain ⟨hS,hG⟩:=ag.fg hS hF;clear hF;refine wp_ret ?_;exact aA hS hK (.bool false) [] [] (by kernel_rfl) (by kernel_rfl) ⟨rfl,hS.fr⟩
theorem u6(w:World)(s:Bool)(a:Option Addr)(n c:Nat)(b:Option Addr)(k l:Nat)(h1:n≤200)(h2:200<k) :
  Calls Tryz.prog 13 #[.agg #[.bool s,.slice a n c,.slice b k l]] w fun en w'=>en = .returned (.bool false)∧Below w.heap.size w w':=by
 refine ax Tryz.func13 rfl (by kernel_rfl) fun T hK=>?_;replace hK:Kn T _ [(0,.agg #[.bool s,.slice a n c,.slice b k l])]:=hK;have hS:=Fb.begin w;have hG:au [] w:=trivial;refine wq hS hG hK (fun p1=>[.n 1 #[.bool s,.slice a n c,.slice b k l] 29,.v 2 (.bool false)]) (fun p1=>[(1,pT (p1 0).N 0),(2,.bool false)]) (fun p1=>?_) (fun p1 W1 T hF hK=>?_)
 ·refine aI ?_;refine af ?_;exact ae
 replace hS:=ag.fc hS hF [1000] [⟨(p1 0).N,#[.bool s,.slice a n c,.slice b k l],29,true⟩];replace hG:=hF.gx;clear hF;refine wq hS hG hK (fun p2=>[.v 3 (pT (p1 0).N 1),.v 4 (pT (p1 0).N 1),.l 5 (.slice a n c) 0 1,.v 6 (vJ (n:Int)),.v 7 (.bool true),.v 8 (.bool true),.v 9 (pT (p1 0).N 2),.v 10 (pT (p1 0).N 2),.l 11 (.slice b k l) 0 2,.v 12 (vJ (k:Int)),.v 13 (.bool false),.v 14 (.bool false),.v 2 (.bool false)]) (fun p2=>[(2,.bool false)]) (fun p2=>?_) (fun p2 W2 T hF hK=>?_)
 ·iterate 2 refine af ?_
  refine aj ?_;refine af ?_;refine aO (decide_eq_true (show (n:Int)≤200 by omega)) ?_;iterate 3 refine af ?_
  refine aj ?_;refine af ?_;refine aO (decide_eq_false (show ¬(k:Int)≤200 by omega)) ?_;iterate 2 refine af ?_
  exact ae
 obtain ⟨hS,hG⟩:=ag.fg hS hF;clear hF;refine wp_ret ?_;exact aA hS hK (.bool false) [] [] (by kernel_rfl) (by kernel_rfl) ⟨rfl,hS.fr⟩
theorem Gi(w:World)(E F bb md err:Int)(s:Bool)(a:Option Addr)(n c:Nat)(b:Option Addr)(k l:Nat)(ht:Tb w)(hn:dH w)(HA:Hid (∀W:World,Tb W→dH W→Calls Tryz.prog 5 #[] W fun e W'=>e = .returned (.bool true)∧Below W.heap.size W W'))(he:err≠0)(H1:Hid (∀W:World,Tb W→dH W→Calls Tryz.prog 6 #[.agg #[.int .i64 E,.int .i64 F],.int .u64 bb,.int .u8 md] W fun e W'=>e = .returned (.tuple #[.agg #[.bool false,.slice none 0 0,.slice none 0 0],.agg #[.bool false,.slice none 0 0,.slice none 0 0],.bool false,.bool false,.int .i64 err])∧Below W.heap.size W W')) :
  Calls Tryz.prog 3 #[.agg #[.int .i64 E,.int .i64 F],.int .u64 bb,.int .u8 md,.agg #[.bool s,.slice a n c,.slice b k l]] w fun en w'=>en = .returned (.bool true)∧Below w.heap.size w w':=by
 refine ax Tryz.func3 rfl (by kernel_rfl) fun T hK=>?_;replace hK:Kn T _ [(0,.agg #[.int .i64 E,.int .i64 F]),(1,.int .u64 bb),(2,.int .u8 md),(3,.agg #[.bool s,.slice a n c,.slice b k l])]:=hK;have hS:=Fb.begin w;have hG:au [] w:=trivial;refine wq hS hG hK (fun p1=>[.n 4 #[vJ E,vJ F] 23,.n 7 #[.bool s,.slice a n c,.slice b k l] 29,.v 8 (.bool false)]) (fun p1=>[(1,.int .u64 bb),(2,.int .u8 md),(4,pT (p1 0).N 0),(7,pT (p1 1).N 0),(8,.bool false)]) (fun p1=>?_) (fun p1 W1 T hF hK=>?_)
 ·iterate 2 refine aI ?_
  refine af ?_;exact ae
 replace hS:=ag.fc hS hF [1000,1001] [⟨(p1 0).N,#[vJ E,vJ F],23,true⟩,⟨(p1 1).N,#[.bool s,.slice a n c,.slice b k l],29,true⟩];replace hG:=hF.gx;clear hF;refine wq hS hG hK (fun p2=>[.c (some 24) (cV (.bool true)),.v 9 (.bool true)]) (fun p2=>[(1,.int .u64 bb),(2,.int .u8 md),(4,pT (p1 0).N 0),(7,pT (p1 1).N 0),(8,.bool false),(9,.bool true)]) (fun p2=>?_) (fun p2 W2 T hF hK=>?_)
 ·refine av (fun W cx=>aD (aa HA _ (ht.kept cx.fr) (hn.kept cx.fr))) ?_;refine af ?_;exact ae
 obtain ⟨hS,hG⟩:=ag.fg hS hF;clear hF;refine wp_seq ?_;refine wq hS hG hK (fun p3=>[.v 25 (.bool true),.v 26 (.bool false)]) (fun p3=>[(1,.int .u64 bb),(2,.int .u8 md),(4,pT (p1 0).N 0),(7,pT (p1 1).N 0),(8,.bool false),(9,.bool true),(26,.bool false)]) (fun p3=>?_) (fun p3 W3 T hF hK=>?_)
 ·iterate 2 refine af ?_
  exact ae
 obtain ⟨hS,hG⟩:=ag.fg hS hF;clear hF;refine wp_cond_false (hK.ew 26) (wp_skip (aB ?_));refine wq hS hG hK (fun p4=>[.l 28 (.agg #[vJ E,vJ F]) 0 0,.v 29 (.int .u64 bb),.v 30 (.int .u8 md),.c (some 31) (cV (.tuple #[.agg #[.bool false,nJ,nJ],.agg #[.bool false,nJ,nJ],.bool false,.bool false,vJ err])),.v 27 (.tuple #[.agg #[.bool false,nJ,nJ],.agg #[.bool false,nJ,nJ],.bool false,.bool false,vJ err]),.v 32 (.agg #[.bool false,nJ,nJ]),.v 33 (.agg #[.bool false,nJ,nJ]),.v 34 (.bool false),.v 35 (.bool false),.v 36 (vJ err),.n 10 #[.bool false,nJ,nJ] 29,.n 11 #[.bool false,nJ,nJ] 29,.p 1010 0 [.bool false,nJ,nJ],.p 1011 0 [.bool false,nJ,nJ],.v 12 (.bool false),.v 13 (.bool false),.v 14 (vJ err)]) (fun p4=>[(1,.int .u64 bb),(2,.int .u8 md),(4,pT (p1 0).N 0),(7,pT (p1 1).N 0),(8,.bool false),(9,.bool true),(10,pT (p4 10).N 0),(11,pT (p4 11).N 0),(12,.bool false),(13,.bool false),(14,vJ err)]) (fun p4=>?_) (fun p4 W4 T hF hK=>?_)
 ·refine aj ?_;iterate 2 refine af ?_
  refine av (fun W cx=>aD (aa H1 _ (ht.kept cx.fr) (hn.kept cx.fr))) ?_;iterate 6 refine af ?_
  iterate 2 refine aI ?_
  iterate 2 refine aF ?_
  iterate 3 refine af ?_
  exact ae
 replace hS:=ag.fc hS hF [0,1,1010,1011] [⟨(p1 0).N,#[vJ E,vJ F],23,true⟩,⟨(p1 1).N,#[.bool s,.slice a n c,.slice b k l],29,true⟩,⟨(p4 10).N,#[.bool false,nJ,nJ],29,true⟩,⟨(p4 11).N,#[.bool false,nJ,nJ],29,true⟩];replace hG:=hF.gx;clear hF;refine wp_seq ?_;refine wq hS hG hK (fun p5=>[.v 37 (vJ err),.v 38 (.bool true)]) (fun p5=>[(1,.int .u64 bb),(2,.int .u8 md),(4,pT (p1 0).N 0),(7,pT (p1 1).N 0),(8,.bool false),(9,.bool true),(10,pT (p4 10).N 0),(11,pT (p4 11).N 0),(12,.bool false),(13,.bool false),(14,vJ err),(38,.bool true)]) (fun p5=>?_) (fun p5 W5 T hF hK=>?_)
 ·refine af ?_;refine aO (bne_iff_ne.2 (show err≠0 by omega)) ?_;exact ae
 obtain ⟨hS,hG⟩:=ag.fg hS hF;clear hF;refine wp_cond_true (hK.ew 38) ?_;refine wq hS hG hK (fun p6=>[.v 39 (.bool true),.v 8 (.bool true)]) (fun p6=>[(1,.int .u64 bb),(2,.int .u8 md),(4,pT (p1 0).N 0),(7,pT (p1 1).N 0),(8,.bool true),(9,.bool true),(10,pT (p4 10).N 0),(11,pT (p4 11).N 0),(12,.bool false),(13,.bool false),(14,vJ err)]) (fun p6=>?_) (fun p6 W6 T hF hK=>?_)
 ·iterate 2 refine af ?_
  exact ae
 obtain ⟨hS,hG⟩:=ag.fg hS hF;clear hF;refine wp_ret ?_;refine bz ?_;exact aA hS hK (.bool true) [] [] (by kernel_rfl) (by kernel_rfl) ⟨rfl,hS.fr⟩
theorem Ed(w:World)(E F bb md:Int)(s:Bool)(a:Option Addr)(n c:Nat)(b:Option Addr)(k l:Nat)(rn rd:Nat)(sl sh li hi:Bool)(nl dl nh dh:Nat)(ng:Bool)(ex fr:Int)(gs:Bool)(zs ks:Nat)(gm:Bool)(zm km:Nat)(c0 ca cb ek:Int)(sb kb inn:Bool)(ht:Tb w)(hn:dH w)(HA:Hid (∀W:World,Tb W→dH W→Calls Tryz.prog 5 #[] W fun e W'=>e = .returned (.bool true)∧Below W.heap.size W W'))(HN:Hid (kb=false→Num w a n rn∧Num w b k rd))(H1:Hid (Im E F bb md sl sh li hi nl dl nh dh))(HSp:Hid (∀W:World,Calls Tryz.prog 7 #[.agg #[.int .i64 E,.int .i64 F],.int .u64 bb] W fun e W'=>e = .returned (.tuple #[.agg #[.bool ng,.int .i64 ex,.int .u64 fr],.int .i64 0])∧Below W.heap.size W W'))(HG1:Hid (∀(W:World) (A:Option Addr) (N C:Nat) (A2:Option Addr) (N2 C2:Nat),Tb W→Num W A N nl→Num W A2 N2 dl→Calls Tryz.prog 8 #[.agg #[.int .i64 E,.int .i64 F],.int .u64 bb,.int .u8 md,.bool ng,.agg #[.bool sl,.slice A N C,.slice A2 N2 C2],.bool li] W fun e W'=>e = .returned (.bool true)∧Below W.heap.size W W'))(HG2:Hid (∀(W:World) (A:Option Addr) (N C:Nat) (A2:Option Addr) (N2 C2:Nat),Tb W→Num W A N nh→Num W A2 N2 dh→Calls Tryz.prog 8 #[.agg #[.int .i64 E,.int .i64 F],.int .u64 bb,.int .u8 md,.bool ng,.agg #[.bool sh,.slice A N C,.slice A2 N2 C2],.bool hi] W fun e W'=>e = .returned (.bool true)∧Below W.heap.size W W'))(HAd:Hid (∀(W:World) (A:Option Addr) (N C:Nat) (A2:Option Addr) (N2 C2:Nat) (A3:Option Addr) (N3 C3:Nat) (A4:Option Addr) (N4 C4:Nat),Num W A N nl→Num W A2 N2 dl→Num W A3 N3 nh→Num W A4 N4 dh→Calls Tryz.prog 9 #[.agg #[.bool sl,.slice A N C,.slice A2 N2 C2],.agg #[.bool sh,.slice A3 N3 C3,.slice A4 N4 C4]] W fun en W'=>(∃A N C A' N' C',en = .returned (.tuple #[.agg #[.bool gs,.slice A N C,.slice A' N' C'],.int .i64 0])∧Mine W' W.heap.size A N C zs∧Mine W' W.heap.size A' N' C' ks)∧Below W.heap.size W W'))(HSc:Hid (∀(W:World) (A:Option Addr) (N C:Nat) (A2:Option Addr) (N2 C2:Nat),Num W A N zs→Num W A2 N2 ks→Calls Tryz.prog 10 #[.agg #[.bool gs,.slice A N C,.slice A2 N2 C2],.int .u32 2,.int .i64 (-1)] W fun en W'=>(∃A N C A' N' C',en = .returned (.tuple #[.agg #[.bool gm,.slice A N C,.slice A' N' C'],.int .i64 0])∧Mine W' W.heap.size A N C zm∧Mine W' W.heap.size A' N' C' km)∧Below W.heap.size W W'))(HC0:Hid (∀(W:World) (A:Option Addr) (N C:Nat) (A2:Option Addr) (N2 C2:Nat) (A3:Option Addr) (N3 C3:Nat) (A4:Option Addr) (N4 C4:Nat),Num W A N nl→Num W A2 N2 dl→Num W A3 N3 nh→Num W A4 N4 dh→Calls Tryz.prog 11 #[.agg #[.bool sl,.slice A N C,.slice A2 N2 C2],.agg #[.bool sh,.slice A3 N3 C3,.slice A4 N4 C4]] W fun e W'=>e = .returned (.tuple #[.int .i64 c0,.int .i64 0])∧Below W.heap.size W W'))(HG3:Hid (∀(W:World) (A:Option Addr) (N C:Nat) (A2:Option Addr) (N2 C2:Nat),Tb W→Num W A N zm→Num W A2 N2 km→Calls Tryz.prog 8 #[.agg #[.int .i64 E,.int .i64 F],.int .u64 bb,.int .u8 md,.bool ng,.agg #[.bool gm,.slice A N C,.slice A2 N2 C2],.bool true] W fun e W'=>e = .returned (.bool true)∧Below W.heap.size W W'))(HCk:Hid (∀W:World,Below w.heap.size w W→Calls Tryz.prog 12 #[.agg #[.bool s,.slice a n c,.slice b k l]] W fun e W'=>e = .returned (.int .i64 ek)∧Below W.heap.size W W'))(HSh:Hid (∀W:World,Calls Tryz.prog 13 #[.agg #[.bool s,.slice a n c,.slice b k l]] W fun e W'=>e = .returned (.bool sb)∧Below W.heap.size W W'))(HC1:Hid (∀(W:World) (A:Option Addr) (N C:Nat) (A2:Option Addr) (N2 C2:Nat) (A3:Option Addr) (N3 C3:Nat) (A4:Option Addr) (N4 C4:Nat),kb=false→Num W A N nl→Num W A2 N2 dl→Num W A3 N3 rn→Num W A4 N4 rd→Calls Tryz.prog 11 #[.agg #[.bool sl,.slice A N C,.slice A2 N2 C2],.agg #[.bool s,.slice A3 N3 C3,.slice A4 N4 C4]] W fun e W'=>e = .returned (.tuple #[.int .i64 ca,.int .i64 0])∧Below W.heap.size W W'))(HC2:Hid (∀(W:World) (A:Option Addr) (N C:Nat) (A2:Option Addr) (N2 C2:Nat) (A3:Option Addr) (N3 C3:Nat) (A4:Option Addr) (N4 C4:Nat),kb=false→Num W A N rn→Num W A2 N2 rd→Num W A3 N3 nh→Num W A4 N4 dh→Calls Tryz.prog 11 #[.agg #[.bool s,.slice A N C,.slice A2 N2 C2],.agg #[.bool sh,.slice A3 N3 C3,.slice A4 N4 C4]] W fun e W'=>e = .returned (.tuple #[.int .i64 cb,.int .i64 0])∧Below W.heap.size W W'))(HG4:Hid (∀(W:World) (A:Option Addr) (N C:Nat) (A2:Option Addr) (N2 C2:Nat),kb=false→Tb W→Num W A N rn→Num W A2 N2 rd→Calls Tryz.prog 8 #[.agg #[.int .i64 E,.int .i64 F],.int .u64 bb,.int .u8 md,.bool ng,.agg #[.bool s,.slice A N C,.slice A2 N2 C2],.bool inn] W fun e W'=>e = .returned (.bool true)∧Below W.heap.size W W'))(HZ:Hid (c0=(-1)∨(c0=0∧li=true∧hi=true)))(HQ:Hid ((ek≠0∧kb=true)∨(ek=0∧sb=false∧kb=true)∨(ek=0∧sb=true∧kb=false)))(HI:Hid (kb=false→(ca=1∧inn=false)∨(ca=0∧li=false∧inn=false)∨(ca=(-1)∧cb=(-1)∧inn=true)∨(ca=(-1)∧cb=0∧hi=true∧inn=true)∨(ca=(-1)∧cb=0∧hi=false∧inn=false)∨(ca=(-1)∧cb=1∧inn=false)∨(ca=0∧li=true∧cb=(-1)∧inn=true)∨(ca=0∧li=true∧cb=0∧hi=true∧inn=true)∨(ca=0∧li=true∧cb=0∧hi=false∧inn=false)∨(ca=0∧li=true∧cb=1∧inn=false))) :
  Calls Tryz.prog 3 #[.agg #[.int .i64 E,.int .i64 F],.int .u64 bb,.int .u8 md,.agg #[.bool s,.slice a n c,.slice b k l]] w fun en w'=>en = .returned (.bool true)∧Below w.heap.size w w':=by
 refine ax Tryz.func3 rfl (by kernel_rfl) fun T hK=>?_;replace hK:Kn T _ [(0,.agg #[.int .i64 E,.int .i64 F]),(1,.int .u64 bb),(2,.int .u8 md),(3,.agg #[.bool s,.slice a n c,.slice b k l])]:=hK;have hS:=Fb.begin w;have hG:au [] w:=trivial;refine wq hS hG hK (fun p1=>[.n 4 #[vJ E,vJ F] 23,.n 7 #[.bool s,.slice a n c,.slice b k l] 29,.v 8 (.bool false)]) (fun p1=>[(1,.int .u64 bb),(2,.int .u8 md),(4,pT (p1 0).N 0),(7,pT (p1 1).N 0),(8,.bool false)]) (fun p1=>?_) (fun p1 W1 T hF hJ=>?_)
 ·iterate 2 refine aI ?_
  refine af ?_;exact ae
 replace hS:=ag.fc hS hF [1000,1001] [⟨(p1 0).N,#[vJ E,vJ F],23,true⟩,⟨(p1 1).N,#[.bool s,.slice a n c,.slice b k l],29,true⟩];replace hG:=hF.gx;clear hF hK;have hK:=hJ;clear hJ;refine wq hS hG hK (fun p2=>[.c (some 24) (cV (.bool true)),.v 9 (.bool true)]) (fun p2=>[(1,.int .u64 bb),(2,.int .u8 md),(4,pT (p1 0).N 0),(7,pT (p1 1).N 0),(8,.bool false),(9,.bool true)]) (fun p2=>?_) (fun p2 W2 T hF hJ=>?_)
 ·refine av (fun W cx=>aD (aa HA _ (ht.kept cx.fr) (hn.kept cx.fr))) ?_;refine af ?_;exact ae
 replace hS:=ag.fd hS hF;replace hG:=hF.gx;clear hF hK;have hK:=hJ;clear hJ;refine wp_seq ?_;refine wq hS hG hK (fun p3=>[.v 25 (.bool true),.v 26 (.bool false)]) (fun p3=>[(1,.int .u64 bb),(2,.int .u8 md),(4,pT (p1 0).N 0),(7,pT (p1 1).N 0),(8,.bool false),(9,.bool true),(26,.bool false)]) (fun p3=>?_) (fun p3 W3 T hF hJ=>?_)
 ·iterate 2 refine af ?_
  exact ae
 replace hS:=ag.fd hS hF;replace hG:=hF.gx;clear hF hK;have hK:=hJ;clear hJ;refine wp_cond_false (hK.ew 26) (wp_skip (aB ?_));refine wq hS hG hK (fun p4=>[.l 28 (.agg #[vJ E,vJ F]) 0 0,.v 29 (.int .u64 bb),.v 30 (.int .u8 md),.c (some 31) (CU sl sh li hi nl dl nh dh),.v 27 (.tuple #[.agg #[.bool sl,sJ (p4 3),tJ (p4 3)],.agg #[.bool sh,.slice (p4 3).A2 (p4 3).N2 (p4 3).C2,.slice (p4 3).A3 (p4 3).N3 (p4 3).C3],.bool li,.bool hi,vJ 0]),.v 32 (.agg #[.bool sl,sJ (p4 3),tJ (p4 3)]),.v 33 (.agg #[.bool sh,.slice (p4 3).A2 (p4 3).N2 (p4 3).C2,.slice (p4 3).A3 (p4 3).N3 (p4 3).C3]),.v 34 (.bool li),.v 35 (.bool hi),.v 36 (vJ 0),.n 10 #[.bool false,nJ,nJ] 29,.n 11 #[.bool false,nJ,nJ] 29,.p 1010 0 [.bool sl,sJ (p4 3),tJ (p4 3)],.p 1011 0 [.bool sh,.slice (p4 3).A2 (p4 3).N2 (p4 3).C2,.slice (p4 3).A3 (p4 3).N3 (p4 3).C3],.v 12 (.bool li),.v 13 (.bool hi),.v 14 (vJ 0)]) (fun p4=>[(1,.int .u64 bb),(2,.int .u8 md),(4,pT (p1 0).N 0),(7,pT (p1 1).N 0),(8,.bool false),(9,.bool true),(10,pT (p4 10).N 0),(11,pT (p4 11).N 0),(12,.bool li),(13,.bool hi),(14,vJ 0)]) (fun p4=>?_) (fun p4 W4 T hF hJ=>?_)
 ·refine aj ?_;iterate 2 refine af ?_
  refine av (fun W cx=>Gw (aa H1) (ht.kept cx.fr) (hn.kept cx.fr)) ?_;iterate 6 refine af ?_
  iterate 2 refine aI ?_
  iterate 2 refine aF ?_
  iterate 3 refine af ?_
  exact ae
 replace hS:=ag.fc hS hF [0,1,1010,1011] [⟨(p1 0).N,#[vJ E,vJ F],23,true⟩,⟨(p1 1).N,#[.bool s,.slice a n c,.slice b k l],29,true⟩,⟨(p4 10).N,#[.bool sl,sJ (p4 3),tJ (p4 3)],29,true⟩,⟨(p4 11).N,#[.bool sh,.slice (p4 3).A2 (p4 3).N2 (p4 3).C2,.slice (p4 3).A3 (p4 3).N3 (p4 3).C3],29,true⟩];replace hG:au (gN (p4 3).A (p4 3).N nl::gN (p4 3).A' (p4 3).N' dl::gN (p4 3).A2 (p4 3).N2 nh::gN (p4 3).A3 (p4 3).N3 dh::_) W4:=⟨(hF.fx 3).1,(hF.fx 3).2.1,(hF.fx 3).2.2.1,(hF.fx 3).2.2.2,hF.gx⟩;clear hF hK;have hK:=hJ;clear hJ;refine wp_seq ?_;refine wq hS hG hK (fun p5=>[.v 37 (vJ 0),.v 38 (.bool false)]) (fun p5=>[(1,.int .u64 bb),(2,.int .u8 md),(4,pT (p1 0).N 0),(7,pT (p1 1).N 0),(8,.bool false),(9,.bool true),(10,pT (p4 10).N 0),(11,pT (p4 11).N 0),(12,.bool li),(13,.bool hi),(14,vJ 0),(38,.bool false)]) (fun p5=>?_) (fun p5 W5 T hF hJ=>?_)
 ·iterate 2 refine af ?_
  exact ae
 replace hS:=ag.fd hS hF;replace hG:=hF.gx;clear hF hK;have hK:=hJ;clear hJ;refine wp_cond_false (hK.ew 38) (wp_skip (aB ?_));refine wq hS hG hK (fun p6=>[.l 41 (.agg #[vJ E,vJ F]) 0 0,.v 42 (.int .u64 bb),.c (some 43) (cV (.tuple #[.agg #[.bool ng,vJ ex,.int .u64 fr],vJ 0])),.v 40 (.tuple #[.agg #[.bool ng,vJ ex,.int .u64 fr],vJ 0]),.v 44 (.agg #[.bool ng,vJ ex,.int .u64 fr]),.v 45 (vJ 0),.n 15 #[.bool false,vJ 0,.int .u64 0] 35,.p 1006 0 [.bool ng,vJ ex,.int .u64 fr],.v 14 (vJ 0)]) (fun p6=>[(1,.int .u64 bb),(2,.int .u8 md),(4,pT (p1 0).N 0),(7,pT (p1 1).N 0),(8,.bool false),(9,.bool true),(10,pT (p4 10).N 0),(11,pT (p4 11).N 0),(12,.bool li),(13,.bool hi),(14,vJ 0),(15,pT (p6 6).N 0)]) (fun p6=>?_) (fun p6 W6 T hF hJ=>?_)
 ·refine aj ?_;refine af ?_;refine av (fun W cx=>aD (aa HSp _)) ?_;iterate 3 refine af ?_
  refine aI ?_;refine aF ?_;refine af ?_;exact ae
 replace hS:=ag.fc hS hF [0,1,2,3,1006] [⟨(p1 0).N,#[vJ E,vJ F],23,true⟩,⟨(p1 1).N,#[.bool s,.slice a n c,.slice b k l],29,true⟩,⟨(p4 10).N,#[.bool sl,sJ (p4 3),tJ (p4 3)],29,true⟩,⟨(p4 11).N,#[.bool sh,.slice (p4 3).A2 (p4 3).N2 (p4 3).C2,.slice (p4 3).A3 (p4 3).N3 (p4 3).C3],29,true⟩,⟨(p6 6).N,#[.bool ng,vJ ex,.int .u64 fr],35,true⟩];replace hG:=hF.gx;clear hF hK;have hK:=hJ;clear hJ;refine wp_seq ?_;refine wq hS hG hK (fun p7=>[.v 46 (vJ 0),.v 47 (.bool false),.v 48 (.bool false),.l 49 (.agg #[vJ E,vJ F]) 0 0,.v 50 (.int .u64 bb),.v 51 (.int .u8 md),.v 52 (pT (p6 6).N 0),.l 53 (.bool ng) 4 0,.l 54 (.agg #[.bool sl,sJ (p4 3),tJ (p4 3)]) 2 0,.v 55 (.bool li),.c (some 56) (cV (.bool true)),.v 57 (.bool false),.v 58 (.bool false),.v 59 (.bool false),.l 60 (.agg #[vJ E,vJ F]) 0 0,.v 61 (.int .u64 bb),.v 62 (.int .u8 md),.v 63 (pT (p6 6).N 0),.l 64 (.bool ng) 4 0,.l 65 (.agg #[.bool sh,.slice (p4 3).A2 (p4 3).N2 (p4 3).C2,.slice (p4 3).A3 (p4 3).N3 (p4 3).C3]) 3 0,.v 66 (.bool hi),.c (some 67) (cV (.bool true)),.v 68 (.bool false),.v 69 (.bool false)]) (fun p7=>[(1,.int .u64 bb),(2,.int .u8 md),(4,pT (p1 0).N 0),(7,pT (p1 1).N 0),(8,.bool false),(9,.bool true),(10,pT (p4 10).N 0),(11,pT (p4 11).N 0),(12,.bool li),(13,.bool hi),(14,vJ 0),(15,pT (p6 6).N 0),(69,.bool false)]) (fun p7=>?_) (fun p7 W7 T hF hJ=>?_)
 ·iterate 3 refine af ?_
  refine aj ?_;iterate 3 refine af ?_
  iterate 2 refine aj ?_
  refine af ?_;refine av (fun W cx=>aD (aa HG1 _ _ _ (p4 3).C _ _ (p4 3).C' (ht.kept cx.fr) (cx.G.1) (cx.G.2.1))) ?_;iterate 3 refine af ?_
  refine aj ?_;iterate 3 refine af ?_
  iterate 2 refine aj ?_
  refine af ?_;refine av (fun W cx=>aD (aa HG2 _ _ _ (p4 3).C2 _ _ (p4 3).C3 (ht.kept cx.fr) (cx.G.2.2.1) (cx.G.2.2.2.1))) ?_;iterate 2 refine af ?_
  exact ae
 replace hS:=ag.fd hS hF;replace hG:=hF.gx;clear hF hK;have hK:=hJ;clear hJ;refine wp_cond_false (hK.ew 69) (wp_skip (aB ?_));refine wq hS hG hK (fun p8=>[.l 71 (.agg #[.bool sl,sJ (p4 3),tJ (p4 3)]) 2 0,.l 72 (.agg #[.bool sh,.slice (p4 3).A2 (p4 3).N2 (p4 3).C2,.slice (p4 3).A3 (p4 3).N3 (p4 3).C3]) 3 0,.c (some 73) (cH W7.heap.size zs ks fun x9 y9=>.tuple #[.agg #[.bool gs,x9,y9],vJ 0]),.v 70 (.tuple #[.agg #[.bool gs,sJ (p8 2),tJ (p8 2)],vJ 0]),.v 74 (.agg #[.bool gs,sJ (p8 2),tJ (p8 2)]),.v 75 (vJ 0),.n 16 #[.bool false,nJ,nJ] 29,.p 1006 0 [.bool gs,sJ (p8 2),tJ (p8 2)],.v 14 (vJ 0)]) (fun p8=>[(1,.int .u64 bb),(2,.int .u8 md),(4,pT (p1 0).N 0),(7,pT (p1 1).N 0),(8,.bool false),(9,.bool true),(10,pT (p4 10).N 0),(11,pT (p4 11).N 0),(12,.bool li),(13,.bool hi),(14,vJ 0),(15,pT (p6 6).N 0),(16,pT (p8 6).N 0)]) (fun p8=>?_) (fun p8 W8 T hF hJ=>?_)
 ·iterate 2 refine aj ?_
  refine av (fun W cx=>bP cx.hb (aa HAd _ _ _ (p4 3).C _ _ (p4 3).C' _ _ (p4 3).C2 _ _ (p4 3).C3 (cx.G.1) (cx.G.2.1) (cx.G.2.2.1) (cx.G.2.2.2.1))) ?_;iterate 3 refine af ?_
  refine aI ?_;refine aF ?_;refine af ?_;exact ae
 replace hS:=ag.fc hS hF [0,1,2,3,4,1006] [⟨(p1 0).N,#[vJ E,vJ F],23,true⟩,⟨(p1 1).N,#[.bool s,.slice a n c,.slice b k l],29,true⟩,⟨(p4 10).N,#[.bool sl,sJ (p4 3),tJ (p4 3)],29,true⟩,⟨(p4 11).N,#[.bool sh,.slice (p4 3).A2 (p4 3).N2 (p4 3).C2,.slice (p4 3).A3 (p4 3).N3 (p4 3).C3],29,true⟩,⟨(p6 6).N,#[.bool ng,vJ ex,.int .u64 fr],35,true⟩,⟨(p8 6).N,#[.bool gs,sJ (p8 2),tJ (p8 2)],29,true⟩];replace hG:au (gM W7.heap.size (p8 2).A (p8 2).N (p8 2).C zs::gM W7.heap.size (p8 2).A' (p8 2).N' (p8 2).C' ks::_) W8:=⟨And.left (hF.fx 2),And.right (hF.fx 2),hF.gx⟩;clear hF hK;have hK:=hJ;clear hJ;refine wq hS hG hK (fun p9=>[.l 77 (.agg #[.bool gs,sJ (p8 2),tJ (p8 2)]) 5 0,.c (some 78) (cH W8.heap.size zm km fun x9 y9=>.tuple #[.agg #[.bool gm,x9,y9],vJ 0]),.v 76 (.tuple #[.agg #[.bool gm,sJ (p9 1),tJ (p9 1)],vJ 0]),.v 79 (.agg #[.bool gm,sJ (p9 1),tJ (p9 1)]),.v 80 (vJ 0),.n 17 #[.bool false,nJ,nJ] 29,.p 1005 0 [.bool gm,sJ (p9 1),tJ (p9 1)],.v 18 (vJ 0)]) (fun p9=>[(1,.int .u64 bb),(2,.int .u8 md),(4,pT (p1 0).N 0),(7,pT (p1 1).N 0),(8,.bool false),(9,.bool true),(10,pT (p4 10).N 0),(11,pT (p4 11).N 0),(12,.bool li),(13,.bool hi),(14,vJ 0),(15,pT (p6 6).N 0),(17,pT (p9 5).N 0),(18,vJ 0)]) (fun p9=>?_) (fun p9 W9 T hF hJ=>?_)
 ·refine aj ?_;refine av (fun W cx=>bP cx.hb (aa HSc _ _ _ (p8 2).C _ _ (p8 2).C' (Mine.num cx.G.1) (Mine.num cx.G.2.1))) ?_;iterate 3 refine af ?_
  refine aI ?_;refine aF ?_;refine af ?_;exact ae
 replace hS:=ag.fc hS hF [0,1,2,3,4,1005] [⟨(p1 0).N,#[vJ E,vJ F],23,true⟩,⟨(p1 1).N,#[.bool s,.slice a n c,.slice b k l],29,true⟩,⟨(p4 10).N,#[.bool sl,sJ (p4 3),tJ (p4 3)],29,true⟩,⟨(p4 11).N,#[.bool sh,.slice (p4 3).A2 (p4 3).N2 (p4 3).C2,.slice (p4 3).A3 (p4 3).N3 (p4 3).C3],29,true⟩,⟨(p6 6).N,#[.bool ng,vJ ex,.int .u64 fr],35,true⟩,⟨(p9 5).N,#[.bool gm,sJ (p9 1),tJ (p9 1)],29,true⟩];replace hG:au (gM W8.heap.size (p9 1).A (p9 1).N (p9 1).C zm::gM W8.heap.size (p9 1).A' (p9 1).N' (p9 1).C' km::_) W9:=⟨And.left (hF.fx 1),And.right (hF.fx 1),hF.gx⟩;clear hF hK;have hK:=hJ;clear hJ;refine wq hS hG hK (fun p10=>[.l 82 (.agg #[.bool sl,sJ (p4 3),tJ (p4 3)]) 2 0,.l 83 (.agg #[.bool sh,.slice (p4 3).A2 (p4 3).N2 (p4 3).C2,.slice (p4 3).A3 (p4 3).N3 (p4 3).C3]) 3 0,.c (some 84) (cV (.tuple #[vJ c0,vJ 0])),.v 81 (.tuple #[vJ c0,vJ 0]),.v 85 (vJ c0),.v 86 (vJ 0),.v 19 (vJ c0),.v 20 (vJ 0)]) (fun p10=>[(1,.int .u64 bb),(2,.int .u8 md),(4,pT (p1 0).N 0),(7,pT (p1 1).N 0),(8,.bool false),(9,.bool true),(10,pT (p4 10).N 0),(11,pT (p4 11).N 0),(12,.bool li),(13,.bool hi),(14,vJ 0),(15,pT (p6 6).N 0),(17,pT (p9 5).N 0),(18,vJ 0),(19,vJ c0),(20,vJ 0)]) (fun p10=>?_) (fun p10 W10 T hF hJ=>?_)
 ·iterate 2 refine aj ?_
  refine av (fun W cx=>aD (aa HC0 _ _ _ (p4 3).C _ _ (p4 3).C' _ _ (p4 3).C2 _ _ (p4 3).C3 (cx.G.2.2.2.2.1) (cx.G.2.2.2.2.2.1) (cx.G.2.2.2.2.2.2.1) (cx.G.2.2.2.2.2.2.2.1))) ?_;iterate 5 refine af ?_
  exact ae
 replace hS:=ag.fd hS hF;replace hG:=hF.gx;clear hF hK;have hK:=hJ;clear hJ;refine wp_seq (wp_seq ?_);refine jq hS hG hK [(1,.int .u64 bb),(2,.int .u8 md),(4,pT (p1 0).N 0),(7,pT (p1 1).N 0),(8,.bool false),(9,.bool true),(10,pT (p4 10).N 0),(11,pT (p4 11).N 0),(12,.bool li),(13,.bool hi),(14,.int .i64 0),(15,pT (p6 6).N 0),(18,.int .i64 0),(118,.bool false)] ?_ (fun T W12 hS9 hG9 hJ=>?_)
 ·rcases aa HZ with rfl|⟨rfl,rfl,rfl⟩
  ·refine wg hS hG hK (fun p11=>[.v 87 (.int .i64 0),.v 88 (.bool false),.v 89 (.bool false),.v 90 (.int .i64 0),.v 91 (.bool false),.v 92 (.bool false),.v 93 (.bool false),.v 94 (.int .i64 0),.v 95 (.bool false),.v 96 (.bool false),.v 97 (.bool false),.v 98 (.int .i64 (-1)),.v 99 (.bool false),.v 100 (.bool false),.v 101 (.bool false),.l 102 (.agg #[.int .i64 E,.int .i64 F]) 0 0,.v 103 (.int .u64 bb),.v 104 (.int .u8 md),.v 105 (pT (p6 6).N 0),.l 106 (.bool ng) 4 0,.l 107 (.agg #[.bool gm,.slice (p9 1).A (p9 1).N (p9 1).C,.slice (p9 1).A' (p9 1).N' (p9 1).C']) 5 0,.v 108 (.int .i64 (-1)),.v 109 (.bool true),.v 110 (.bool true),.k (some 111),.k (some 112),.k (some 113),.k (some 114),.v 115 (.bool true),.c (some 116) (cV (.bool true)),.v 117 (.bool false),.v 118 (.bool false)]) (fun p11=>[(1,.int .u64 bb),(2,.int .u8 md),(4,pT (p1 0).N 0),(7,pT (p1 1).N 0),(8,.bool false),(9,.bool true),(10,pT (p4 10).N 0),(11,pT (p4 11).N 0),(12,.bool li),(13,.bool hi),(14,.int .i64 0),(15,pT (p6 6).N 0),(18,.int .i64 0),(118,.bool false)]) (fun p11=>?_) (fun p11 W11 T hF hJ=>?_)
   ·iterate 15 refine af ?_
    refine aj ?_;iterate 3 refine af ?_
    iterate 2 refine aj ?_
    iterate 3 refine af ?_
    iterate 4 refine eZ ?_
    refine af ?_;refine av (fun W cx=>aD (aa HG3 _ _ _ (p9 1).C _ _ (p9 1).C' (ht.kept cx.fr) (Mine.num cx.G.1) (Mine.num cx.G.2.1))) ?_;iterate 2 refine af ?_
    exact ae
   replace hS:=ag.fd hS hF;replace hG:=hF.gx;clear hF hK;have hK:=hJ;clear hJ;have z11:=hS.fr.size;exact bg hS hG (bF (ds:=[]) hK rfl rfl _ (by kernel_rfl) (by kernel_rfl))
  ·refine wg hS hG hK (fun p11=>[.v 87 (.int .i64 0),.v 88 (.bool false),.v 89 (.bool false),.v 90 (.int .i64 0),.v 91 (.bool false),.v 92 (.bool false),.v 93 (.bool false),.v 94 (.int .i64 0),.v 95 (.bool false),.v 96 (.bool false),.v 97 (.bool false),.v 98 (.int .i64 0),.v 99 (.bool false),.v 100 (.bool false),.v 101 (.bool false),.l 102 (.agg #[.int .i64 E,.int .i64 F]) 0 0,.v 103 (.int .u64 bb),.v 104 (.int .u8 md),.v 105 (pT (p6 6).N 0),.l 106 (.bool ng) 4 0,.l 107 (.agg #[.bool gm,.slice (p9 1).A (p9 1).N (p9 1).C,.slice (p9 1).A' (p9 1).N' (p9 1).C']) 5 0,.v 108 (.int .i64 0),.v 109 (.bool false),.v 110 (.bool false),.v 111 (.bool true),.v 112 (.bool true),.v 113 (.bool true),.v 114 (.bool true),.v 115 (.bool true),.c (some 116) (cV (.bool true)),.v 117 (.bool false),.v 118 (.bool false)]) (fun p11=>[(1,.int .u64 bb),(2,.int .u8 md),(4,pT (p1 0).N 0),(7,pT (p1 1).N 0),(8,.bool false),(9,.bool true),(10,pT (p4 10).N 0),(11,pT (p4 11).N 0),(12,.bool true),(13,.bool true),(14,.int .i64 0),(15,pT (p6 6).N 0),(18,.int .i64 0),(118,.bool false)]) (fun p11=>?_) (fun p11 W11 T hF hJ=>?_)
   ·iterate 15 refine af ?_
    refine aj ?_;iterate 3 refine af ?_
    iterate 2 refine aj ?_
    iterate 8 refine af ?_
    refine av (fun W cx=>aD (aa HG3 _ _ _ (p9 1).C _ _ (p9 1).C' (ht.kept cx.fr) (Mine.num cx.G.1) (Mine.num cx.G.2.1))) ?_;iterate 2 refine af ?_
    exact ae
   replace hS:=ag.fd hS hF;replace hG:=hF.gx;clear hF hK;have hK:=hJ;clear hJ;have z11:=hS.fr.size;exact bg hS hG (bF (ds:=[]) hK rfl rfl _ (by kernel_rfl) (by kernel_rfl))
 clear hS hG hK;have hS:=hS9;have hG:=hG9;have hK:=hJ;clear hS9 hG9 hJ;refine aB (wp_cond_false (hK.ew 118) ?_);refine wp_skip (aB ?_);refine wp_seq (wp_seq ?_);refine jq hS hG hK [(1,.int .u64 bb),(2,.int .u8 md),(4,pT (p1 0).N 0),(7,pT (p1 1).N 0),(8,.bool false),(9,.bool true),(10,pT (p4 10).N 0),(11,pT (p4 11).N 0),(12,.bool li),(13,.bool hi),(14,.int .i64 0),(15,pT (p6 6).N 0),(18,.int .i64 0),(126,.bool kb)] ?_ (fun T W14 hS9 hG9 hJ=>?_)
 ·rcases aa HQ with ⟨he,rfl⟩|⟨rfl,rfl,rfl⟩|⟨rfl,rfl,rfl⟩
  ·refine wg hS hG hK (fun p13=>[.l 119 (.agg #[.bool s,.slice a n c,.slice b k l]) 1 0,.c (some 120) (cV (.int .i64 ek)),.v 121 (.bool true),.v 122 (.bool true),.k (some 123),.k (some 124),.k (some 125),.v 126 (.bool true)]) (fun p13=>[(1,.int .u64 bb),(2,.int .u8 md),(4,pT (p1 0).N 0),(7,pT (p1 1).N 0),(8,.bool false),(9,.bool true),(10,pT (p4 10).N 0),(11,pT (p4 11).N 0),(12,.bool li),(13,.bool hi),(14,.int .i64 0),(15,pT (p6 6).N 0),(18,.int .i64 0),(126,.bool true)]) (fun p13=>?_) (fun p13 W13 T hF hJ=>?_)
   ·refine aj ?_;refine av (fun W cx=>aD (aa HCk _ cx.fr)) ?_;refine aO (bne_iff_ne.2 (show ek≠0 by omega)) ?_;refine af ?_;iterate 3 refine eZ ?_
    refine af ?_;exact ae
   replace hS:=ag.fd hS hF;replace hG:=hF.gx;clear hF hK;have hK:=hJ;clear hJ;have z13:=hS.fr.size;exact bg hS hG (bF (ds:=[]) hK rfl rfl _ (by kernel_rfl) (by kernel_rfl))
  ·refine wg hS hG hK (fun p13=>[.l 119 (.agg #[.bool s,.slice a n c,.slice b k l]) 1 0,.c (some 120) (cV (.int .i64 0)),.v 121 (.bool false),.v 122 (.bool false),.l 123 (.agg #[.bool s,.slice a n c,.slice b k l]) 1 0,.c (some 124) (cV (.bool false)),.v 125 (.bool true),.v 126 (.bool true)]) (fun p13=>[(1,.int .u64 bb),(2,.int .u8 md),(4,pT (p1 0).N 0),(7,pT (p1 1).N 0),(8,.bool false),(9,.bool true),(10,pT (p4 10).N 0),(11,pT (p4 11).N 0),(12,.bool li),(13,.bool hi),(14,.int .i64 0),(15,pT (p6 6).N 0),(18,.int .i64 0),(126,.bool true)]) (fun p13=>?_) (fun p13 W13 T hF hJ=>?_)
   ·refine aj ?_;refine av (fun W cx=>aD (aa HCk _ cx.fr)) ?_;iterate 2 refine af ?_
    refine aj ?_;refine av (fun W cx=>aD (aa HSh _)) ?_;iterate 2 refine af ?_
    exact ae
   replace hS:=ag.fd hS hF;replace hG:=hF.gx;clear hF hK;have hK:=hJ;clear hJ;have z13:=hS.fr.size;exact bg hS hG (bF (ds:=[]) hK rfl rfl _ (by kernel_rfl) (by kernel_rfl))
  ·refine wg hS hG hK (fun p13=>[.l 119 (.agg #[.bool s,.slice a n c,.slice b k l]) 1 0,.c (some 120) (cV (.int .i64 0)),.v 121 (.bool false),.v 122 (.bool false),.l 123 (.agg #[.bool s,.slice a n c,.slice b k l]) 1 0,.c (some 124) (cV (.bool true)),.v 125 (.bool false),.v 126 (.bool false)]) (fun p13=>[(1,.int .u64 bb),(2,.int .u8 md),(4,pT (p1 0).N 0),(7,pT (p1 1).N 0),(8,.bool false),(9,.bool true),(10,pT (p4 10).N 0),(11,pT (p4 11).N 0),(12,.bool li),(13,.bool hi),(14,.int .i64 0),(15,pT (p6 6).N 0),(18,.int .i64 0),(126,.bool false)]) (fun p13=>?_) (fun p13 W13 T hF hJ=>?_)
   ·refine aj ?_;refine av (fun W cx=>aD (aa HCk _ cx.fr)) ?_;iterate 2 refine af ?_
    refine aj ?_;refine av (fun W cx=>aD (aa HSh _)) ?_;iterate 2 refine af ?_
    exact ae
   replace hS:=ag.fd hS hF;replace hG:=hF.gx;clear hF hK;have hK:=hJ;clear hJ;have z13:=hS.fr.size;exact bg hS hG (bF (ds:=[]) hK rfl rfl _ (by kernel_rfl) (by kernel_rfl))
 clear hS hG hK;have hS:=hS9;have hG:=hG9;have hK:=hJ;clear hS9 hG9 hJ;refine aB ?_;cases kb
 ·refine wp_cond_false (hK.ew 126) (wp_skip (aB ?_));obtain ⟨h1,h2⟩:=aa HN rfl;replace hG:au (gN a n rn::gN b k rd::_) W14:=⟨h1.kept hS.fr,h2.kept hS.fr,hG⟩;refine wq hS hG hK (fun p15=>[.l 129 (.agg #[.bool sl,sJ (p4 3),tJ (p4 3)]) 2 0,.l 130 (.agg #[.bool s,.slice a n c,.slice b k l]) 1 0,.c (some 131) (cV (.tuple #[vJ ca,vJ 0])),.v 128 (.tuple #[vJ ca,vJ 0]),.v 132 (vJ ca),.v 133 (vJ 0),.v 21 (vJ ca),.v 14 (vJ 0)]) (fun p15=>[(1,.int .u64 bb),(2,.int .u8 md),(4,pT (p1 0).N 0),(7,pT (p1 1).N 0),(8,.bool false),(9,.bool true),(11,pT (p4 11).N 0),(12,.bool li),(13,.bool hi),(14,vJ 0),(15,pT (p6 6).N 0),(18,vJ 0),(21,vJ ca)]) (fun p15=>?_) (fun p15 W15 T hF hJ=>?_)
  ·iterate 2 refine aj ?_
   refine av (fun W cx=>aD (aa HC1 _ _ _ (p4 3).C _ _ (p4 3).C' _ _ c _ _ l rfl (cx.G.2.2.2.2.2.2.1) (cx.G.2.2.2.2.2.2.2.1) (cx.G.1) (cx.G.2.1))) ?_;iterate 5 refine af ?_
   exact ae
  replace hS:=ag.fd hS hF;replace hG:=hF.gx;clear hF hK;have hK:=hJ;clear hJ;have z15:=hS.fr.size;refine wq hS hG hK (fun p16=>[.l 135 (.agg #[.bool s,.slice a n c,.slice b k l]) 1 0,.l 136 (.agg #[.bool sh,.slice (p4 3).A2 (p4 3).N2 (p4 3).C2,.slice (p4 3).A3 (p4 3).N3 (p4 3).C3]) 3 0,.c (some 137) (cV (.tuple #[vJ cb,vJ 0])),.v 134 (.tuple #[vJ cb,vJ 0]),.v 138 (vJ cb),.v 139 (vJ 0),.v 22 (vJ cb),.v 18 (vJ 0)]) (fun p16=>[(1,.int .u64 bb),(2,.int .u8 md),(4,pT (p1 0).N 0),(7,pT (p1 1).N 0),(8,.bool false),(9,.bool true),(12,.bool li),(13,.bool hi),(14,vJ 0),(15,pT (p6 6).N 0),(18,vJ 0),(21,vJ ca),(22,vJ cb)]) (fun p16=>?_) (fun p16 W16 T hF hJ=>?_)
  ·iterate 2 refine aj ?_
   refine av (fun W cx=>aD (aa HC2 _ _ _ c _ _ l _ _ (p4 3).C2 _ _ (p4 3).C3 rfl (cx.G.1) (cx.G.2.1) (cx.G.2.2.2.2.2.2.2.2.1) (cx.G.2.2.2.2.2.2.2.2.2.1))) ?_;iterate 5 refine af ?_
   exact ae
  replace hS:=ag.fd hS hF;replace hG:=hF.gx;clear hF hK;have hK:=hJ;clear hJ;refine wp_seq ?_;refine wq hS hG hK (fun p17=>[.v 140 (vJ 0),.v 141 (.bool false),.v 142 (.bool false),.v 143 (vJ 0),.v 144 (.bool false),.v 145 (.bool false)]) (fun p17=>[(1,.int .u64 bb),(2,.int .u8 md),(4,pT (p1 0).N 0),(7,pT (p1 1).N 0),(8,.bool false),(9,.bool true),(12,.bool li),(13,.bool hi),(15,pT (p6 6).N 0),(21,vJ ca),(22,vJ cb),(145,.bool false)]) (fun p17=>?_) (fun p17 W17 T hF hJ=>?_)
  ·iterate 6 refine af ?_
   exact ae
  replace hS:=ag.fd hS hF;replace hG:=hF.gx;clear hF hK;have hK:=hJ;clear hJ;refine wp_cond_false (hK.ew 145) (wp_skip ?_);refine aB (wp_seq ?_);refine jq hS hG hK [(1,.int .u64 bb),(2,.int .u8 md),(4,pT (p1 0).N 0),(7,pT (p1 1).N 0),(8,.bool false),(9,.bool true),(15,pT (p6 6).N 0),(23,.bool inn)] ?_ (fun T W19 hS9 hG9 hJ=>?_)
  ·rcases aa HI rfl with ⟨rfl,rfl⟩|⟨rfl,rfl,rfl⟩|⟨rfl,rfl,rfl⟩|⟨rfl,rfl,rfl,rfl⟩|⟨rfl,rfl,rfl,rfl⟩|⟨rfl,rfl,rfl⟩|⟨rfl,rfl,rfl,rfl⟩|⟨rfl,rfl,rfl,rfl,rfl⟩|⟨rfl,rfl,rfl,rfl,rfl⟩|⟨rfl,rfl,rfl,rfl⟩
   ·refine wg hS hG hK (fun p18=>[.v 146 (.int .i64 1),.v 147 (.bool false),.v 148 (.bool false),.v 149 (.int .i64 1),.v 150 (.bool false),.v 151 (.bool false),.k (some 152),.v 153 (.bool false),.v 154 (.bool false),.v 155 (.bool false),.k (some 156),.k (some 157),.k (some 158),.k (some 159),.k (some 160),.k (some 161),.k (some 162),.k (some 163),.k (some 164),.v 165 (.bool false),.v 23 (.bool false)]) (fun p18=>[(1,.int .u64 bb),(2,.int .u8 md),(4,pT (p1 0).N 0),(7,pT (p1 1).N 0),(8,.bool false),(9,.bool true),(15,pT (p6 6).N 0),(23,.bool false)]) (fun p18=>?_) (fun p18 W18 T hF hJ=>?_)
    ·iterate 6 refine af ?_
     refine eZ ?_;iterate 3 refine af ?_
     iterate 9 refine eZ ?_
     iterate 2 refine af ?_
     exact ae
    replace hS:=ag.fd hS hF;replace hG:=hF.gx;clear hF hK;have hK:=hJ;clear hJ;have z18:=hS.fr.size;exact bg hS hG (bF (ds:=[]) hK rfl rfl _ (by kernel_rfl) (by kernel_rfl))
   ·refine wg hS hG hK (fun p18=>[.v 146 (.int .i64 0),.v 147 (.bool false),.v 148 (.bool false),.v 149 (.int .i64 0),.v 150 (.bool true),.v 151 (.bool true),.v 152 (.bool false),.v 153 (.bool false),.v 154 (.bool false),.v 155 (.bool false),.k (some 156),.k (some 157),.k (some 158),.k (some 159),.k (some 160),.k (some 161),.k (some 162),.k (some 163),.k (some 164),.v 165 (.bool false),.v 23 (.bool false)]) (fun p18=>[(1,.int .u64 bb),(2,.int .u8 md),(4,pT (p1 0).N 0),(7,pT (p1 1).N 0),(8,.bool false),(9,.bool true),(15,pT (p6 6).N 0),(23,.bool false)]) (fun p18=>?_) (fun p18 W18 T hF hJ=>?_)
    ·iterate 10 refine af ?_
     iterate 9 refine eZ ?_
     iterate 2 refine af ?_
     exact ae
    replace hS:=ag.fd hS hF;replace hG:=hF.gx;clear hF hK;have hK:=hJ;clear hJ;have z18:=hS.fr.size;exact bg hS hG (bF (ds:=[]) hK rfl rfl _ (by kernel_rfl) (by kernel_rfl))
   ·refine wg hS hG hK (fun p18=>[.v 146 (.int .i64 (-1)),.v 147 (.bool true),.v 148 (.bool true),.k (some 149),.k (some 150),.k (some 151),.k (some 152),.k (some 153),.v 154 (.bool true),.v 155 (.bool true),.v 156 (.int .i64 (-1)),.v 157 (.bool true),.v 158 (.bool true),.k (some 159),.k (some 160),.k (some 161),.k (some 162),.k (some 163),.v 164 (.bool true),.v 165 (.bool true),.v 23 (.bool true)]) (fun p18=>[(1,.int .u64 bb),(2,.int .u8 md),(4,pT (p1 0).N 0),(7,pT (p1 1).N 0),(8,.bool false),(9,.bool true),(15,pT (p6 6).N 0),(23,.bool true)]) (fun p18=>?_) (fun p18 W18 T hF hJ=>?_)
    ·iterate 3 refine af ?_
     iterate 5 refine eZ ?_
     iterate 5 refine af ?_
     iterate 5 refine eZ ?_
     iterate 3 refine af ?_
     exact ae
    replace hS:=ag.fd hS hF;replace hG:=hF.gx;clear hF hK;have hK:=hJ;clear hJ;have z18:=hS.fr.size;exact bg hS hG (bF (ds:=[]) hK rfl rfl _ (by kernel_rfl) (by kernel_rfl))
   ·refine wg hS hG hK (fun p18=>[.v 146 (.int .i64 (-1)),.v 147 (.bool true),.v 148 (.bool true),.k (some 149),.k (some 150),.k (some 151),.k (some 152),.k (some 153),.v 154 (.bool true),.v 155 (.bool true),.v 156 (.int .i64 0),.v 157 (.bool false),.v 158 (.bool false),.v 159 (.int .i64 0),.v 160 (.bool true),.v 161 (.bool true),.v 162 (.bool true),.v 163 (.bool true),.v 164 (.bool true),.v 165 (.bool true),.v 23 (.bool true)]) (fun p18=>[(1,.int .u64 bb),(2,.int .u8 md),(4,pT (p1 0).N 0),(7,pT (p1 1).N 0),(8,.bool false),(9,.bool true),(15,pT (p6 6).N 0),(23,.bool true)]) (fun p18=>?_) (fun p18 W18 T hF hJ=>?_)
    ·iterate 3 refine af ?_
     iterate 5 refine eZ ?_
     iterate 13 refine af ?_
     exact ae
    replace hS:=ag.fd hS hF;replace hG:=hF.gx;clear hF hK;have hK:=hJ;clear hJ;have z18:=hS.fr.size;exact bg hS hG (bF (ds:=[]) hK rfl rfl _ (by kernel_rfl) (by kernel_rfl))
   ·refine wg hS hG hK (fun p18=>[.v 146 (.int .i64 (-1)),.v 147 (.bool true),.v 148 (.bool true),.k (some 149),.k (some 150),.k (some 151),.k (some 152),.k (some 153),.v 154 (.bool true),.v 155 (.bool true),.v 156 (.int .i64 0),.v 157 (.bool false),.v 158 (.bool false),.v 159 (.int .i64 0),.v 160 (.bool true),.v 161 (.bool true),.v 162 (.bool false),.v 163 (.bool false),.v 164 (.bool false),.v 165 (.bool false),.v 23 (.bool false)]) (fun p18=>[(1,.int .u64 bb),(2,.int .u8 md),(4,pT (p1 0).N 0),(7,pT (p1 1).N 0),(8,.bool false),(9,.bool true),(15,pT (p6 6).N 0),(23,.bool false)]) (fun p18=>?_) (fun p18 W18 T hF hJ=>?_)
    ·iterate 3 refine af ?_
     iterate 5 refine eZ ?_
     iterate 13 refine af ?_
     exact ae
    replace hS:=ag.fd hS hF;replace hG:=hF.gx;clear hF hK;have hK:=hJ;clear hJ;have z18:=hS.fr.size;exact bg hS hG (bF (ds:=[]) hK rfl rfl _ (by kernel_rfl) (by kernel_rfl))
   ·refine wg hS hG hK (fun p18=>[.v 146 (.int .i64 (-1)),.v 147 (.bool true),.v 148 (.bool true),.k (some 149),.k (some 150),.k (some 151),.k (some 152),.k (some 153),.v 154 (.bool true),.v 155 (.bool true),.v 156 (.int .i64 1),.v 157 (.bool false),.v 158 (.bool false),.v 159 (.int .i64 1),.v 160 (.bool false),.v 161 (.bool false),.k (some 162),.v 163 (.bool false),.v 164 (.bool false),.v 165 (.bool false),.v 23 (.bool false)]) (fun p18=>[(1,.int .u64 bb),(2,.int .u8 md),(4,pT (p1 0).N 0),(7,pT (p1 1).N 0),(8,.bool false),(9,.bool true),(15,pT (p6 6).N 0),(23,.bool false)]) (fun p18=>?_) (fun p18 W18 T hF hJ=>?_)
    ·iterate 3 refine af ?_
     iterate 5 refine eZ ?_
     iterate 8 refine af ?_
     refine eZ ?_;iterate 4 refine af ?_
     exact ae
    replace hS:=ag.fd hS hF;replace hG:=hF.gx;clear hF hK;have hK:=hJ;clear hJ;have z18:=hS.fr.size;exact bg hS hG (bF (ds:=[]) hK rfl rfl _ (by kernel_rfl) (by kernel_rfl))
   ·refine wg hS hG hK (fun p18=>[.v 146 (.int .i64 0),.v 147 (.bool false),.v 148 (.bool false),.v 149 (.int .i64 0),.v 150 (.bool true),.v 151 (.bool true),.v 152 (.bool true),.v 153 (.bool true),.v 154 (.bool true),.v 155 (.bool true),.v 156 (.int .i64 (-1)),.v 157 (.bool true),.v 158 (.bool true),.k (some 159),.k (some 160),.k (some 161),.k (some 162),.k (some 163),.v 164 (.bool true),.v 165 (.bool true),.v 23 (.bool true)]) (fun p18=>[(1,.int .u64 bb),(2,.int .u8 md),(4,pT (p1 0).N 0),(7,pT (p1 1).N 0),(8,.bool false),(9,.bool true),(15,pT (p6 6).N 0),(23,.bool true)]) (fun p18=>?_) (fun p18 W18 T hF hJ=>?_)
    ·iterate 13 refine af ?_
     iterate 5 refine eZ ?_
     iterate 3 refine af ?_
     exact ae
    replace hS:=ag.fd hS hF;replace hG:=hF.gx;clear hF hK;have hK:=hJ;clear hJ;have z18:=hS.fr.size;exact bg hS hG (bF (ds:=[]) hK rfl rfl _ (by kernel_rfl) (by kernel_rfl))
   ·refine wg hS hG hK (fun p18=>[.v 146 (.int .i64 0),.v 147 (.bool false),.v 148 (.bool false),.v 149 (.int .i64 0),.v 150 (.bool true),.v 151 (.bool true),.v 152 (.bool true),.v 153 (.bool true),.v 154 (.bool true),.v 155 (.bool true),.v 156 (.int .i64 0),.v 157 (.bool false),.v 158 (.bool false),.v 159 (.int .i64 0),.v 160 (.bool true),.v 161 (.bool true),.v 162 (.bool true),.v 163 (.bool true),.v 164 (.bool true),.v 165 (.bool true),.v 23 (.bool true)]) (fun p18=>[(1,.int .u64 bb),(2,.int .u8 md),(4,pT (p1 0).N 0),(7,pT (p1 1).N 0),(8,.bool false),(9,.bool true),(15,pT (p6 6).N 0),(23,.bool true)]) (fun p18=>?_) (fun p18 W18 T hF hJ=>?_)
    ·iterate 21 refine af ?_
     exact ae
    replace hS:=ag.fd hS hF;replace hG:=hF.gx;clear hF hK;have hK:=hJ;clear hJ;have z18:=hS.fr.size;exact bg hS hG (bF (ds:=[]) hK rfl rfl _ (by kernel_rfl) (by kernel_rfl))
   ·refine wg hS hG hK (fun p18=>[.v 146 (.int .i64 0),.v 147 (.bool false),.v 148 (.bool false),.v 149 (.int .i64 0),.v 150 (.bool true),.v 151 (.bool true),.v 152 (.bool true),.v 153 (.bool true),.v 154 (.bool true),.v 155 (.bool true),.v 156 (.int .i64 0),.v 157 (.bool false),.v 158 (.bool false),.v 159 (.int .i64 0),.v 160 (.bool true),.v 161 (.bool true),.v 162 (.bool false),.v 163 (.bool false),.v 164 (.bool false),.v 165 (.bool false),.v 23 (.bool false)]) (fun p18=>[(1,.int .u64 bb),(2,.int .u8 md),(4,pT (p1 0).N 0),(7,pT (p1 1).N 0),(8,.bool false),(9,.bool true),(15,pT (p6 6).N 0),(23,.bool false)]) (fun p18=>?_) (fun p18 W18 T hF hJ=>?_)
    ·iterate 21 refine af ?_
     exact ae
    replace hS:=ag.fd hS hF;replace hG:=hF.gx;clear hF hK;have hK:=hJ;clear hJ;have z18:=hS.fr.size;exact bg hS hG (bF (ds:=[]) hK rfl rfl _ (by kernel_rfl) (by kernel_rfl))
   ·refine wg hS hG hK (fun p18=>[.v 146 (.int .i64 0),.v 147 (.bool false),.v 148 (.bool false),.v 149 (.int .i64 0),.v 150 (.bool true),.v 151 (.bool true),.v 152 (.bool true),.v 153 (.bool true),.v 154 (.bool true),.v 155 (.bool true),.v 156 (.int .i64 1),.v 157 (.bool false),.v 158 (.bool false),.v 159 (.int .i64 1),.v 160 (.bool false),.v 161 (.bool false),.k (some 162),.v 163 (.bool false),.v 164 (.bool false),.v 165 (.bool false),.v 23 (.bool false)]) (fun p18=>[(1,.int .u64 bb),(2,.int .u8 md),(4,pT (p1 0).N 0),(7,pT (p1 1).N 0),(8,.bool false),(9,.bool true),(15,pT (p6 6).N 0),(23,.bool false)]) (fun p18=>?_) (fun p18 W18 T hF hJ=>?_)
    ·iterate 16 refine af ?_
     refine eZ ?_;iterate 4 refine af ?_
     exact ae
    replace hS:=ag.fd hS hF;replace hG:=hF.gx;clear hF hK;have hK:=hJ;clear hJ;have z18:=hS.fr.size;exact bg hS hG (bF (ds:=[]) hK rfl rfl _ (by kernel_rfl) (by kernel_rfl))
  clear hS hG hK;have hS:=hS9;have hG:=hG9;have hK:=hJ;clear hS9 hG9 hJ;refine aB ?_;refine wq hS hG hK (fun p20=>[.v 166 (.bool true),.v 167 (.bool true),.l 168 (.agg #[vJ E,vJ F]) 0 0,.v 169 (.int .u64 bb),.v 170 (.int .u8 md),.v 171 (pT (p6 6).N 0),.l 172 (.bool ng) 4 0,.l 173 (.agg #[.bool s,.slice a n c,.slice b k l]) 1 0,.v 174 (.bool inn),.c (some 175) (cV (.bool true)),.v 176 (.bool true),.v 8 (.bool true)]) (fun p20=>[(8,.bool true),(9,.bool true)]) (fun p20=>?_) (fun p20 W20 T hF hJ=>?_)
  ·iterate 2 refine af ?_
   refine aj ?_;iterate 3 refine af ?_
   iterate 2 refine aj ?_
   refine af ?_;refine av (fun W cx=>aD (aa HG4 _ _ _ c _ _ l rfl (ht.kept cx.fr) (cx.G.1) (cx.G.2.1))) ?_;iterate 2 refine af ?_
   exact ae
  replace hS:=ag.fd hS hF;replace hG:=hF.gx;clear hF hK;have hK:=hJ;clear hJ;refine wp_ret ?_;exact aA hS hK (.bool true) [] [] (by kernel_rfl) (by kernel_rfl) ⟨rfl,hS.fr⟩
 ·refine wp_cond_true (hK.ew 126) ?_;refine wq hS hG hK (fun p15=>[.v 127 (.bool true),.v 8 (.bool true)]) (fun p15=>[(1,.int .u64 bb),(2,.int .u8 md),(4,pT (p1 0).N 0),(7,pT (p1 1).N 0),(8,.bool true),(9,.bool true),(10,pT (p4 10).N 0),(11,pT (p4 11).N 0),(12,.bool li),(13,.bool hi),(14,vJ 0),(15,pT (p6 6).N 0),(18,vJ 0)]) (fun p15=>?_) (fun p15 W15 T hF hJ=>?_)
  ·iterate 2 refine af ?_
   exact ae
  replace hS:=ag.fd hS hF;replace hG:=hF.gx;clear hF hK;have hK:=hJ;clear hJ;have z15:=hS.fr.size;refine wp_ret ?_;refine bz ?_;exact aA hS hK (.bool true) [] [] (by kernel_rfl) (by kernel_rfl) ⟨rfl,hS.fr⟩
theorem AO{md:Nat}{s:Bool}{F r h d h' d':Nat}(h0:0<h)(h1:h<d)(h0':0<h')(h1':h'<d'):gY md s F r h d↔gY md s F r h' d':=by
 have key:∀b:Nat,((b*d<h↔b=0)∧¬b*d=h∧(h<b*d↔0<b))∧((b*d'<h'↔b=0)∧¬b*d'=h'∧(h'<b*d'↔0<b)):=by
  intro b;rcases Nat.eq_zero_or_pos b with rfl|hb
  ·simp;omega
  ·have h2:=Nat.le_mul_of_pos_left d hb;have h3:=Nat.le_mul_of_pos_left d' hb;omega
 obtain ⟨⟨a1,a2,a3⟩,⟨a4,a5,a6⟩⟩:=key (bR md s F (r-1));obtain ⟨⟨b1,b2,b3⟩,⟨b4,b5,b6⟩⟩:=key (bR md s F r);have b2':¬h=bR md s F r*d:=fun e=>b2 e.symm;have b5':¬h'=bR md s F r*d':=fun e=>b5 e.symm;rw [j5,j5];simp only [a1,a2,a4,a5,b3,b6,b2',b5',false_and,or_false]
theorem DT{E F S I B:Nat}(h:Fm E F S I)(hB:B=2^(E-1)-1)(md:Nat)(s:Bool){r:Nat}(hr:r<I):bR md s F r<2^(gK+1):=by
 have h1:=qR h hB (show r≤I by omega);have h2:=qR h hB (show r+1≤I by omega);rw [Nat.pow_succ];unfold bR
 split
 ·omega
 ·split<;>omega
theorem sU{md:Nat}{s:Bool}{F r h d:Nat}(h1:bR md s F r*d<h):¬gY md s F r h d:=fun g=>by
 rcases g.hi with q|⟨q,-⟩<;>omega
theorem wG{E F S I B G:Nat}(h:Fm E F S I)(hB:B=2^(E-1)-1)(hG:(G:Int)=(B:Int)+(F:Int)-1){md:Nat}(hm:md≤4)(ng:Bool){t:Bool}{p d:Nat}(hd:0<d)(hg:Nat.gcd p d=1)(ht:t=true→0<p)(bp:aK p≤100000)(bd:aK d≤100000) :
  ∃bt fl:Nat,(∀(W:World)(a:Option Addr)(n c:Nat)(b:Option Addr)(k l:Nat),Tb W→Num W a n p→Num W b k d→Calls Tryz.prog 28 #[.agg #[.int .i64 (E:Int),.int .i64 (F:Int)],.agg #[.bool t,.slice a n c,.slice b k l],.bool ng,.int .u8 (md:Int)] W fun e w'=>e = .returned (.tuple #[.int .u64 (bt:Int),.int .u8 (fl:Int),.int .i64 0])∧Below W.heap.size W w') ∧
   ∀r,r<I→((bt=(if ng then S else 0)+r∧bits BinOp.and .u8 (fl:Int) 2=0)↔dV md ng F r G t p d):=by
 have hG2:G≤2000:=by
  have:=Nat.pow_le_pow_right (show 0<2 by omega) (show E-1≤10 by have:=h.fo.e11;omega);have:=h.fo.f52;omega
 have HC:∀(a:Option Addr)(n c:Nat)(b:Option Addr)(k l:Nat),Hid (∀W:World,Num W a n p→Num W b k d→Calls Tryz.prog 12 #[.agg #[.bool t,.slice a n c,.slice b k l]] W fun e W'=>e = .returned (.int .i64 0)∧Below W.heap.size W W'):=fun a n c b k l=>hide fun W h1 h2=>by
  have hk:0<k:=by have:=h2.zero;omega
  cases t
  ·exact kD a n c p b k l d W hk h1 h2 hg
  ·exact kK a n c p b k l d W hk (by have:=h1.zero;have:=ht rfl;omega) h1 h2 hg
 rcases Nat.eq_zero_or_pos p with h0|h0
 ·subst h0;have hd1:d=1:=by rwa [Nat.gcd_zero_left] at hg
  have ht0:t=false:=by
   cases t
   ·rfl
   ·have:=ht rfl;omega
  subst hd1;subst ht0;refine ⟨if ng then S else 0,0,fun W a n c b k l hT h1 h2=>?_,fun r _=>qA md false ng G (by omega)⟩;refine nC W E F md false ng a b n c k l 0 1 _ 0 h1 h2 (hide fun W' hb q1 q2=>?_);refine kU W' E F md false ng a b n c k l 0 1 0 0 _ 0 h.fo hm (hT.kept hb) q1 q2 (HC a n c b k l) (hide fun W _ r1 _=>?_) (hide fun W B9 A N C g=>nY h ng W B9 A N C g);exact (CO W false a b n c k l r1).mono fun e W' ⟨h1,h2⟩=>⟨⟨none,0,0,h1,⟨[],rfl,Or.inl ⟨rfl,rfl⟩,Pl.wf_nil,Pl.norm_nil,rfl,by omega⟩⟩,h2⟩
 by_cases hn:aK d≤aK p+4096∧aK p≤aK d+4096
 ·obtain ⟨M,K,X,r0,ρ,w,hP,hc⟩:=Aw h hB hG h0 hd hg bp bd hn.1 hn.2;exact ⟨_,_,fun W a n c b k l hT h1 h2=>hc md t ng a n c b k l W hm hT h1 h2,fun r hr=>hP.goes h hd h0 md t ng hr⟩
 obtain ⟨sz,hsz⟩:∃sz:Int,(aK p:Int)-(aK d:Int)=sz:=⟨_,rfl⟩;obtain ⟨i,hi⟩:∃i:Nat,max sz 0=(i:Int):=⟨(max sz 0).toNat,by omega⟩;obtain ⟨j,hj⟩:∃j:Nat,max (-sz) 0=(j:Int):=⟨(max (-sz) 0).toNat,by omega⟩;have hx:sz=(i:Int)-(j:Int):=by omega
 have hj0:0<2^j:=Nat.pow_pos (by omega);have hK1:Bl 1 1:=by have:=bu 1;exact ⟨by decide,Or.inr (by decide)⟩
 obtain ⟨r0,ρ,w,hP⟩:=lU (yB (c:=65) (m:=1) (K:=1) (by decide) (by decide) hK1 hx) (B:=B) h.fo.f52 h.fo.f1 hG;refine ⟨_,_,fun W a n c b k l hT h1 h2=>?_,fun r hr=>(hP.goes h hj0 (Nat.mul_pos (by omega) (Nat.pow_pos (by omega))) md t ng hr).trans ?_⟩
 ·refine nC W E F md t ng a b n c k l p d _ _ h1 h2 (hide fun W' hb q1 q2=>?_);refine kU W' E F md t ng a b n c k l p d sz 1 _ _ h.fo hm (hT.kept hb) q1 q2 (HC a n c b k l) (hide fun W t9 r1 r2=>?_) (hide fun W B9 A N C g=>jX h hB hm ng t A N C 1 1 sz W B9 g ⟨by decide,by omega,by omega⟩ hK1);have HK:=hide fun (W:World) (B:Nat) (A:Option Addr) (N C:Nat) (g:Mine W B A N C 1) (hT:Tb W)=>vB t sz (by omega) W B A N C g hT;by_cases hs:4096<sz
  ·exact ze W t a b n c k l p d (aK p) (aK d) sz t9 r1 r2 (by omega) (by omega) (by omega) hsz hs (hide (gL p)) (hide (gL d)) HK
  ·exact zo W t a b n c k l p d (aK p) (aK d) sz t9 r1 r2 (by omega) (by omega) (by omega) hsz (by omega) (hide (gL p)) (hide (gL d)) HK
 ·have hp1:=bu p;have hd1:=bu d;have hpl:2^(aK p-1)≤p:=by
   rcases hp1.2 with e|e
   ·have:=hp1.1;rw [e] at this;simp at this;omega
   ·exact e
  have hdl:2^(aK d-1)≤d:=by
   rcases hd1.2 with e|e
   ·have:=hd1.1;rw [e] at this;simp at this;omega
   ·exact e
  have hp0:aK p≠0:=fun e=>by have:=hp1.1;rw [e] at this;simp at this;omega
  have hd0:aK d≠0:=fun e=>by have:=hd1.1;rw [e] at this;simp at this;omega
  have hlt:=hd1.1;have hltp:=hp1.1;unfold dV;have hz:(t=ng∨1*2^i=0)↔(t=ng∨p=0):=by
   have:0<2^i:=Nat.pow_pos (by omega);constructor<;>rintro (e|e)<;>first|exact Or.inl e|omega
  rw [hz];refine and_congr_right fun _=>?_;by_cases hs:4096<sz
  ·have ej:j=0:=by omega
   have ei:i=aK p-aK d:=by omega
   have htop:=DT h hB md ng hr;have hgk:gK+1≤i:=by unfold gK;omega
   have hA:¬gY md ng F r (2*(1*2^i*2^G)) (2^j):=by
    refine sU ?_;rw [ej,Nat.pow_zero,Nat.mul_one,Nat.one_mul];have h1:2^(gK+1)≤2^i:=Nat.pow_le_pow_right (by omega) hgk;have h2:2^i≤2^i*2^G:=Nat.le_mul_of_pos_right _ (Nat.pow_pos (by omega));omega
   have hBn:¬gY md ng F r (2*(p*2^G)) d:=by
    refine sU ?_;have h1:2^(gK+1)*d<2^(gK+1)*2^aK d:=Nat.mul_lt_mul_of_pos_left hlt (Nat.pow_pos (by omega));rw [←Nat.pow_add] at h1;have h2:2^(gK+1+aK d)≤2^(aK p-1):=Nat.pow_le_pow_right (by omega) (by unfold gK;omega);have h3:p≤p*2^G:=Nat.le_mul_of_pos_right _ (Nat.pow_pos (by omega));have h4:bR md ng F r*d≤2^(gK+1)*d:=Nat.mul_le_mul_right _ (Nat.le_of_lt htop);omega
   exact ⟨fun g=>absurd g hA,fun g=>absurd g hBn⟩
  ·have ei:i=0:=by omega
   refine AO ?_ ?_ ?_ ?_
   ·exact Nat.mul_pos (by omega) (Nat.mul_pos (Nat.mul_pos (by omega) (Nat.pow_pos (by omega))) (Nat.pow_pos (by omega)))
   ·rw [ei,Nat.pow_zero,Nat.mul_one,Nat.one_mul,Nat.mul_comm,←Nat.pow_succ];exact Nat.pow_lt_pow_right (by omega) (by omega)
   ·exact Nat.mul_pos (by omega) (Nat.mul_pos h0 (Nat.pow_pos (by omega)))
   ·have h1:p*2^(G+1)<2^aK p*2^(G+1):=Nat.mul_lt_mul_of_pos_right hltp (Nat.pow_pos (by omega));rw [←Nat.pow_add] at h1;have h2:2^(aK p+(G+1))≤2^(aK d-1):=Nat.pow_le_pow_right (by omega) (by omega);have h3:2*(p*2^G)=p*2^(G+1):=by rw [Nat.pow_succ];ac_rfl
    omega
end Go.Proofs.YtaidedkpfnidpaaGreatDoor
