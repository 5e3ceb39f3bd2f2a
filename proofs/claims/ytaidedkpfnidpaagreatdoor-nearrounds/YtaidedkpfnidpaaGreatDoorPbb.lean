/- Of what NearRoundsRow stands on: NrCall RRat Rc8Eq. -/
import Derived.Test.YtaidedkpfnidpaaGreatDoorPba
import Derived.Laws.StructEq
namespace Go.Proofs.YtaidedkpfnidpaaGreatDoor
open Go.RowKit
set_option maxHeartbeats 2000000
set_option maxRecDepth 20000
structure Fm(E F S I:Nat):Prop where
 fo:Fo E F
 hS:S=2^(F+E)
 hI:I=(2^E-1)*2^F
theorem Fm.top{E F S I:Nat}(h:Fm E F S I):I+2^F=S:=by
 have h1:=h.hS;have h2:=h.hI;have h3:=aL E;have h4:(2^E-1)*2^F+1*2^F=2^E*2^F:=by rw [←Nat.add_mul,Nat.sub_add_cancel h3]
 rw [Nat.add_comm,Nat.pow_add] at h1;omega
theorem Fm.lt{E F S I:Nat}(h:Fm E F S I):I<S:=by
 have:=h.top;have:=aL F;omega
theorem Fm.six{E F S I:Nat}(h:Fm E F S I):6≤I:=by
 have h1:2^2≤2^E:=aJ h.fo.e2;have h2:2^1≤2^F:=aJ h.fo.f1;rw [h.hI];exact Nat.le_trans (by decide:6≤3*2) (Nat.mul_le_mul (by omega) (by omega))
theorem Fm.s63{E F S I:Nat}(h:Fm E F S I):S≤9223372036854775808:=(vQ h.fo h.hS).2
theorem Fm.i63{E F S I:Nat}(h:Fm E F S I):I<9223372036854774000:=by
 have h1:=h.top;have h2:=h.s63;by_cases hF:F=52
 ·subst hF;have h3:(2:Nat)^52=4503599627370496:=by decide
  omega
 ·have h3:=h.fo.f52;have h4:=h.fo.e11;have h5:2^(F+E)≤2^62:=aJ (by omega);rw [←h.hS] at h5;have h6:(2:Nat)^62=4611686018427387904:=by decide
  have:=aL F;omega
theorem Fm.bt{E F S I b:Nat}(h:Fm E F S I)(hb:b<2*S):b<2^(F+E+1):=by rw [Nat.pow_succ,Nat.mul_comm,←h.hS];exact hb
theorem Fm.tb{E F S I b:Nat}(h:Fm E F S I)(hb:¬b<2*S):2^(F+E+1)≤b:=by rw [Nat.pow_succ,Nat.mul_comm,←h.hS];omega
theorem Fm.nan{E F S I b ex fr:Nat}{neg:Bool}(h:Fm E F S I)(hB:Bt E F b neg ex fr):dN ex fr (2^E-1)=5↔I<b%S:=by
 have hr:=hB.rest;rw [←h.hS] at hr;have h1:=hB.fr_lt;have h2:=hB.ex_lt;have hI:=h.hI;have hE:2^2≤2^E:=aJ h.fo.e2;have hmul:ex<2^E-1→ex*2^F+2^F≤(2^E-1)*2^F:=fun hx=>by
  have:=Nat.mul_le_mul_right (2^F) (show ex+1≤2^E-1 from hx);rw [Nat.add_mul,Nat.one_mul] at this;exact this
 unfold dN;by_cases h0:ex=0
 ·subst h0;have:=hmul (by omega);by_cases h3:fr=0
  ·simp [h3];omega
  ·simp [h3];omega
 ·by_cases hlt:ex<2^E-1
  ·have:=hmul hlt;simp [h0,hlt];omega
  ·have he:ex=2^E-1:=by omega
   have hm:ex*2^F=I:=by rw [he,hI]
   by_cases h3:fr=0
   ·simp [h0,hlt,h3];omega
   ·simp [h0,hlt,h3];omega
theorem eY{E F S I b:Nat}(h:Fm E F S I)(hb:b<2*S):bf 26 #[.agg #[.int .i64 E,.int .i64 F],.int .u64 (b:Int)] (.int .i64 0):=fun W=>o8 E F b h.fo (h.bt hb) W
theorem Hr{E F S I b:Nat}(h:Fm E F S I)(hb:¬b<2*S):bf 26 #[.agg #[.int .i64 E,.int .i64 F],.int .u64 (b:Int)] (.int .i64 6):=fun W=>Af E F b h.fo (h.tb hb) W
theorem Gq{E F:Int}(h:wF E F)(b:Int):bf 26 #[.agg #[.int .i64 E,.int .i64 F],.int .u64 b] (.int .i64 5):=fun W=>Az E F h b W
theorem jk{E F S I b:Nat}(h:Fm E F S I)(hb:b<2*S)(hn:b%S≤I):∃c:Int,(c==(5:Int))=false∧bf 15 #[.agg #[.int .i64 E,.int .i64 F],.int .u64 (b:Int)] (.tuple #[.int .u8 c,.int .i64 0]):=by
 have hB:=Bt.of E F b (h.bt hb);refine ⟨_,?_,fun W=>eU E F b _ _ _ h.fo hB _ (hide rfl) W⟩;have h5:¬dN (b%2^(F+E)/2^F) (b%2^F) (2^E-1)=5:=fun e=>by have:=(h.nan hB).1 e;omega
 simp only [beq_eq_false_iff_ne,ne_eq];omega
theorem wm{E F S I b:Nat}(h:Fm E F S I)(hb:b<2*S)(hn:¬b%S≤I):bf 15 #[.agg #[.int .i64 E,.int .i64 F],.int .u64 (b:Int)] (.tuple #[.int .u8 5,.int .i64 0]):=by
 have hB:=Bt.of E F b (h.bt hb);intro W;have h1:=eU E F b _ _ _ h.fo hB _ (hide rfl) W;rw [(h.nan hB).2 (by omega)] at h1;exact h1
def iT(S I:Nat)(d:Bool):Nat:=if d then S+I else I
theorem qV{E F S I:Nat}(h:Fm E F S I)(d:Bool):bf 92 #[.agg #[.int .i64 E,.int .i64 F],.bool d] (.tuple #[.int .u64 (iT S I d:Int),.int .i64 0]):=by
 refine fun W=>zL E F _ (2^E-1) d h.fo ⟨aL F,by have:=aL E;omega,?_⟩ (hide rfl) W;rw [←h.hS,←h.hI];cases d<;>simp [iT]
theorem fI{E F S I b:Nat}(h:Fm E F S I)(hb:b<2*S):bf 49 #[.agg #[.int .i64 E,.int .i64 F],.int .u64 (b:Int)] (.agg #[.int .u64 (ol S b:Int),.int .u64 ((b%S:Nat):Int)]):=by
 intro W;unfold ol;by_cases h0:b%S=0
 ·rw [if_pos h0,h0];exact CY E F S b h.fo (hide h.hS) hb h0 W
 ·rw [if_neg h0];exact A7 E F S b _ _ h.fo (hide h.hS) hb rfl (by omega) rfl W
theorem fB{S b:Nat}(h0:0<S)(hb:b<2*S):(b<S∧b/S=0∧b%S=b)∨(¬b<S∧b/S=1∧b%S=b-S):=by
 by_cases h:b<S
 ·exact Or.inl ⟨h,Nat.div_eq_of_lt h,Nat.mod_eq_of_lt h⟩
 ·refine Or.inr ⟨h,?_,?_⟩
  ·rw [Nat.div_eq_iff h0];omega
  ·rw [Nat.mod_eq_sub_mod (by omega),Nat.mod_eq_of_lt (by omega)]
theorem Fm.pos{E F S I:Nat}(h:Fm E F S I):0<S:=by have:=h.lt;omega
theorem mI{E F S I b:Nat}(h:Fm E F S I)(hb:b<2*S):bf 50 #[.agg #[.int .u64 (ol S b:Int),.int .u64 ((b%S:Nat):Int)]] (.int .i64 (gX S b)):=by
 intro W;have h63:=h.s63;unfold ol gX;rcases fB h.pos hb with ⟨h1,h2,h3⟩|⟨h1,h2,h3⟩
 ·rw [h2,h3,if_pos h1,ite_self];exact vO b (by omega) W
 ·rw [if_neg h1,h2,h3];by_cases h0:b-S=0
  ·rw [if_pos h0,h0,show (S:Int)-(b:Int)=((0:Nat):Int) from by omega];exact vO 0 (by decide) W
  ·rw [if_neg h0,show (S:Int)-(b:Int) = -((b-S:Nat):Int) from by omega];exact EE (b-S) (by omega) (by omega) W
def nX(S b:Nat):Nat:=if b<S then b+1 else if b=S then 1 else b-1
def oW(S b:Nat):Nat:=if b=0 then S+1 else if b<S then b-1 else b+1
theorem zJ{E F S I b:Nat}(h:Fm E F S I)(hb:b<2*S)(hn:b%S≤I):-(I:Int)≤gX S b∧gX S b≤(I:Int):=by
 unfold gX;rcases fB h.pos hb with ⟨h1,-,h3⟩|⟨h1,-,h3⟩
 ·rw [if_pos h1];omega
 ·rw [if_neg h1];omega
theorem C8{S b c:Nat}(h0:0<S)(hb:b<2*S)(hc:c<2*S)(hne:gX S b≠gX S c):((ol S b:Int)==(ol S c:Int)&&((b%S:Nat):Int)==((c%S:Nat):Int))=false:=by
 unfold gX at hne;unfold ol;simp only [Bool.and_eq_false_iff,beq_eq_false_iff_ne,ne_eq];rcases fB h0 hb with ⟨h1,h2,h3⟩|⟨h1,h2,h3⟩<;>rcases fB h0 hc with ⟨k1,k2,k3⟩|⟨k1,k2,k3⟩<;>simp only [h1,h2,h3,k1,k2,k3,if_true,if_false] at hne ⊢ <;>(by_cases z1:b-S=0<;>by_cases z2:c-S=0<;>by_cases z3:b=0<;>by_cases z4:c=0<;>simp [z1,z2,z3,z4] at hne ⊢ <;>omega)
theorem ww{S b:Nat}(h0:0<S)(hb:b<2*S):((ol S b:Int)==(1:Int))=decide (S<b):=by
 unfold ol;rcases fB h0 hb with ⟨h1,h2,h3⟩|⟨h1,h2,h3⟩
 ·rw [h2,ite_self,decide_eq_false (by omega)];rfl
 ·rw [h2,h3];by_cases h4:b-S=0
  ·rw [if_pos h4,decide_eq_false (by omega)];rfl
  ·rw [if_neg h4,decide_eq_true (by omega)];rfl
theorem wV{E F S I b:Nat}(h:Fm E F S I)(hb:b<2*S)(hn:b%S≤I)(he:b≠I):bf 14 #[.agg #[.int .i64 E,.int .i64 F],.int .u64 (b:Int)] (.tuple #[.int .u64 (nX S b:Int),.int .i64 0]):=by
 intro W;obtain ⟨c,hc,HC⟩:=jk h hb hn;have hlt:=h.lt;have h63:=h.i63;have hI2:iT S I false<2*S:=by simp only [iT,Bool.false_eq_true,if_false];omega
 have hpI:gX S (iT S I false)=(I:Int):=by simp only [iT,Bool.false_eq_true,if_false,gX];rw [if_pos hlt]
 have hbd:=zJ h hb hn;refine wN E F b _ _ (fun W=>yE E F b (eY h hb) c hc HC _ (qV h false) _ _ (fI h hb) _ _ (fI h hI2) (C8 h.pos hb hI2 ?_) (gX S b) (nX S b:Int) (by omega) (by omega) _ rfl (mI h hb) ?_ W) W
 ·rw [hpI];unfold gX;rcases fB h.pos hb with ⟨h1,h2,h3⟩|⟨h1,h2,h3⟩
  ·rw [if_pos h1];omega
  ·rw [if_neg h1];have:=h.six;omega
 ·intro W;rw [ww h.pos hb];unfold gX nX;rcases fB h.pos hb with ⟨h1,h2,h3⟩|⟨h1,h2,h3⟩
  ·rw [if_pos h1,if_pos h1];exact Bd E F (b+1) (by omega) _ (fun e=>by omega) W
  ·rw [if_neg h1,if_neg h1];by_cases h0:b=S
   ·rw [if_pos h0,show ((S:Int)-(b:Int)+1)=((1:Nat):Int) from by omega];exact Bd E F 1 (by decide) _ (fun e=>by omega) W
   ·rw [if_neg h0,show ((S:Int)-(b:Int)+1) = -((b-S-1:Nat):Int) from by omega];exact CQ E F S (b-S-1) (b-1) _ h.fo (hide h.hS) (by omega) (fun _=>decide_eq_true (by omega)) (by omega) W
theorem rC{E F S I b:Nat}(h:Fm E F S I)(hb:b<2*S)(hn:b%S≤I)(he:b≠S+I):bf 59 #[.agg #[.int .i64 E,.int .i64 F],.int .u64 (b:Int)] (.tuple #[.int .u64 (oW S b:Int),.int .i64 0]):=by
 intro W;obtain ⟨c,hc,HC⟩:=jk h hb hn;have hlt:=h.lt;have h63:=h.i63;have hI2:iT S I true<2*S:=by simp only [iT,if_true];omega
 have hpI:gX S (iT S I true) = -(I:Int):=by simp only [iT,if_true,gX];rw [if_neg (by omega)];omega
 have hbd:=zJ h hb hn;refine pg E F b _ _ (fun W=>uK E F b (eY h hb) c hc HC _ (qV h true) _ _ (fI h hb) _ _ (fI h hI2) (C8 h.pos hb hI2 ?_) (gX S b) (oW S b:Int) (by omega) (by omega) _ rfl (mI h hb) ?_ W) W
 ·rw [hpI];unfold gX;rcases fB h.pos hb with ⟨h1,h2,h3⟩|⟨h1,h2,h3⟩
  ·rw [if_pos h1];have:=h.six;omega
  ·rw [if_neg h1];omega
 ·intro W;rw [ww h.pos hb];unfold gX oW;rcases fB h.pos hb with ⟨h1,h2,h3⟩|⟨h1,h2,h3⟩
  ·rw [if_pos h1,if_pos h1];by_cases h0:b=0
   ·subst h0;rw [if_pos rfl,show (((0:Nat):Int)-1) = -((1:Nat):Int) from rfl];exact CQ E F S 1 (S+1) _ h.fo (hide h.hS) (by decide) (fun e=>by omega) rfl W
   ·rw [if_neg h0,show ((b:Int)-1)=((b-1:Nat):Int) from by omega];exact Bd E F (b-1) (by omega) _ (fun _=>decide_eq_false (by omega)) W
  ·rw [if_neg h1,if_neg h1,if_neg (show ¬b=0 by have:=h.pos;omega),show ((S:Int)-(b:Int)-1) = -((b-S+1:Nat):Int) from by omega];exact CQ E F S (b-S+1) (b+1) _ h.fo (hide h.hS) (by omega) (fun e=>by omega) (by omega) W
theorem Ih{E F S I:Nat}(h:Fm E F S I):bf 14 #[.agg #[.int .i64 E,.int .i64 F],.int .u64 (I:Int)] (.tuple #[.int .u64 0,.int .i64 60]):=by
 have hlt:=h.lt;have hb:I<2*S:=by omega
 have hn:I%S≤I:=Nat.mod_le _ _;obtain ⟨c,hc,HC⟩:=jk h hb hn;have hi:=qV h false;rw [show iT S I false=I from rfl] at hi;exact fun W=>wN E F I _ _ (fun W=>om E F I false (eY h hb) c hc HC _ hi _ _ (fI h hb) (fI h hb) W) W
theorem Ip{E F S I:Nat}(h:Fm E F S I):bf 59 #[.agg #[.int .i64 E,.int .i64 F],.int .u64 ((S+I:Nat):Int)] (.tuple #[.int .u64 0,.int .i64 60]):=by
 have hlt:=h.lt;have hb:S+I<2*S:=by omega
 have hn:(S+I)%S≤I:=by rw [Nat.add_mod_left];exact Nat.mod_le _ _
 obtain ⟨c,hc,HC⟩:=jk h hb hn;have hi:=qV h true;rw [show iT S I true=S+I from rfl] at hi;exact fun W=>pg E F _ _ _ (fun W=>om E F _ true (eY h hb) c hc HC _ hi _ _ (fI h hb) (fI h hb) W) W
theorem Jt{E F S I b:Nat}(h:Fm E F S I)(hb:b<2*S)(hn:¬b%S≤I):bf 14 #[.agg #[.int .i64 E,.int .i64 F],.int .u64 (b:Int)] (.tuple #[.int .u64 0,.int .i64 2]):=
 fun W=>wN E F b _ _ (fun W=>oM E F b false (eY h hb) (wm h hb hn) W) W
theorem Iu{E F S I b:Nat}(h:Fm E F S I)(hb:b<2*S)(hn:¬b%S≤I):bf 59 #[.agg #[.int .i64 E,.int .i64 F],.int .u64 (b:Int)] (.tuple #[.int .u64 0,.int .i64 2]):=
 fun W=>pg E F b _ _ (fun W=>oM E F b true (eY h hb) (wm h hb hn) W) W
structure Fq(w:World)(s:Bool)(a:Option Addr)(n:Nat)(a':Option Addr)(n':Nat)(x:Rat):Prop where
 neg:s=decide (x.num<0)
 num:Num w a n x.num.natAbs
 den:Num w a' n' x.den
theorem Fq.q{w:World}{s:Bool}{a a':Option Addr}{n n':Nat}{x:Rat}(h:Fq w s a n a' n' x):Rm.Q x s x.num.natAbs x.den:=by rw [h.neg];exact Rm.Q.self x
theorem Fq.kept{w w':World}{s:Bool}{a a':Option Addr}{n n':Nat}{x:Rat}(h:Fq w s a n a' n' x)(hb:Below w.heap.size w w'):Fq w' s a n a' n' x:=⟨h.neg,h.num.kept hb,h.den.kept hb⟩
theorem Fq.alloc{w:World}{s:Bool}{a a':Option Addr}{n n':Nat}{x:Rat}(h:Fq w s a n a' n' x)(o:Obj):Fq (w.alloc o) s a n a' n' x:=h.kept (ah _ _)
theorem Av(b off b' off' cap cap' n:Nat)(xs ys:List Nat)(w:World)(hxn:Hid (xs.length=n))(hyn:Hid (ys.length=n))(hlt:b<w.heap.size)(hlt':b'<w.heap.size)(hbig:n≤16384)(hc:∀j,j<n→w.cell? ⟨b,off+j,none⟩=some (.int .u32 ((xs[j]?.getD 0:Nat):Int)))(hc':∀j,j<n→w.cell? ⟨b',off'+j,none⟩=some (.int .u32 ((ys[j]?.getD 0:Nat):Int))) :
  Calls Tryz.prog 81 #[.slice (some ⟨b,off,none⟩) n cap,.slice (some ⟨b',off',none⟩) n cap'] w
   fun e w'=>e = .returned (.bool (decide (xs=ys)))∧Below w.heap.size w w':=by
 go_enter Tryz.func81,Tryz.ntmps81
 go_wp2
 go_loopw [13] (fun t wr=>∃k:Nat,k≤n∧t = .int .i64 (k:Int)∧xs.take k=ys.take k∧Below w.heap.size w wr) (fun t _=>n-(intOf t).toNat)
 case atStart=>exact ⟨0,Nat.zero_le _,rfl,by simp,dJ _⟩
 case round=>
  obtain ⟨k,hk,rfl,hd,hBw⟩:=hrel;by_cases hkn:k=n
  ·subst hkn;have hxl:=aa hxn;have hyl:=aa hyn;have he:xs=ys:=by
    rw [List.take_of_length_le (by omega),List.take_of_length_le (by omega)] at hd;exact hd
   have HE:=hide he;have HBw:=hide hBw;clear hd he hBw hc hc' hxl hyl;go_wp2
   go_ret
   exact ⟨dP (by simp [aa HE]),aa HBw⟩
  ·obtain ⟨x,hxx⟩:∃x,x=xs[k]?.getD 0:=⟨_,rfl⟩;obtain ⟨y,hyy⟩:∃y,y=ys[k]?.getD 0:=⟨_,rfl⟩;have hcx:wr.cell? ⟨b,off+k,none⟩=some (.int .u32 (x:Int)):=by rw [hxx];exact (hBw.cell (by exact hlt)).trans (hc k (by omega))
   have hcy:wr.cell? ⟨b',off'+k,none⟩=some (.int .u32 (y:Int)):=by rw [hyy];exact (hBw.cell (by exact hlt')).trans (hc' k (by omega))
   have hxl:=aa hxn;have hyl:=aa hyn;have hj2:(k:Int)<(n:Int):=by omega
   have HL:Hid (x=y→xs.take (k+1)=ys.take (k+1)):=fun e=>by
    rw [List.take_add_one,List.take_add_one,hd]
    congr 1
    rw [List.getElem?_eq_getElem (by omega:k<xs.length)] at hxx ⊢;rw [List.getElem?_eq_getElem (by omega:k<ys.length)] at hyy ⊢;simp at hxx hyy;simp [←hxx,←hyy,e]
   have HN:Hid (x≠y→xs≠ys):=fun e e2=>e (by rw [hxx,hyy,e2]);have HBw:=hide hBw;clear hxx hyy hd hxl hyl hc hc' hBw;go_wp2_with fail
   go_quiet (fail)
   by_cases he:x=y
   ·subst he;go_wp2
    go_roundw
    case rel=>exact ⟨k+1,by omega,by go_num,aa HL rfl,below_drewN (aa HBw) _⟩
    case measure=>simp [intOf];omega
   ·have hf:((x:Int) != (y:Int))=true:=by simp;omega
    have HE:=hide he;clear he;go_wp2
    go_ret
    exact ⟨dP (by simp [aa HN (aa HE)]),below_drewN (aa HBw) _⟩
theorem vw(a a':Option Addr)(n cap cap' m m':Nat)(w:World)(h:Num w a n m)(h':Num w a' n m') :
  Calls Tryz.prog 81 #[.slice a n cap,.slice a' n cap'] w fun e w'=>e = .returned (.bool (decide (m=m')))∧Below w.heap.size w w':=by
 obtain ⟨xs,hn,hl,hw,hN,hv,hb⟩:=h;obtain ⟨ys,hn',hl',hw',hN',hv',hb'⟩:=h';have hdec:decide (m=m')=decide (xs=ys):=by
  rw [decide_eq_decide];exact ⟨fun e=>Pl.val_inj hw hw' hN hN' (by omega),fun e=>by rw [←hv,←hv',e]⟩
 rw [hdec];rcases hl.parts with hx|⟨hp,b,off,rfl,hlt,hc⟩
 ·have hn0:n=0:=by rw [←hn,hx];rfl
  have hy:ys = []:=List.length_eq_zero_iff.1 (by omega);subst hx hy hn0;clear hn hn' hv hv' hdec;go_enter Tryz.func81,Tryz.ntmps81
  go_wp2
  refine wp_loop_rounds 1 ?_;rw [rounds_succ];go_wp2
  go_ret
  exact ⟨rfl,dJ _⟩
 ·rcases hl'.parts with hy|⟨hp',b',off',rfl,hlt',hc'⟩
  ·rw [hy] at hn';simp at hn';omega
  ·exact Av b off b' off' cap cap' n xs ys w (hide hn) (hide hn') hlt hlt' hb (fun j hj=>hc j (by omega)) (fun j hj=>hc' j (by omega))
theorem uG:Tryz.prog.underlying 131=some (.struct (Tryz.prog.fieldsOf 131)):=by kernel_rfl
theorem kR(s t:Bool)(n1 n2 n3 n4:Nat)(W:World) :
  (Op.equalIn 10000 131 (.agg #[.bool s,.int .i64 (n1:Int),.int .i64 (n2:Int)]) (.agg #[.bool t,.int .i64 (n3:Int),.int .i64 (n4:Int)])).run Tryz.prog W = .ok (s==t&&decide (n1=n3)&&decide (n2=n4)) W:=by
 have hs:Tryz.prog.stoodInHeld 131=false:=by kernel_rfl
 rw [show (10000:Nat)=9999+1 from rfl,run_equalIn_struct W 9999 _ _ _ uG hs];by_cases h1:s=t
 ·by_cases h2:n1=n3
  ·by_cases h3:n2=n4
   ·simp [go_sem,Op.eqFields,h1,h2,h3]
   ·simp [go_sem,Op.eqFields,h1,h2,h3];omega
  ·simp [go_sem,Op.eqFields,h1,h2];intro hh;omega
 ·simp [go_sem,Op.eqFields,h1]
theorem dC(s:Bool)(a:Option Addr)(n cap:Nat)(a':Option Addr)(n' cap':Nat)(w:World)  :
  Calls Tryz.prog 80 #[.agg #[.bool s,.slice a n cap,.slice a' n' cap']] w fun e w'=>e = .returned (.agg #[.bool s,.int .i64 (n:Int),.int .i64 (n':Int)])∧Below w.heap.size w w':=by
 go_enter Tryz.func80,Tryz.ntmps80
 go_wp2
 exact bodyPost_ret (v:=.agg #[.bool s,.int .i64 (n:Int),.int .i64 (n':Int)]) (by simp [results,Tryz.results80,go_sem]) rfl ⟨rfl,(Fs.two w _ _ _ _).fr⟩
end Go.Proofs.YtaidedkpfnidpaaGreatDoor
