/- Of what NearRoundsRow stands on: ExSum NrSum RcSum. -/
import Derived.Test.YtaidedkpfnidpaaGreatDoorPax
import Derived.Test.YtaidedkpfnidpaaGreatDoorPay
namespace Go.Proofs.YtaidedkpfnidpaaGreatDoor
open Go.RowKit
def jS(s:Bool)(m:Nat)(x:Int):Prop:=(m=0∧s=false∧x=0)∨(m%2=1∧-1073741824≤x∧x≤1073741824)
theorem mr(s:Bool):sv s 0=0:=by unfold sv;cases s<;>rfl
theorem gq(w:World)(base:Nat):Mine w base none 0 0 0:=⟨[],rfl,Or.inl ⟨rfl,rfl⟩,Pl.wf_nil,Pl.norm_nil,rfl,by omega⟩
def iE(s:Bool)(m:Nat)(x:Int)(s':Bool)(m':Nat)(x':Int)(er:Int)(r:Bool)(v:Nat)(y:Int):Prop:=
 ∀(W:World)(A:Option Addr)(N C:Nat)(A':Option Addr)(N' C':Nat),Num W A N m→Num W A' N' m'→Tb W →
  Calls Tryz.prog 134 #[.agg #[.bool s,.slice A N C,.int .i64 x],.agg #[.bool s',.slice A' N' C',.int .i64 x']] W fun e w'=>(∃A N C,e = .returned (.tuple #[.agg #[.bool r,.slice A N C,.int .i64 y],.int .i64 er])∧Mine w' W.heap.size A N C v)∧Below W.heap.size W w'
theorem iE.many{s:Bool}{m:Nat}{x:Int}{s':Bool}{m':Nat}{x':Int}(h:∀(W:World) (A:Option Addr) (N C:Nat) (A':Option Addr) (N' C':Nat),Num W A N m→Num W A' N' m'→Tb W →
  Calls Tryz.prog 134 #[.agg #[.bool s,.slice A N C,.int .i64 x],.agg #[.bool s',.slice A' N' C',.int .i64 x']] W fun e w'=>e = .returned (.tuple #[.agg #[.bool false,.slice none 0 0,.int .i64 0],.int .i64 4])∧Below W.heap.size W w'):iE s m x s' m' x' 4 false 0 0:=fun W A N C A' N' C' g g' hT=>by
 refine (h W A N C A' N' C' g g' hT).mono ?_;rintro e w' ⟨rfl,hb⟩;exact ⟨⟨none,0,0,rfl,gq _ _⟩,hb⟩
theorem iE.of{s:Bool}{m:Nat}{x:Int}{s':Bool}{m':Nat}{x' t:Int}{i j v:Nat}{r:Bool}(hm:m%2=1∧-1073741824≤x∧x≤1073741824)(hm':m'%2=1∧-1073741824≤x'∧x'≤1073741824)(ht:min x x'=t)(hi:x-t=(i:Int))(hj:x'-t=(j:Int))(hno:¬Over (m*2^i))(hno':¬Over (m'*2^j))(hS:∀(W:World) (A:Option Addr) (N C:Nat) (A':Option Addr) (N' C':Nat),Num W A N (m*2^i)→Num W A' N' (m'*2^j)→Calls Tryz.prog 162 #[.bool s,.agg #[.slice A N C],.bool s',.agg #[.slice A' N' C']] W fun e w'=>(∃A N C,e = .returned (.tuple #[.bool r,.agg #[.slice A N C],.int .i64 0])∧Mine w' W.heap.size A N C v)∧Below W.heap.size W w')(hv:v<4294967296^Pl.top) :
  (v=0∧iE s m x s' m' x' 0 false 0 0)∨∃z,0<v∧Tz v z∧z<524288∧((-1073741824≤t+z∧t+z≤1073741824∧iE s m x s' m' x' 0 r (v/2^z) (t+(z:Int)))∨((1073741824<t+z∨t+z < -1073741824)∧iE s m x s' m' x' 4 false 0 0)):=by
 have hp:∀{W:World}{A:Option Addr}{N:Nat},Num W A N m→0<N:=fun g=>by have:=g.zero;omega
 have hp':∀{W:World}{A:Option Addr}{N:Nat},Num W A N m'→0<N:=fun g=>by have:=g.zero;omega
 rcases Nat.eq_zero_or_pos v with h0|h0
 ·subst h0;refine Or.inl ⟨rfl,fun W A N C A' N' C' g g' _=>?_⟩;refine (Bi s A N C m x s' A' N' C' m' x' t i j r W ⟨g,Or.inr hm⟩ ⟨g',Or.inr hm'⟩ (hp g) (hp' g') ht hi hj (by omega) (by omega) hno hno' (hide hS)).mono ?_;rintro e w' ⟨rfl,hb⟩;exact ⟨⟨none,0,0,rfl,gq _ _⟩,hb⟩
 ·have h2:4294967296^Pl.top=2^(32*Pl.top):=by rw [Nat.pow_mul]
  rw [h2] at hv;obtain ⟨z,hz,hz2⟩:=oF h0 hv;have hz3:z<524288:=by have:=Pl.top_eq;omega
  refine Or.inr ⟨z,h0,hz,hz3,?_⟩;by_cases hx:-1073741824≤t+z∧t+z≤1073741824
  ·refine Or.inl ⟨hx.1,hx.2,fun W A N C A' N' C' g g' hT=>?_⟩;refine (vk s A N C m x s' A' N' C' m' x' t i j v z r W ⟨g,Or.inr hm⟩ ⟨g',Or.inr hm'⟩ (hp g) (hp' g') hT ht hi hj (by omega) (by omega) hno hno' h0 hz hz3 hx (hide hS)).mono ?_;rintro e w' ⟨⟨A,N,C,rfl,h1⟩,hb⟩;exact ⟨⟨A,N,C,rfl,h1⟩,hb⟩
  ·refine Or.inr ⟨by omega,iE.many fun W A N C A' N' C' g g' hT=>?_⟩;by_cases hx1:1073741824<t+z
   ·exact Aa s A N C m x s' A' N' C' m' x' t i j v z r W ⟨g,Or.inr hm⟩ ⟨g',Or.inr hm'⟩ (hp g) (hp' g') ht hi hj (by omega) (by omega) hno hno' hT h0 hz hz3 hx1 (hide hS)
   ·exact xP s A N C m x s' A' N' C' m' x' t i j v z r W ⟨g,Or.inr hm⟩ ⟨g',Or.inr hm'⟩ (hp g) (hp' g') ht hi hj (by omega) (by omega) hno hno' hT h0 hz hz3 (by omega) (hide hS)
def ky(s:Bool)(m:Nat)(x:Int)(s':Bool)(m':Nat)(x':Int)(er:Int)(r:Bool)(v:Nat)(y:Int):Prop:=
 ∀(W:World)(A:Option Addr)(N C:Nat)(A':Option Addr)(N' C':Nat),Num W A N m→Num W A' N' m' →
  Calls Tryz.prog 133 #[.agg #[.bool s,.slice A N C,.int .i64 x],.agg #[.bool s',.slice A' N' C',.int .i64 x']] W fun e w'=>(∃A N C,e = .returned (.tuple #[.agg #[.bool r,.slice A N C,.int .i64 y],.int .i64 er])∧Mine w' W.heap.size A N C v)∧Below W.heap.size W w'
theorem ky.plain{s:Bool}{m:Nat}{x:Int}{s':Bool}{m':Nat}{x' er:Int}(h:∀(W:World) (A:Option Addr) (N C:Nat) (A':Option Addr) (N' C':Nat),Num W A N m→Num W A' N' m' →
  Calls Tryz.prog 133 #[.agg #[.bool s,.slice A N C,.int .i64 x],.agg #[.bool s',.slice A' N' C',.int .i64 x']] W fun e w'=>e = .returned (.tuple #[.agg #[.bool false,.slice none 0 0,.int .i64 0],.int .i64 er])∧Below W.heap.size W w'):ky s m x s' m' x' er false 0 0:=fun W A N C A' N' C' g g'=>by
 refine (h W A N C A' N' C' g g').mono ?_;rintro e w' ⟨rfl,hb⟩;exact ⟨⟨none,0,0,rfl,gq _ _⟩,hb⟩
theorem mQ{v d K z:Nat}(h:2^z≤v)(hv:v*2^d<2^K):z+d<K:=by
 have h1:2^(z+d)<2^K:=by
  rw [Nat.pow_add];exact Nat.lt_of_le_of_lt (Nat.mul_le_mul_right _ h) hv
 exact (Nat.pow_lt_pow_iff_right (by decide)).1 h1
theorem Tz.leM{v z:Nat}(h:Tz v z):2^z≤v:=by
 obtain ⟨q,rfl⟩:=h;exact Nat.le_mul_of_pos_right _ (by omega)
theorem jS.oddM{s:Bool}{m:Nat}{x:Int}(h:jS s m x)(h0:0<m):m%2=1∧-1073741824≤x∧x≤1073741824:=by
 rcases h with ⟨h,_⟩|h
 ·omega
 ·exact h
theorem E9{s:Bool}{m:Nat}{x:Int}{s':Bool}{m':Nat}{x':Int}(L:Int)(K:Nat)(hA:jS s m x)(hB:jS s' m' x')(hL:-100000≤L)(hL0:L≤0)(hK:K≤400000)(hx:L≤x)(hx':L≤x')(hk:m*2^(x-L).toNat<2^K)(hk':m'*2^(x'-L).toNat<2^K)(hs:s=s'∨m=0∨m'=0) :
  ∃q v y,iE s m x s' m' x' 0 q v y∧jS q v y∧L≤y∧v*2^(y-L).toNat<2^(K+1)∧sv q (v*2^(y-L).toNat)=sv s (m*2^(x-L).toNat)+sv s' (m'*2^(x'-L).toNat):=by
 have hup:∀{a:Nat},a<2^K→a<2^(K+1):=fun h=>by rw [Nat.pow_succ];omega
 rcases Nat.eq_zero_or_pos m with h0|h0
 ·refine ⟨s',m',x',fun W A N C A' N' C' g g' _=>?_,hB,hx',hup hk',by rw [h0,Nat.zero_mul,mr,Int.zero_add]⟩;obtain rfl:=g.zero.2 h0;exact AZ _ A C _ _ _ A' N' C' _ _ W ⟨g,hA⟩ ⟨g',hB⟩
 rcases Nat.eq_zero_or_pos m' with h1|h1
 ·refine ⟨s,m,x,fun W A N C A' N' C' g g' _=>?_,hA,hx,hup hk,by rw [h1,Nat.zero_mul,mr,Int.add_zero]⟩;obtain rfl:=g'.zero.2 h1;exact yT _ A N C _ _ _ A' C' _ _ W ⟨g,hA⟩ ⟨g',hB⟩ (by have:=g.zero;omega)
 obtain rfl:s=s':=by rcases hs with h|h|h<;>first|exact h|omega
 have a1:=hA.oddM h0;have b1:=hB.oddM h1;obtain ⟨t,ht⟩:∃t,min x x'=t:=⟨_,rfl⟩;obtain ⟨i,hi⟩:∃i:Nat,x-t=(i:Int):=⟨(x-t).toNat,by omega⟩;obtain ⟨j,hj⟩:∃j:Nat,x'-t=(j:Int):=⟨(x'-t).toNat,by omega⟩;obtain ⟨d,hd⟩:∃d:Nat,t-L=(d:Int):=⟨(t-L).toNat,by omega⟩;have e1:(x-L).toNat=i+d:=by omega
 have e2:(x'-L).toNat=j+d:=by omega
 have hd1:1≤2^d:=aL d;have ha:m*2^i<2^K:=by
  rw [e1,Nat.pow_add,←Nat.mul_assoc] at hk;exact Nat.lt_of_le_of_lt (Nat.le_mul_of_pos_right _ hd1) hk
 have hb:m'*2^j<2^K:=by
  rw [e2,Nat.pow_add,←Nat.mul_assoc] at hk';exact Nat.lt_of_le_of_lt (Nat.le_mul_of_pos_right _ hd1) hk'
 have hov:¬Over (m*2^i+m'*2^j):=dE (n:=K+1) (by rw [Nat.pow_succ];omega) (by omega);obtain ⟨v,hv⟩:∃v,v=m*2^i+m'*2^j:=⟨_,rfl⟩;have hv0:0<v:=by have:=Nat.mul_pos h0 (aL i);omega
 have hvd:v*2^d<2^(K+1):=by
  rw [e1,Nat.pow_add,←Nat.mul_assoc] at hk;rw [e2,Nat.pow_add,←Nat.mul_assoc] at hk';rw [hv,Nat.add_mul,Nat.pow_succ];omega
 have hvK:v<2^(K+1):=Nat.lt_of_le_of_lt (Nat.le_mul_of_pos_right _ hd1) hvd;have hvt:v<4294967296^Pl.top:=Nat.lt_of_not_le fun hle=>dE hvK (by omega) ⟨hle⟩;rw [show 4294967296^Pl.top=2^(32*Pl.top) by rw [Nat.pow_mul]] at hvt;obtain ⟨z,hz,hz2⟩:=oF hv0 hvt;have hz3:z<524288:=by have:=Pl.top_eq;omega
 have hzd:=mQ hz.leM hvd;have e3:(t+(z:Int)-L).toNat=z+d:=by omega
 have e4:v/2^z*2^(z+d)=v*2^d:=by rw [Nat.pow_add,←Nat.mul_assoc,hz.down.2]
 have hS9:∀(W:World)(A:Option Addr)(N C:Nat)(A':Option Addr)(N' C':Nat),Num W A N (m*2^i)→Num W A' N' (m'*2^j)→Calls Tryz.prog 162 #[.bool s,.agg #[.slice A N C],.bool s,.agg #[.slice A' N' C']] W fun e w'=>(∃A N C,e = .returned (.tuple #[.bool s,.agg #[.slice A N C],.int .i64 0])∧Mine w' W.heap.size A N C v)∧Below W.heap.size W w':=fun W A N C A' N' C' g g'=>by
  rw [hv];exact xQ s A N C _ A' N' C' _ W g g' hov
 refine ⟨s,v/2^z,t+(z:Int),fun W A N C A' N' C' g g' hT=>?_,Or.inr ⟨hz.down.1,by omega,by omega⟩,by omega,by rw [e3,e4];exact hvd,?_⟩
 ·have hn:=g.zero;have hn':=g'.zero;exact vk s A N C m x s A' N' C' m' x' t i j v z s W ⟨g,hA⟩ ⟨g',hB⟩ (by omega) (by omega) hT ht hi hj (by omega) (by omega) (dE ha (by omega)) (dE hb (by omega)) hv0 hz hz3 (by omega) (hide hS9)
 ·rw [e3,e4,e1,e2,Nat.pow_add,Nat.pow_add,←Nat.mul_assoc,←Nat.mul_assoc,hv,Nat.add_mul];unfold sv;cases s<;>simp<;>omega
theorem BH{s:Bool}{m:Nat}{x:Int}(L:Int)(K:Nat)(hA:jS s m x)(hL:-100000≤L)(hL0:L≤0)(hK:K≤200000)(hx:L≤x)(hk:m*2^(x-L).toNat<2^K) :
  ∃q v y,ky s m x false 1 (-1) 0 q v y∧jS q v y∧L-1≤y∧v*2^(y-(L-1)).toNat<2^K∧sv q (v*2^(y-(L-1)).toNat)=sv s (m*2^(x-L).toNat):=by
 have hB:jS false 1 (-1):=Or.inr ⟨by decide,by decide,by decide⟩;rcases Nat.eq_zero_or_pos m with h0|h0
 ·refine ⟨false,0,0,ky.plain fun W A N C A' N' C' g g'=>?_,Or.inl ⟨rfl,rfl,rfl⟩,by omega,by rw [Nat.zero_mul];exact aL _,by rw [h0,Nat.zero_mul,Nat.zero_mul,mr,mr]⟩;obtain rfl:=g.zero.2 h0;exact Bz s A C m x false A' N' C' 1 (-1) W ⟨g,hA⟩ ⟨g',hB⟩
 have a1:=hA.oddM h0;have hx2:(0:Nat)+(x-L).toNat<K:=mQ (z:=0) (v:=m) (by omega) hk;have hm:m<2^K:=Nat.lt_of_le_of_lt (Nat.le_mul_of_pos_right _ (aL _)) hk;have e:(x+-1-(L-1)).toNat=(x-L).toNat:=by omega
 refine ⟨s,m,x+-1,fun W A N C A' N' C' g g'=>?_,Or.inr ⟨a1.1,by omega,by omega⟩,by omega,by rw [e];exact hk,by rw [e]⟩;have hn:=g.zero;have hn':=g'.zero;have hov:¬Over (m*1):=by rw [Nat.mul_one];exact dE hm (by omega)
 have key:Calls Tryz.prog 133 #[.agg #[.bool s,.slice A N C,.int .i64 x],.agg #[.bool false,.slice A' N' C',.int .i64 (-1)]] W fun e w'=>(∃A N C,e = .returned (.tuple #[.agg #[.bool s,.slice A N C,.int .i64 (x+-1)],.int .i64 0])∧Mine w' W.heap.size A N C (m*1))∧Below W.heap.size W w':=by
  cases s
  ·exact zf A N C m x A' N' C' 1 (-1) W ⟨g,hA⟩ ⟨g',hB⟩ (by omega) (by omega) (by omega) hov
  ·exact Ai A N C m x A' N' C' 1 (-1) W ⟨g,hA⟩ ⟨g',hB⟩ (by omega) (by omega) (by omega) hov
 rw [Nat.mul_one] at key;exact key
end Go.Proofs.YtaidedkpfnidpaaGreatDoor
