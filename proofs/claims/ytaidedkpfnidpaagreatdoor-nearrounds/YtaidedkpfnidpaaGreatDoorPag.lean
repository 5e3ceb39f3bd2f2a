/- Of what NearRoundsRow stands on: BitsNat. -/
import Derived.Test.YtaidedkpfnidpaaGreatDoorPad
import Derived.Test.YtaidedkpfnidpaaGreatDoorPaf
namespace Go.Proofs.YtaidedkpfnidpaaGreatDoor
open Go.RowKit
set_option maxHeartbeats 400000
def Bl(m n:Nat):Prop:=m<2^n∧(n=0∨2^(n-1)≤m)
theorem Bl.uniq{m n k:Nat}(h:Bl m n)(g:Bl m k):n=k:=by
 rcases Nat.lt_trichotomy n k with c|c|c
 ·rcases g.2 with g2|g2
  ·omega
  ·have:=Nat.pow_le_pow_right (show 0<2 by decide) (show n≤k-1 by omega);have:=h.1;omega
 ·exact c
 ·rcases h.2 with h2|h2
  ·omega
  ·have:=Nat.pow_le_pow_right (show 0<2 by decide) (show k≤n-1 by omega);have:=g.1;omega
theorem mf:Bl 0 0:=⟨by decide,Or.inl rfl⟩
theorem nz:Lib.bitLen 0=0:=by decide
theorem iI:∀(f x:Nat),x<2^f→x<2^64→Bl x (Lib.bitLen x)
 | 0,x,h,_=>by
  have:x=0:=by simpa using h
  subst this;rw [nz];exact mf
 | f+1,x,h,g=>by
  by_cases hx:x=0
  ·subst hx;rw [nz];exact mf
  ·rw [Lib.bitLen_half x hx g];have ih:=iI f (x/2) (by rw [Nat.pow_succ] at h;omega) (by omega);obtain ⟨h1,h2⟩:=ih;refine ⟨by rw [Nat.add_comm,Nat.pow_succ];omega,Or.inr ?_⟩;rw [Nat.add_sub_cancel_left];rcases h2 with h2|h2
   ·rw [h2];simp;omega
   ·by_cases hz:Lib.bitLen (x/2)=0
    ·rw [hz];simp;omega
    ·have:2^Lib.bitLen (x/2)=2^(Lib.bitLen (x/2)-1)*2:=by rw [←Nat.pow_succ];congr 1;omega
     omega
theorem oJ(k:Nat):4294967296^k=2^(32*k):=by rw [Nat.pow_mul]
theorem sM{xs:List Nat}(hw:Pl.Wf xs)(hN:Pl.Norm xs)(hp:0<xs.length)(l:Nat)(hl:l=xs[xs.length-1]?.getD 0) :
  Bl (Pl.val xs) (32*(xs.length-1)+Lib.bitLen l)∧1≤Lib.bitLen l∧Lib.bitLen l≤32:=by
 have hl0:=Pl.norm_last hN hp;rw [←hl] at hl0;have hlt:l<4294967296:=by rw [hl];exact Pl.wf_at hw _
 have hb:=iI 64 l (by omega) (by omega);have hle:Lib.bitLen l≤32:=Lib.bitLen_le l 32 (by decide) (by omega);have hge:1≤Lib.bitLen l:=by
  by_cases h:Lib.bitLen l=0
  ·have:=hb.1;rw [h] at this;simp at this;omega
  ·omega
 refine ⟨?_,hge,hle⟩;have e:Pl.val xs=Pl.val (xs.take (xs.length-1))+4294967296^(xs.length-1)*l:=by
  rw [Pl.val_split xs (xs.length-1) (by omega),Pl.drop_cons xs (xs.length-1) (by omega),←hl,List.drop_eq_nil_of_le (by omega)];simp [Pl.val]
 have hlo:=Pl.val_lt (Pl.wf_take hw (xs.length-1));rw [List.length_take,Nat.min_eq_left (by omega)] at hlo;rw [oJ] at e hlo;constructor
 ·rw [Nat.pow_add];have:=Nat.mul_le_mul_left (2^(32*(xs.length-1))) (show l+1≤2^Lib.bitLen l from hb.1);rw [Nat.mul_add,Nat.mul_one] at this;omega
 ·right;have h2:2^(Lib.bitLen l-1)≤l:=hb.2.resolve_left (by omega);rw [show 32*(xs.length-1)+Lib.bitLen l-1=32*(xs.length-1)+(Lib.bitLen l-1) by omega,Nat.pow_add];have:=Nat.mul_le_mul_left (2^(32*(xs.length-1))) h2;omega
theorem oV(u:Nat)(w:World)(h:u<4294967296) :
  Calls Tryz.prog 128 #[.int .u32 (u:Int)] w fun e w'=>e = .returned (.int .i64 (32-(Lib.bitLen u:Int)))∧w=w':=by
 have l:=Lib.bitLen_le u 32 (by decide) (by omega);go_enter Tryz.func128,Tryz.ntmps128
 go_wp2_with fail
 refine (qw (u:Int) _ (by omega) (by omega)).mono ?_;rintro e w1 ⟨rfl,rfl⟩;rw [Int.toNat_natCast];go_wp2
 go_ret
 exact ⟨rfl,rfl⟩
theorem EH(u:Nat)(w:World)(h:u<18446744073709551616) :
  Calls Tryz.prog 151 #[.int .u64 (u:Int)] w fun e w'=>e = .returned (.int .i64 (Lib.bitLen u:Int))∧w=w':=by
 go_enter Tryz.func151,Tryz.ntmps151
 go_wp2_with fail
 refine (qo (u:Int) _ (by omega) (by omega)).mono ?_;rintro e w1 ⟨rfl,rfl⟩;rw [Int.toNat_natCast];go_wp2
 go_ret
 exact ⟨rfl,rfl⟩
theorem fO(a:Option Addr)(n cap m:Nat)(w:World)(h:Num w a n m) :
  Calls Tryz.prog 105 #[.slice a n cap] w fun e w'=>(∃k:Nat,e = .returned (.int .i64 (k:Int))∧Bl m k∧k≤32*n)∧w=w':=by
 obtain ⟨xs,hn,hl,hw,hN,hv,hb⟩:=h;subst hn;rcases hl.parts with hx|⟨hp,b,off,rfl,hlt,hc⟩
 ·subst hx;go_enter Tryz.func105,Tryz.ntmps105
  go_wp2
  go_ret
  exact ⟨⟨0,rfl,by rw [←hv];exact mf,by omega⟩,rfl⟩
 ·obtain ⟨l,hle⟩:∃l,l=xs[xs.length-1]?.getD 0:=⟨_,rfl⟩;have hcell:=hc (xs.length-1) (by omega);rw [←hle] at hcell;have hll:l<4294967296:=by rw [hle];exact Pl.wf_at hw _
  have hB:=sM hw hN hp l hle;have hxl:((xs.length:Int)==0)=false:=by simp;intro h;simp [h] at hp
  obtain ⟨hB1,hB2,hB3⟩:=hB;rw [hv] at hB1;have HB:=hide hB1;clear hB1 hle hc hl hv;go_enter Tryz.func105,Tryz.ntmps105
  go_wp2_with fail
  refine (oV l _ hll).mono ?_;rintro e w1 ⟨rfl,rfl⟩;go_wp2
  go_ret
  refine ⟨⟨_,bX (b:=((32*(xs.length-1)+Lib.bitLen l:Nat):Int)) (by omega),aa HB,by omega⟩,rfl⟩
theorem ru(a:Option Addr)(n cap m:Nat)(w:World)(h:Num w a n m) :
  Calls Tryz.prog 136 #[.agg #[.slice a n cap]] w fun e w'=>(∃k:Nat,e = .returned (.tuple #[.int .i64 (k:Int),.int .i64 0])∧Bl m k∧k≤32*n)∧Below w.heap.size w w':=by
 have hNum:=h;obtain ⟨xs,hn,hl,hw,hN,hv,hb⟩:=h;subst hn;have HN:=hide hNum;clear hNum;have hz:eG xs=0:=bC hb hN;have hzb:(eG xs != 0)=false:=by rw [hz];rfl
 clear hz;go_enter Tryz.func136,Tryz.ntmps136
 go_wp2_with fail
 refine (eX a cap xs _ (by omega) (hl.alloc _)).mono ?_;rintro e w1 ⟨rfl,hb1⟩;obtain ⟨hc1,hf1⟩:=bO hb1;go_wp2_with fail
 have hn1:=((aa HN).kept (ah _ _)).kept hb1;refine (fO a xs.length cap m _ hn1).mono ?_;rintro e w2 ⟨⟨k,rfl,hk1,hk2⟩,rfl⟩;go_wp2
 go_ret2
 exact ⟨⟨k,rfl,hk1,hk2⟩,ai (ah _ _) hb1⟩
end Go.Proofs.YtaidedkpfnidpaaGreatDoor
