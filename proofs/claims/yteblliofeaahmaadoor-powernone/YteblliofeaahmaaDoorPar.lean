/- Of what PowerNoneRow stands on: RefLess RefDbl RefQuoM RefUpDown. -/
import Derived.Test.YteblliofeaahmaaDoorPap
import Derived.Test.YteblliofeaahmaaDoorPaq
import Derived.Test.YteblliofeaahmaaDoorPak
import Derived.Test.YteblliofeaahmaaDoorPal
import Derived.Test.YteblliofeaahmaaDoorPaf
import Derived.BigQuiet
namespace Go.Proofs.YteblliofeaahmaaDoor
open Go.RowKit
theorem val_put:∀ (xs:List Nat) (k y:Nat),k < xs.length→Pl.val (xs.set k (xs[k]?.getD 0+y)) = Pl.val xs+4294967296 ^ k * y
 | [],k,y,h=>by simp at h
 | x :: r,0,y,_=>by
  show x+y+4294967296 * Pl.val r = x+4294967296 * Pl.val r+_
  rw [Nat.pow_zero,Nat.one_mul]; omega
 | x :: r,k+1,y,h=>by
  have ih:=val_put r k y (by simpa using h)
  show x+4294967296 * Pl.val (r.set k (r[k]?.getD 0+y)) = x+4294967296 * Pl.val r+_
  rw [ih,Nat.mul_add,Nat.pow_succ,Nat.mul_comm (4294967296 ^ k) 4294967296,Nat.mul_assoc]; omega
theorem or_bit {q pt:Nat} (hq:q < 4294967296) (hp:pt < 32) (h:q / 2 ^ pt % 2 = 0):Go.bits .or .u32 (q:Int) ((2 ^ pt:Nat):Int) = ((q+2 ^ pt:Nat):Int)∧q+2 ^ pt < 4294967296:=by
 have h1:=Nat.div_add_mod q (2 ^ (pt+1))
 have e1:q / 2 ^ (pt+1) = q / 2 ^ pt / 2:=by rw [Nat.pow_succ,Nat.div_div_eq_div_mul]
 have h2:=Nat.div_add_mod q (2 ^ pt)
 have hlo:q % 2 ^ pt < 2 ^ pt:=Nat.mod_lt _ (Nat.pow_pos (by decide))
 obtain ⟨hi,hhi⟩:∃ hi,hi = q / 2 ^ pt / 2:=⟨_,rfl⟩
 obtain ⟨lo,hlo2⟩:∃ lo,lo = q % 2 ^ pt:=⟨_,rfl⟩
 have e2:q / 2 ^ pt = 2 * hi:=by omega
 rw [e2,← hlo2] at h2
 rw [← hlo2] at hlo
 have e3:2 ^ (pt+1) = 2 ^ pt * 2:=Nat.pow_succ ..
 have e4:q = 2 ^ (pt+1) * hi+lo:=by rw [e3,Nat.mul_assoc]; exact h2.symm
 have e5:q+2 ^ pt = 2 ^ (pt+1) * hi+(2 ^ pt * 1+lo):=by rw [Nat.mul_one]; omega
 have hlt:q+2 ^ pt < 4294967296:=by
  have e6:4294967296 = 2 ^ (pt+1) * 2 ^ (31 - pt):=by rw [← Nat.pow_add,show pt+1+(31 - pt) = 32 by omega]
  have h6:hi < 2 ^ (31 - pt):=by
   have:2 ^ (pt+1) * hi < 2 ^ (pt+1) * 2 ^ (31 - pt):=by rw [← e6]; omega
   exact Nat.lt_of_mul_lt_mul_left this
  have h7:2 ^ (pt+1) * (hi+1)≤2 ^ (pt+1) * 2 ^ (31 - pt):=Nat.mul_le_mul_left _ h6
  rw [← e6,Nat.mul_add] at h7
  omega
 have e7:q ||| 2 ^ pt = q+2 ^ pt:=by
  have a1:=Nat.two_pow_add_eq_or_of_lt (i:=pt+1) (b:=lo) (by omega) hi
  have a2:=Nat.two_pow_add_eq_or_of_lt (i:=pt) (b:=lo) hlo 1
  have a3:=Nat.two_pow_add_eq_or_of_lt (i:=pt+1) (b:=2 ^ pt * 1+lo) (by omega) hi
  rw [e5,a3,a2,e4,a1,Nat.or_assoc,Nat.mul_one,Nat.or_comm lo]
 have hp2:2 ^ pt < 4294967296:=by omega
 refine ⟨?_,hlt⟩
 show IntKind.u32.wrap ((BitVec.ofInt 32 (q:Int) ||| BitVec.ofInt 32 ((2 ^ pt:Nat):Int)).toNat:Int) = _
 rw [BitVec.toNat_or,BitVec.ofInt_natCast,BitVec.ofInt_natCast,BitVec.toNat_ofNat,BitVec.toNat_ofNat,Nat.mod_eq_of_lt (by omega),Nat.mod_eq_of_lt (by omega),e7,IntKind.wrap_u32]
 omega
theorem wf_put {qs:List Nat} {k z:Nat} (hw:Pl.Wf qs) (hz:z < 4294967296):Pl.Wf (qs.set k z):=fun x hx=>by
 rcases List.mem_or_eq_of_mem_set hx with h|h
 ·exact hw x h
 ·omega
theorem put_bit {qs:List Nat} {X i:Nat} (hw:Pl.Wf qs) (hi:i / 32 < qs.length) (hv:Pl.val qs = 2 * X * 2 ^ i) :
  Go.bits .or .u32 ((qs[i / 32]?.getD 0:Nat):Int) ((2 ^ (i % 32):Nat):Int) = ((qs[i / 32]?.getD 0+2 ^ (i % 32):Nat):Int)∧Pl.Wf (qs.set (i / 32) (qs[i / 32]?.getD 0+2 ^ (i % 32)))∧Pl.val (qs.set (i / 32) (qs[i / 32]?.getD 0+2 ^ (i % 32))) = (2 * X+1) * 2 ^ i:=by
 have hb:=bit_row hw i
 rw [hv,Nat.mul_div_cancel _ (Nat.pow_pos (by decide)),Nat.mul_mod_right] at hb
 obtain ⟨h1,h2⟩:=or_bit (Pl.wf_at hw (i / 32)) (by omega) hb.symm
 refine ⟨h1,wf_put hw h2,?_⟩
 rw [val_put _ _ _ hi,hv,Nat.add_mul,Nat.one_mul]
 congr 1
 rw [show (4294967296:Nat) = 2 ^ 32 from rfl,← Nat.pow_mul,← Nat.pow_add]
 congr 1; omega
end Go.Proofs.YteblliofeaahmaaDoor
