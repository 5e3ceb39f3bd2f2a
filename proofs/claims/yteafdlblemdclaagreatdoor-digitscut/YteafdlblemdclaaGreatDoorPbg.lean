/- Of what DigitsCutRow stands on: RzTog Rc8Rat DxNum. -/
import Derived.Test.YteafdlblemdclaaGreatDoorPav
import Derived.Test.YteafdlblemdclaaGreatDoorPad
import Derived.Test.YteafdlblemdclaaGreatDoorPau
import Derived.Test.YteafdlblemdclaaGreatDoorPar
import Derived.Test.YteafdlblemdclaaGreatDoorPas
import Derived.Test.YteafdlblemdclaaGreatDoorPai
import Derived.Test.YteafdlblemdclaaGreatDoorPao
import Derived.Test.YteafdlblemdclaaGreatDoorPbd
import Derived.Test.YteafdlblemdclaaGreatDoorPab
import Derived.BigQuiet
import Derived.Laws.StructEq
import Derived.Test.YteafdlblemdclaaGreatDoorPay
import Derived.Test.YteafdlblemdclaaGreatDoorPaz
import Derived.Test.YteafdlblemdclaaGreatDoorPaw
import Derived.Test.YteafdlblemdclaaGreatDoorPaf
import Derived.Test.YteafdlblemdclaaGreatDoorPam
import Derived.Test.YteafdlblemdclaaGreatDoorPah
import Derived.Test.YteafdlblemdclaaGreatDoorPaj
import Derived.Test.YteafdlblemdclaaGreatDoorPal
import Derived.Test.YteafdlblemdclaaGreatDoorProg
import Derived.WalkKit
import Derived.WalkSpells
import Derived.WalkLawsBesides
import Derived.Test.YteafdlblemdclaaGreatDoorPac
import Derived.Test.YteafdlblemdclaaGreatDoorPak
import Derived.Test.YteafdlblemdclaaGreatDoorPae
import Derived.Deep.LoopGhost
import Derived.Test.YteafdlblemdclaaGreatDoorPat
namespace Go.Proofs.YteafdlblemdclaaGreatDoor
open Go.RowKit
def c5 (B m1 m2 m3 m4 m5:Nat) (b:Bool):Cf:=⟨fun q=>.agg #[.slice q.A q.N q.C,.slice q.A' q.N' q.C',.slice q.A2 q.N2 q.C2,.slice q.A3 q.N3 q.C3,.slice q.A4 q.N4 q.C4,.bool b],fun q W=>Mine W B q.A q.N q.C m1∧Mine W B q.A' q.N' q.C' m2∧Mine W B q.A2 q.N2 q.C2 m3∧Mine W B q.A3 q.N3 q.C3 m4∧Mine W B q.A4 q.N4 q.C4 m5,fun _=>sta_and (sta_mine _ _ _ _ _) (sta_and (sta_mine _ _ _ _ _) (sta_and (sta_mine _ _ _ _ _) (sta_and (sta_mine _ _ _ _ _) (sta_mine _ _ _ _ _))))⟩
def ordR (x y:Rat):Int:=if x = y then 0 else if x < y then -1 else 1
theorem ordR_eq {x y:Rat} (h:x = y):ordR x y = 0:=by unfold ordR; rw [if_pos h]
def ptn (e:Int):Rat:=mkRat ((10 ^ e.toNat:Nat):Int) (10 ^ (-e).toNat)
theorem ten_ne (n:Nat):(10:Nat) ^ n≠0:=Nat.ne_of_gt (Nat.pow_pos (by decide))
theorem ptn_mul (x y:Int):ptn (x+y) = ptn x * ptn y:=by
 unfold ptn
 rw [Rat.mkRat_mul_mkRat,Rat.mkRat_eq_iff (ten_ne _) (Nat.mul_ne_zero (ten_ne _) (ten_ne _))]
 have e:10 ^ (x+y).toNat * (10 ^ (-x).toNat * 10 ^ (-y).toNat) = 10 ^ x.toNat * 10 ^ y.toNat * 10 ^ (-(x+y)).toNat:=by
  rw [← Nat.pow_add,← Nat.pow_add,← Nat.pow_add,← Nat.pow_add]
  congr 1; omega
 exact_mod_cast e
theorem ptn_pos (e:Int):0 < ptn e:=by
 unfold ptn
 rw [Rat.mkRat_eq_div,Rat.div_def]
 refine Rat.mul_pos ?_ ?_
 ·have:(0:Nat) < 10 ^ e.toNat:=Nat.pow_pos (by decide)
  exact_mod_cast this
 ·rw [Rat.inv_pos]
  have:(0:Nat) < 10 ^ (-e).toNat:=Nat.pow_pos (by decide)
  exact_mod_cast this
theorem ptn_nat (o:Nat):ptn (o:Int) = ((10 ^ o:Nat):Rat):=by
 unfold ptn
 rw [Int.toNat_natCast,show (-(o:Int)).toNat = 0 by omega,Nat.pow_zero,Rat.mkRat_eq_div]
 have h1:(1:Rat)⁻¹ = 1:=by have:=Rat.mul_inv_cancel (1:Rat) (by decide); rwa [Rat.one_mul] at this
 simp [Rat.div_def,h1]
def dq (g:Bool) (M:Nat) (x:Int):Rat:=((Rm.sgn g M:Int):Rat) * ptn x
theorem dq_up (g:Bool) (M:Nat) (x:Int) (o:Nat):dq g M (x+(o:Int)) = dq g (M * 10 ^ o) x:=by
 unfold dq
 rw [ptn_mul,ptn_nat,Rm.sgn_scale,Rat.intCast_mul,Rat.mul_assoc,Rat.mul_comm (ptn x),← Rat.mul_assoc]
 simp [Rat.mul_assoc]
theorem dq_zero (g:Bool) (x:Int):dq g 0 x = 0:=by
 unfold dq; rw [Rm.sgn_zero]; simp
theorem dvl_sgn (g:Bool) (A:Nat):dvl g A = Rm.sgn g A:=rfl
theorem dq_ord (g g2:Bool) (A B:Nat) (e:Int):ordR (dq g A e) (dq g2 B e) = cmpZ (dvl g A) (dvl g2 B):=by
 have h:dq g A e < dq g2 B e↔dvl g A < dvl g2 B:=by
  unfold dq
  rw [Rat.mul_lt_mul_right (ptn_pos e),Rat.intCast_lt_intCast]; exact Iff.rfl
 have h2:dq g A e = dq g2 B e↔dvl g A = dvl g2 B:=by
  constructor
  ·intro k
   have k1:¬ dvl g A < dvl g2 B:=fun q=>by have:=h.2 q; rw [k] at this; exact Rat.lt_irrefl this
   have k2:¬ dvl g2 B < dvl g A:=fun q=>by
    have:dq g2 B e < dq g A e:=by
     unfold dq
     rw [Rat.mul_lt_mul_right (ptn_pos e),Rat.intCast_lt_intCast]; exact q
    rw [k] at this; exact Rat.lt_irrefl this
   omega
  ·intro k
   unfold dq
   rw [dvl_sgn,dvl_sgn] at k
   rw [k]
 unfold ordR cmpZ
 by_cases k:dq g A e = dq g2 B e
 ·rw [if_pos k,h2.1 k,if_neg (by omega),if_neg (by omega)]
 ·rw [if_neg k]
  have k':¬ dvl g A = dvl g2 B:=fun q=>k (h2.2 q)
  by_cases q:dq g A e < dq g2 B e
  ·rw [if_pos q,if_pos (h.1 q)]
  ·have q':¬ dvl g A < dvl g2 B:=fun r=>q (h.2 r)
   rw [if_neg q,if_neg q',if_pos (by omega)]
theorem dq_mk (g:Bool) (M:Nat) (x:Int):dq g M x = mkRat (Rm.sgn g (M * 10 ^ x.toNat)) (10 ^ (-x).toNat):=by
 unfold dq ptn
 rw [Rat.mkRat_eq_div,Rat.mkRat_eq_div,Rm.sgn_scale,Rat.intCast_mul,Rat.div_def,Rat.div_def,Rat.mul_assoc]
theorem dx_empty {s:ByteArray} (h:s.size = 0):valS s = 0:=by
 have:digs s = []:=by
  have hl:(digs s).length = s.size:=by simp [digs]
  exact List.eq_nil_of_length_eq_zero (by omega)
 unfold valS
 rw [this]
 rfl
theorem dx_low {s:ByteArray} {x:Int} (h:DcOk s x) (h0:s.size≠0):10 ^ (s.size - 1)≤valS s∧valS s % 10≠0:=by
 have hl:(digs s).length = s.size:=by simp [digs]
 have hat:=h.ok.digS.2.2
 constructor
 ·have h0':0 < s.size:=by omega
  have hdl:=hat 0 h0'
  have hne:=h.fst h0'
  unfold valS
  match hds:digs s with
  | []=>rw [hds] at hl; simp at hl; omega
  | d :: r=>
   rw [hds] at hdl hl
   have hd0:d≠0:=fun e=>hne (by simpa [e] using hdl)
   have:=Pl.lead_low (d:=d) (ds:=r) hd0
   rw [show s.size - 1 = r.length by simp at hl; omega]
   exact this
 ·obtain ⟨k,hk⟩:∃ k,k+1 = s.size:=⟨s.size - 1,by omega⟩
  have e:=dval_snoc (digs s) k (by omega)
  rw [List.take_of_length_le (by omega)] at e
  have h1:=hat k (by omega)
  have h2:=h.lst k hk
  have h3:=h.ok.digS.2.1 ((digs s)[k]'(by omega)) (List.getElem_mem _)
  rw [List.getElem?_eq_getElem (by omega),Option.getD_some] at e h1
  unfold valS
  omega
theorem dx_ten (n:Nat):10 ^ n≤2 ^ (4 * n):=by
 rw [Nat.pow_mul]; exact Nat.pow_le_pow_left (by decide) n
theorem dx_made (g:Bool) (N:Nat) {x:Int} {n:Nat} (hN:N < 10 ^ n) (hn:n≤65000) (h0:-100000≤x) (h1:x≤100000):∃ (s3:ByteArray) (x3:Int),MkA g N x (.tuple #[.agg #[.bool g,.string s3,.int .i64 x3],.int .i64 0])∧DcOk s3 x3∧dq g (valS s3) x3 = dq g N x∧s3.size≤n∧x3.natAbs≤x.natAbs+n:=by
 have hT:N < tenTop 65536:=Nat.lt_of_lt_of_le hN (le_top (by omega))
 by_cases hz:N = 0
 ·have hE:MkA g N x (.tuple #[.agg #[.bool g,.string ⟨#[]⟩,.int .i64 0],.int .i64 0]):=Or.inl ⟨hz,rfl⟩
  refine ⟨⟨#[]⟩,0,hE,(mkA_num hE hT).2.1,?_,Nat.zero_le _,by omega⟩
  rw [dx_empty rfl,hz,dq_zero,dq_zero]
 ·obtain ⟨g4,s4,x4,e4,hE⟩:=mkA_ex g N x
  obtain ⟨s3,z,hV,hok,hval⟩:=mkA_near hE hz hT (by omega) (by omega)
  rw [hV] at hE
  have hne:s3.size≠0:=fun e=>hz (by rw [← hval,dx_empty e,Nat.zero_mul])
  obtain ⟨a,_⟩:=dx_low hok hne
  have b:10 ^ (s3.size - 1) * 10 ^ z < 10 ^ n:=Nat.lt_of_le_of_lt (by rw [← hval]; exact Nat.mul_le_mul_right _ a) hN
  rw [← Nat.pow_add] at b
  have:=(Nat.pow_lt_pow_iff_right (by decide)).1 b
  refine ⟨s3,_,hE,hok,?_,by omega,by omega⟩
  rw [dq_up,hval]
end Go.Proofs.YteafdlblemdclaaGreatDoor
