/- Of what QuickSureRow stands on: QkSureLaw. -/
import Derived.Test.YtohjmjlfmloiaaaDoorPaz
import Derived.Test.YtohjmjlfmloiaaaDoorPbc
namespace Go.Proofs.YtohjmjlfmloiaaaDoor
open Go.RowKit
theorem xorQ64 (a b:Nat) (ha:a < 18446744073709551616) (hb:b < 18446744073709551616):Go.bits .xor .u64 (a:Int) (b:Int) = ((a ^^^ b:Nat):Int):=by
 show IntKind.u64.wrap ((BitVec.ofInt 64 (a:Int) ^^^ BitVec.ofInt 64 (b:Int)).toNat:Int) = _
 have hx:a ^^^ b < 2 ^ 64:=Nat.xor_lt_two_pow (by omega) (by omega)
 have e:(BitVec.ofInt 64 (a:Int) ^^^ BitVec.ofInt 64 (b:Int)).toNat = a ^^^ b:=by
  rw [BitVec.toNat_xor,BitVec.ofInt_natCast,BitVec.ofInt_natCast,BitVec.toNat_ofNat,BitVec.toNat_ofNat,Nat.mod_eq_of_lt (by omega),Nat.mod_eq_of_lt (by omega)]
 rw [e,IntKind.wrap_u64]
 omega
theorem xorQ32 (a b:Nat) (ha:a < 4294967296) (hb:b < 4294967296):Go.bits .xor .u32 (a:Int) (b:Int) = ((a ^^^ b:Nat):Int):=by
 show IntKind.u32.wrap ((BitVec.ofInt 32 (a:Int) ^^^ BitVec.ofInt 32 (b:Int)).toNat:Int) = _
 have hx:a ^^^ b < 2 ^ 32:=Nat.xor_lt_two_pow (by omega) (by omega)
 have e:(BitVec.ofInt 32 (a:Int) ^^^ BitVec.ofInt 32 (b:Int)).toNat = a ^^^ b:=by
  rw [BitVec.toNat_xor,BitVec.ofInt_natCast,BitVec.ofInt_natCast,BitVec.toNat_ofNat,BitVec.toNat_ofNat,Nat.mod_eq_of_lt (by omega),Nat.mod_eq_of_lt (by omega)]
 rw [e,IntKind.wrap_u32]
 omega
theorem xor_turn (z S:Nat) (g:Bool):(if g then z ^^^ S else z) ^^^ (if (!g) then z ^^^ S else z) = S:=by
 cases g
 ·show z ^^^ (z ^^^ S) = S
  rw [← Nat.xor_assoc,Nat.xor_self,Nat.zero_xor]
 ·show (z ^^^ S) ^^^ z = S
  rw [Nat.xor_comm,← Nat.xor_assoc,Nat.xor_self,Nat.zero_xor]
theorem fl64_lt {n:Nat} {x:Int} {z:Nat} (h:fl64 n x = some z):z < 2 ^ 64:=by
 unfold fl64 at h
 split at h
 ·exact Ieee.Format.div_lt FloatKind.f64.format h
 ·exact Ieee.Format.mul_lt FloatKind.f64.format h
theorem fl32_lt {n:Nat} {x:Int} {z:Nat} (h:fl32 n x = some z):z < 2 ^ 32:=by
 unfold fl32 at h
 split at h
 ·exact Ieee.Format.div_lt FloatKind.f32.format h
 ·exact Ieee.Format.mul_lt FloatKind.f32.format h
theorem turn64 {z:Nat} (h:z < 2 ^ 64) (g:Bool):Go.bits .xor .u64 (((if g then Op.negFloat .f64 z else z):Nat):Int) (((if (!g) then Op.negFloat .f64 z else z):Nat):Int) = 9223372036854775808:=by
 have hn:Op.negFloat .f64 z < 2 ^ 64:=Nat.xor_lt_two_pow h (by decide)
 rw [xorQ64 _ _ (by split <;> omega) (by split <;> omega)]
 exact congrArg (Nat.cast:Nat→Int) (xor_turn z (2 ^ 63) g)
theorem turn32 {z:Nat} (h:z < 2 ^ 32) (g:Bool):Go.bits .xor .u32 (((if g then Op.negFloat .f32 z else z):Nat):Int) (((if (!g) then Op.negFloat .f32 z else z):Nat):Int) = 2147483648:=by
 have hn:Op.negFloat .f32 z < 2 ^ 32:=Nat.xor_lt_two_pow h (by decide)
 rw [xorQ32 _ _ (by split <;> omega) (by split <;> omega)]
 exact congrArg (Nat.cast:Nat→Int) (xor_turn z (2 ^ 31) g)
theorem tmod_in (x:Int) (c:Nat) (hc:0 < c):-(c:Int) < Int.tmod x c∧Int.tmod x c < c:=by
 have:=Int.natAbs_tmod x c
 have:(Int.tmod x c).natAbs < c:=by rw [this,Int.natAbs_natCast]; exact Nat.mod_lt _ hc
 omega
theorem quickSure_any (n:Nat) (xp:Int) (g:Bool) (w:World) (ht:Tpw w) (hn:n < 18446744073709551616) (_:-9223372036854775808≤xp) (_:xp < 9223372036854775808):Calls Tryd.prog 3 #[.int .u64 (n:Int),.int .i64 xp,.bool g] w fun e w'=>e = .returned (.bool true)∧Below w.heap.size w w':=by
 have hm:Int.tmod (n:Int) 9007199254740993 = ((n % 9007199254740993:Nat):Int):=by rw [Int.tmod_eq_emod_of_nonneg (by omega)]; omega
 have hk:Int.tmod (n:Int) 16777217 = ((n % 16777217:Nat):Int):=by rw [Int.tmod_eq_emod_of_nonneg (by omega)]; omega
 obtain ⟨m,em⟩:∃ m,m = n % 9007199254740993:=⟨_,rfl⟩
 obtain ⟨k,ek⟩:∃ k,k = n % 16777217:=⟨_,rfl⟩
 rw [← em] at hm
 rw [← ek] at hk
 obtain ⟨a0,a1⟩:=tmod_in xp 23 (by decide)
 obtain ⟨b0,b1⟩:=tmod_in xp 11 (by decide)
 obtain ⟨a,ha⟩:∃ a,Int.tmod xp 23 = a:=⟨_,rfl⟩
 obtain ⟨b,hb⟩:∃ b,Int.tmod xp 11 = b:=⟨_,rfl⟩
 have ha':Int.tmod xp ((23:Nat):Int) = a:=ha
 have hb':Int.tmod xp ((11:Nat):Int) = b:=hb
 rw [ha'] at a0 a1
 rw [hb'] at b0 b1
 obtain ⟨t1,c1,c2,c3,c4⟩:=fmt_txt m (by omega)
 obtain ⟨t2,d1,d2,d3,d4⟩:=fmt_txt k (by omega)
 obtain ⟨s1,x1,n1,q1,l1,r1,m1⟩:=make_qd g t1 a m (by omega) (by omega) (by omega) c2 c3 (Nat.lt_of_lt_of_le (show m < 9007199254740993 by omega) (by decide))
 obtain ⟨s2,x2,n2,q2,l2,r2,m2⟩:=make_qd g t2 b k (by omega) (by omega) (by omega) d2 d3 (Nat.lt_of_lt_of_le (show k < 16777217 by omega) (by decide))
 have H0:Hid (∀ W:World,Calls Tryd.prog 4 #[] W fun e W'=>e = .returned (.bool true)∧Below W.heap.size W W'):=hide fun W=>qkalive W fun _ _ h=>nomatch h
 by_cases h1:22 < x1
 ·exact qs_far1 w n xp g m k a b t1 t2 s1 s2 x1 x2 ht hm hk ha hb H0 (hide c4) (hide d4) (hide m1) (hide m2) h1
 by_cases h2:10 < x2
 ·exact qs_far2 w n xp g m k a b t1 t2 s1 s2 x1 x2 ht hm hk ha hb H0 (hide c4) (hide d4) (hide m1) (hide m2) (by omega) h2
 obtain ⟨y1,e1⟩:=fl64_has n1 x1 (by omega) (by omega)
 obtain ⟨y2,e2⟩:=fl32_has n2 x2 (by omega) (by omega)
 exact qs_go w n xp g m k a b t1 t2 s1 s2 x1 x2 (if g then Op.negFloat .f64 y1 else y1) (if (!g) then Op.negFloat .f64 y1 else y1) (if g then Op.negFloat .f32 y2 else y2) (if (!g) then Op.negFloat .f32 y2 else y2) ht hm hk ha hb H0 (hide c4) (hide d4) (hide m1) (hide m2) (by omega) (by omega)
  (hide (dbl64 q1 (by omega) (by omega) (by omega) e1 g)) (hide (dbl64 q1 (by omega) (by omega) (by omega) e1 (!g))) (hide (dbl32 q2 (by omega) (by omega) (by omega) e2 g)) (hide (dbl32 q2 (by omega) (by omega) (by omega) e2 (!g))) (hide (fits_in q1 (by omega) (by omega) (by omega) (!g)))
  (turn64 (fl64_lt e1) g) (turn32 (fl32_lt e2) g)
end Go.Proofs.YtohjmjlfmloiaaaDoor
