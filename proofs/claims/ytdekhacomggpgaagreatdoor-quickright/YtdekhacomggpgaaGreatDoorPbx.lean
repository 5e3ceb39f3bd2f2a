/- Of what QuickRightRow stands on: QkRigLaw. -/
import Derived.Test.YtdekhacomggpgaaGreatDoorPaz
import Derived.Test.YtdekhacomggpgaaGreatDoorPbn
import Derived.Test.YtdekhacomggpgaaGreatDoorPbt
import Derived.Test.YtdekhacomggpgaaGreatDoorPbv
import Derived.Test.YtdekhacomggpgaaGreatDoorPbw
namespace Go.Proofs.YtdekhacomggpgaaGreatDoor
open Go.RowKit Ieee
theorem ddig_no {s:ByteArray} (hm:s.size≤65536) (hd:¬ AllD s s.size) (W:World):Calls Tryz.prog 19 #[.string s] W fun e W'=>e = .returned (.bool false)∧Below W.heap.size W W':=
 (allDigits_any s W hm).mono fun e W' ⟨h,hb⟩=>⟨by
  rcases h with ⟨_,h⟩|⟨h,_⟩
  ·exact absurd h hd
  ·exact h,hb⟩
theorem qchk_full (s:ByteArray) (x:Int):∃ e:Int,(e≠0∨(e = 0∧s.size≤65536∧AllD s s.size∧(s.size = 0→x = 0)∧∀ k,(h:k+1 = s.size)→(s[k]'(by omega)).toNat≠48)) ∧
  ∀ (g:Bool) (W:World),Calls Tryz.prog 6 #[.agg #[.bool g,.string s,.int .i64 x]] W fun en W'=>en = .returned (.int .i64 e)∧Below W.heap.size W W':=by
 by_cases hm:65536 < s.size
 ·exact ⟨4,Or.inl (by decide),fun g W=>dck_many W g s x hm⟩
 have hm':s.size≤65536:=by omega
 by_cases hz:s.size = 0
 ·by_cases hx:x = 0
  ·exact ⟨0,Or.inr ⟨rfl,hm',fun j hj _=>absurd hj (by omega),fun _=>hx,fun k h=>absurd h (by omega)⟩,fun g W=>dck_z0 W g s x hm' hz hx⟩
  ·exact ⟨100,Or.inl (by decide),fun g W=>dck_z1 W g s x hm' hz hx⟩
 obtain ⟨f,t,he,hft,HE⟩:=ends_fix s hm'
 have hhi:=he.hi
 by_cases hf:0 < f
 ·exact ⟨100,Or.inl (by decide),fun g W=>dck_b1 W g s x f t hm' hz (hide HE) hf⟩
 by_cases ht:t < s.size
 ·exact ⟨100,Or.inl (by decide),fun g W=>dck_b2 W g s x f t hm' hz (hide HE) (by omega) ht⟩
 by_cases hd:AllD s s.size
 case neg=>exact ⟨100,Or.inl (by decide),fun g W=>dck_b3 W g s x f t hm' hz (hide HE) (by omega) (by omega) (hide (ddig_no hm' hd))⟩
 have hlt:f < t:=by omega
 have h0:f = 0:=by omega
 subst h0
 by_cases hx:x < -1073741824∨1073741824 < x
 ·refine ⟨100,Or.inl (by decide),fun g W=>dck_b4 W g s x 0 t hm' hz (hide HE) rfl (by omega) (hide (ddig_q hm' hd)) (hide fun W=>?_)⟩
  by_cases h1:x < -1073741824
  ·exact bey_lo W x h1
  ·exact bey_hi W x (by omega) (by omega)
 ·refine ⟨0,Or.inr ⟨rfl,hm',hd,fun h=>absurd h hz,fun k h=>?_⟩,fun g W=>dck_ok W g s x 0 t hm' hz (hide HE) rfl (by omega) (hide (ddig_q hm' hd)) (hide fun W=>bey_in W x (by omega) (by omega))⟩
  have h1:t = k+1:=by omega
  subst h1
  exact he.two hlt (by omega)
theorem val_some {s:ByteArray} (hd:AllD s s.size) (h0:s.size≠0) (hl:∀ k,(h:k+1 = s.size)→(s[k]'(by omega)).toNat≠48):0 < valS s:=by
 obtain ⟨h1,h2,h3⟩:=hd.digS
 have e:=dval_snoc (digs s) (s.size - 1) (by omega)
 rw [List.take_of_length_le (by omega)] at e
 have a:=h3 (s.size - 1) (by omega)
 have b:=hl (s.size - 1) (by omega)
 unfold valS
 omega
theorem rai_any (wh tn n t:Nat) (hw:wh < 1000000000000000000) (ht:t≤400):∃ (m:Nat) (b:Bool),(b = true∧m = n * 10 ^ t∧n * 10 ^ t≤wh∨b = false)∧∀ W:World,Calls Tryz.prog 56 #[.agg #[.int .u64 (wh:Int),.int .i64 (tn:Int)],.int .u64 (n:Int),.int .i64 (t:Int)] W fun e W'=>e = .returned (.tuple #[.int .u64 (m:Int),.bool b])∧Below W.heap.size W W':=by
 rcases Nat.eq_zero_or_pos t with rfl|ht0
 ·by_cases h:n≤wh
  ·exact ⟨n,true,Or.inl ⟨rfl,by simp,by simpa using h⟩,fun W=>qrai_0t W wh tn n h⟩
  ·exact ⟨n,false,Or.inr rfl,fun W=>qrai_0f W wh tn n (by omega)⟩
 ·have step:∀ j,n * 10 ^ (j+1) = n * 10 ^ j * 10:=fun j=>by rw [Nat.pow_succ,Nat.mul_assoc]
  by_cases h:∀ j,j < t→n * 10 ^ j≤wh / 10
  ·have hl:=h (t - 1) (by omega)
   have hst:=step (t - 1)
   rw [show t - 1+1 = t by omega] at hst
   exact ⟨n * 10 ^ t,true,Or.inl ⟨rfl,rfl,by omega⟩,fun W=>qrai_ok W wh tn n t t (fun j=>n * 10 ^ j) (by simp) (fun j _=>step j) h (by omega) rfl hw (by omega)⟩
  ·have hex:∃ q,q < t∧wh / 10 < n * 10 ^ q∧∀ j,j < q→n * 10 ^ j≤wh / 10:=by
    have key:∀ k,k≤t→(∀ j,j < k→n * 10 ^ j≤wh / 10)∨∃ q,q < t∧wh / 10 < n * 10 ^ q∧∀ j,j < q→n * 10 ^ j≤wh / 10:=by
     intro k
     induction k with
     | zero=>exact fun _=>Or.inl fun j hj=>absurd hj (by omega)
     | succ k ih=>
      intro hk
      rcases ih (by omega) with h1|h1
      ·by_cases h2:n * 10 ^ k≤wh / 10
       ·refine Or.inl fun j hj=>?_
        rcases Nat.lt_succ_iff_lt_or_eq.1 hj with h3|rfl
        ·exact h1 j h3
        ·exact h2
       ·exact Or.inr ⟨k,by omega,by omega,h1⟩
      ·exact Or.inr h1
    rcases key t (Nat.le_refl _) with h1|h1
    ·exact absurd h1 h
    ·exact h1
   obtain ⟨q,h1,h2,h3⟩:=hex
   exact ⟨0,false,Or.inr rfl,fun W=>qrai_far W wh tn n t q (fun j=>n * 10 ^ j) (by simp) (fun j _=>step j) h3 (by omega) (by omega) hw h2⟩
def FacR (n:Nat) (x:Int) (N:Nat) (t:Int):Prop:=(t < 0∧t = x∧N = n)∨(0≤t∧0≤x∧N * 10 ^ t.toNat = n * 10 ^ x.toNat)
theorem fac_any (wh tn:Nat) (hw:wh < 1000000000000000000) (htn:tn≤22) (s:ByteArray) (x:Int) (hd:AllD s s.size) (hx0:-400≤x) (hx1:x≤400) (HC:∀ (g:Bool) (W:World),Calls Tryz.prog 6 #[.agg #[.bool g,.string s,.int .i64 x]] W fun en W'=>en = .returned (.int .i64 0)∧Below W.heap.size W W') :
  ∃ (N t:Int) (b:Bool),(b = false∨b = true∧∃ N':Nat,N = (N':Int)∧N'≤wh∧-(tn:Int)≤t∧t≤(tn:Int)∧FacR (valS s) x N' t)∧∀ (g:Bool) (W:World),Calls Tryz.prog 31 #[.agg #[.int .u64 (wh:Int),.int .i64 (tn:Int)],.agg #[.bool g,.string s,.int .i64 x]] W fun e W'=>e = .returned (.tuple #[.int .u64 N,.int .i64 t,.bool b])∧Below W.heap.size W W':=by
 by_cases h1:x < -(tn:Int)
 ·exact ⟨0,0,false,Or.inl rfl,fun g W=>qfac_low W wh tn g s x htn h1 (hide (HC g))⟩
 by_cases h2:19 < s.size
 ·exact ⟨0,0,false,Or.inl rfl,fun g W=>qfac_long W wh tn g s x htn (by omega) (hide (HC g)) (hide fun W=>qnum_long W s h2)⟩
 have hN:=qnum_val s (by omega) hd
 by_cases h3:x≤(tn:Int)
 ·obtain ⟨m,b,hb,hc⟩:=rai_any wh tn (valS s) 0 hw (by omega)
  refine ⟨(m:Int),x,b,?_,fun g W=>qfac_s W wh tn g s x (valS s) m b htn (by omega) h3 (hide (HC g)) (hide hN) (hide hc)⟩
  rcases hb with ⟨rfl,e,hl⟩|rfl
  ·rw [Nat.pow_zero,Nat.mul_one] at e hl
   refine Or.inr ⟨rfl,m,rfl,by omega,by omega,h3,?_⟩
   rcases Int.lt_or_le x 0 with hx|hx
   ·exact Or.inl ⟨hx,rfl,e⟩
   ·exact Or.inr ⟨hx,hx,by rw [e]⟩
  ·exact Or.inl rfl
 ·obtain ⟨u,hu⟩:∃ u:Nat,x - (tn:Int) = (u:Int):=⟨(x - (tn:Int)).toNat,by omega⟩
  obtain ⟨m,b,hb,hc⟩:=rai_any wh tn (valS s) u hw (by omega)
  refine ⟨(m:Int),(tn:Int),b,?_,fun g W=>qfac_b W wh tn g s x (valS s) m b htn (by omega) (by omega) (by omega) (hide (HC g)) (hide hN) (hide (by rw [hu]; exact hc))⟩
  rcases hb with ⟨rfl,e,hl⟩|rfl
  ·refine Or.inr ⟨rfl,m,rfl,by omega,by omega,Int.le_refl _,Or.inr ⟨by omega,by omega,?_⟩⟩
   rw [e,Nat.mul_assoc,← Nat.pow_add]
   congr 2
   omega
  ·exact Or.inl rfl
theorem dblG64 {s:ByteArray} {x:Int} {N:Nat} {t:Int} {z:Nat} (HF:∀ (g:Bool) (W:World),Calls Tryz.prog 31 #[.agg #[.int .u64 9007199254740992,.int .i64 22],.agg #[.bool g,.string s,.int .i64 x]] W fun e W'=>e = .returned (.tuple #[.int .u64 (N:Int),.int .i64 t,.bool true])∧Below W.heap.size W W') (h0:-22≤t) (h1:t≤22) (hz:fl64 N t = some z) (g:Bool) (W:World):Calls Tryz.prog 8 #[.agg #[.bool g,.string s,.int .i64 x]] W fun e W'=>e = .returned (.tuple #[.float .f64 (if g then Op.negFloat .f64 z else z),.bool true])∧Below W.heap.size W W':=by
 refine qdouble W g s x _ true (hide fun W=>?_)
 have hf:=HF g
 unfold fl64 at hz
 rcases Int.lt_or_le t 0 with hx|hx
 ·rw [if_pos hx] at hz
  obtain ⟨m,rfl⟩:∃ m:Nat,t = -(m:Int):=⟨t.natAbs,by omega⟩
  have e:(-(m:Int)).natAbs = m:=by omega
  rw [e] at hz
  cases g
  ·exact qnst64_qf W s _ N m (p64 m) z (by omega) (hide hf) (hide (qp64 m (by omega))) hz
  ·exact qnst64_qt W s _ N m (p64 m) z (by omega) (hide hf) (hide (qp64 m (by omega))) hz
 ·rw [if_neg (by omega)] at hz
  obtain ⟨m,rfl⟩:∃ m:Nat,t = (m:Int):=⟨t.natAbs,by omega⟩
  have e:((m:Int)).natAbs = m:=by omega
  rw [e] at hz
  cases g
  ·exact qnst64_pf W s _ N m (p64 m) z (by omega) (hide hf) (hide (qp64 m (by omega))) hz
  ·exact qnst64_pt W s _ N m (p64 m) z (by omega) (hide hf) (hide (qp64 m (by omega))) hz
theorem int_ex64 {N:Nat} (h0:0 < N) (hN:N≤9007199254740992):ExV FloatKind.f64.format (floatOfInt .f64 (N:Int)) N:=by
 by_cases h:N = 9007199254740992
 ·rw [h]; exact ex_of (by kernel_rfl)
 ·have:=near_whole fmt64 (by omega) (by decide) h0 (show N < 2 ^ (52+1) from Nat.lt_of_lt_of_le (show N < 9007199254740992 by omega) (by decide))
  have e:floatOfInt .f64 (N:Int) = FloatKind.f64.format.nearest false N 0:=by
   show FloatKind.f64.format.nearest (decide ((N:Int) < 0)) (N:Int).natAbs 0 = _
   rw [decide_eq_false (by omega),Int.natAbs_natCast]
  rw [e]; exact this
theorem fl_row64 {N:Nat} {t:Int} (h0:0 < N) (hN:N≤9007199254740992) (ht0:-22≤t) (ht1:t≤22) {p q d i j n b z M K:Nat} {X:Int} (h:Sti p q d i j n b z M K X) (hp:p * 10 ^ (-t).toNat = N * 10 ^ t.toNat * q):fl64 N t = some (bitsR 9223372036854775808 9218868437227405312 0 false (rowR 1023 52 0 false M K X)):=by
 have hx:=int_ex64 h0 hN
 have hy:=ex_of (p64_ex t.natAbs (by omega))
 have hne:N * 10 ^ t.natAbs≠0:=Nat.ne_of_gt (Nat.mul_pos h0 (Nat.pow_pos (by omega)))
 unfold fl64
 by_cases ht:t < 0
 ·rw [if_pos ht]
  refine div_row fmt64 (by omega) hx hy hne h ?_
  rw [show t.toNat = 0 by omega,Nat.pow_zero,Nat.mul_one,show (-t).toNat = t.natAbs by omega] at hp
  exact hp
 ·rw [if_neg ht]
  refine mul_row fmt64 (by omega) hx hy hne h ?_
  rw [show (-t).toNat = 0 by omega,Nat.pow_zero,Nat.mul_one,show t.toNat = t.natAbs by omega] at hp
  exact hp
theorem neg_row64 (g:Bool) (r:Nat):(if g then Op.negFloat .f64 (bitsR 9223372036854775808 9218868437227405312 0 false r) else bitsR 9223372036854775808 9218868437227405312 0 false r) = bitsR 9223372036854775808 9218868437227405312 0 g r:=by
 cases g
 ·rfl
 ·have hl:bitsR 9223372036854775808 9218868437227405312 0 false r < 2 ^ 63:=bitsR_lt (by decide)
  have hx:=xor_top hl
  rw [bitsR_sign]
  show bitsR 9223372036854775808 9218868437227405312 0 false r ^^^ 2 ^ 63 = 2 ^ 63+bitsR 9223372036854775808 9218868437227405312 0 false r
  conv=>lhs; rw [← hx]
  rw [Nat.xor_assoc,Nat.xor_self,Nat.xor_zero]
theorem no_fac64 {s:ByteArray} {x N t:Int} (HF:∀ (g:Bool) (W:World),Calls Tryz.prog 31 #[.agg #[.int .u64 9007199254740992,.int .i64 22],.agg #[.bool g,.string s,.int .i64 x]] W fun e W'=>e = .returned (.tuple #[.int .u64 N,.int .i64 t,.bool false])∧Below W.heap.size W W') (g:Bool) (W:World):Calls Tryz.prog 8 #[.agg #[.bool g,.string s,.int .i64 x]] W fun e W'=>e = .returned (.tuple #[.float .f64 0,.bool false])∧Below W.heap.size W W':=
 qdouble W g s x 0 false (hide fun W=>qnst64_no W g s x N t (hide (HF g)))
theorem dblG32 {s:ByteArray} {x:Int} {N:Nat} {t:Int} {z:Nat} (HF:∀ (g:Bool) (W:World),Calls Tryz.prog 31 #[.agg #[.int .u64 16777216,.int .i64 10],.agg #[.bool g,.string s,.int .i64 x]] W fun e W'=>e = .returned (.tuple #[.int .u64 (N:Int),.int .i64 t,.bool true])∧Below W.heap.size W W') (h0:-10≤t) (h1:t≤10) (hz:fl32 N t = some z) (g:Bool) (W:World):Calls Tryz.prog 9 #[.agg #[.bool g,.string s,.int .i64 x]] W fun e W'=>e = .returned (.tuple #[.float .f32 (if g then Op.negFloat .f32 z else z),.bool true])∧Below W.heap.size W W':=by
 refine qsingle W g s x _ true (hide fun W=>?_)
 have hf:=HF g
 unfold fl32 at hz
 rcases Int.lt_or_le t 0 with hx|hx
 ·rw [if_pos hx] at hz
  obtain ⟨m,rfl⟩:∃ m:Nat,t = -(m:Int):=⟨t.natAbs,by omega⟩
  have e:(-(m:Int)).natAbs = m:=by omega
  rw [e] at hz
  cases g
  ·exact qnst32_qf W s _ N m (p32 m) z (by omega) (hide hf) (hide (qp32 m (by omega))) hz
  ·exact qnst32_qt W s _ N m (p32 m) z (by omega) (hide hf) (hide (qp32 m (by omega))) hz
 ·rw [if_neg (by omega)] at hz
  obtain ⟨m,rfl⟩:∃ m:Nat,t = (m:Int):=⟨t.natAbs,by omega⟩
  have e:((m:Int)).natAbs = m:=by omega
  rw [e] at hz
  cases g
  ·exact qnst32_pf W s _ N m (p32 m) z (by omega) (hide hf) (hide (qp32 m (by omega))) hz
  ·exact qnst32_pt W s _ N m (p32 m) z (by omega) (hide hf) (hide (qp32 m (by omega))) hz
theorem int_ex32 {N:Nat} (h0:0 < N) (hN:N≤16777216):ExV FloatKind.f32.format (floatOfInt .f32 (N:Int)) N:=by
 by_cases h:N = 16777216
 ·rw [h]; exact ex_of (by kernel_rfl)
 ·have:=near_whole fmt32 (by omega) (by decide) h0 (show N < 2 ^ (23+1) from Nat.lt_of_lt_of_le (show N < 16777216 by omega) (by decide))
  have e:floatOfInt .f32 (N:Int) = FloatKind.f32.format.nearest false N 0:=by
   show FloatKind.f32.format.nearest (decide ((N:Int) < 0)) (N:Int).natAbs 0 = _
   rw [decide_eq_false (by omega),Int.natAbs_natCast]
  rw [e]; exact this
theorem fl_row32 {N:Nat} {t:Int} (h0:0 < N) (hN:N≤16777216) (ht0:-10≤t) (ht1:t≤10) {p q d i j n b z M K:Nat} {X:Int} (h:Sti p q d i j n b z M K X) (hp:p * 10 ^ (-t).toNat = N * 10 ^ t.toNat * q):fl32 N t = some (bitsR 2147483648 2139095040 0 false (rowR 127 23 0 false M K X)):=by
 have hx:=int_ex32 h0 hN
 have hy:=ex_of (p32_ex t.natAbs (by omega))
 have hne:N * 10 ^ t.natAbs≠0:=Nat.ne_of_gt (Nat.mul_pos h0 (Nat.pow_pos (by omega)))
 unfold fl32
 by_cases ht:t < 0
 ·rw [if_pos ht]
  refine div_row fmt32 (by omega) hx hy hne h ?_
  rw [show t.toNat = 0 by omega,Nat.pow_zero,Nat.mul_one,show (-t).toNat = t.natAbs by omega] at hp
  exact hp
 ·rw [if_neg ht]
  refine mul_row fmt32 (by omega) hx hy hne h ?_
  rw [show (-t).toNat = 0 by omega,Nat.pow_zero,Nat.mul_one,show t.toNat = t.natAbs by omega] at hp
  exact hp
theorem neg_row32 (g:Bool) (r:Nat):(if g then Op.negFloat .f32 (bitsR 2147483648 2139095040 0 false r) else bitsR 2147483648 2139095040 0 false r) = bitsR 2147483648 2139095040 0 g r:=by
 cases g
 ·rfl
 ·have hl:bitsR 2147483648 2139095040 0 false r < 2 ^ 31:=bitsR_lt (by decide)
  have hx:=xor_top hl
  rw [bitsR_sign]
  show bitsR 2147483648 2139095040 0 false r ^^^ 2 ^ 31 = 2 ^ 31+bitsR 2147483648 2139095040 0 false r
  conv=>lhs; rw [← hx]
  rw [Nat.xor_assoc,Nat.xor_self,Nat.xor_zero]
theorem no_fac32 {s:ByteArray} {x N t:Int} (HF:∀ (g:Bool) (W:World),Calls Tryz.prog 31 #[.agg #[.int .u64 16777216,.int .i64 10],.agg #[.bool g,.string s,.int .i64 x]] W fun e W'=>e = .returned (.tuple #[.int .u64 N,.int .i64 t,.bool false])∧Below W.heap.size W W') (g:Bool) (W:World):Calls Tryz.prog 9 #[.agg #[.bool g,.string s,.int .i64 x]] W fun e W'=>e = .returned (.tuple #[.float .f32 0,.bool false])∧Below W.heap.size W W':=
 qsingle W g s x 0 false (hide fun W=>qnst32_no W g s x N t (hide (HF g)))
theorem dnum_all (s:ByteArray) (x:Int) (hd:AllD s s.size) (hm:s.size≤65536) (g:Bool) (W:World):Calls Tryz.prog 23 #[.agg #[.bool g,.string s,.int .i64 x]] W fun en W'=>(∃ a n c,en = .returned (.agg #[.slice a n c])∧Mine W' W.heap.size a n c (valS s))∧Below W.heap.size W W':=by
 by_cases h0:s.size = 0
 ·have hv:valS s = 0:=val_none fun j hj=>absurd hj (by omega)
  rw [hv]
  refine (dnum_none W g s x (hide fun W=>(parse_any s W (by omega)).mono fun e W' ⟨h,hb⟩=>⟨by
   rcases h with ⟨h1,_⟩|⟨_,h1⟩|⟨i,hi,_⟩|⟨_,_,_,h1,_⟩
   ·omega
   ·exact h1
   ·omega
   ·omega,hb⟩)).mono fun e W' ⟨h1,h2⟩=>⟨⟨none,0,0,h1,⟨[],rfl,Or.inl ⟨rfl,rfl⟩,Pl.wf_nil,Pl.norm_nil,rfl,by omega⟩⟩,h2⟩
 ·exact dnum_any g s x hd hm h0 W
theorem drat_any (s:ByteArray) (x:Int) (hd:AllD s s.size) (hm:s.size≤40) (hx0:-400≤x) (hx1:x≤400) (HC:∀ (g:Bool) (W:World),Calls Tryz.prog 6 #[.agg #[.bool g,.string s,.int .i64 x]] W fun en W'=>en = .returned (.int .i64 0)∧Below W.heap.size W W') :
  ∃ R S:Nat,0 < S∧Nat.gcd R S = 1∧blen R≤2200∧blen S≤2200∧R * 10 ^ (-x).toNat = valS s * 10 ^ x.toNat * S∧∀ (g:Bool) (W:World),Calls Tryz.prog 7 #[.agg #[.bool g,.string s,.int .i64 x]] W fun en W'=>(∃ a n c a' n' c',en = .returned (.tuple #[.agg #[.bool (g && !decide (R = 0)),.slice a n c,.slice a' n' c'],.int .i64 0])∧Mine W' W.heap.size a n c R∧Mine W' W.heap.size a' n' c' S)∧Below W.heap.size W W':=by
 obtain ⟨p,hp⟩:∃ p,x.toNat = p:=⟨_,rfl⟩
 obtain ⟨q,hq⟩:∃ q,(-x).toNat = q:=⟨_,rfl⟩
 have tp:∀ k,k≤440→(10:Nat) ^ k < 2 ^ 1500:=fun k hk=>Nat.lt_of_le_of_lt (Nat.pow_le_pow_right (by omega) hk) (by decide +kernel)
 have hv:valS s < 10 ^ s.size:=by
  have:=Pl.dval_lt hd.digS.2.1
  unfold valS
  rw [← hd.digS.1] at this
  exact this
 have hvp:valS s * 10 ^ p < 2 ^ 1500:=by
  refine Nat.lt_of_lt_of_le (Nat.mul_lt_mul_of_pos_right hv (Nat.pow_pos (by omega))) ?_
  rw [← Nat.pow_add]
  exact Nat.le_of_lt (tp _ (by omega))
 have h10q:(10:Nat) ^ q < 2 ^ 1500:=tp q (by omega)
 obtain ⟨Q,hQ⟩:∃ Q,Q = valS s * 10 ^ p:=⟨_,rfl⟩
 obtain ⟨T,hT⟩:∃ T,T = 10 ^ q:=⟨_,rfl⟩
 rw [← hQ] at hvp
 rw [← hT] at h10q
 have hT0:0 < T:=by rw [hT]; exact Nat.pow_pos (by omega)
 have hg0:0 < Nat.gcd Q T:=Nat.gcd_pos_of_pos_right _ hT0
 have d1:=Nat.gcd_dvd_left Q T
 have d2:=Nat.gcd_dvd_right Q T
 have c1:=Nat.div_mul_cancel d1
 have c2:=Nat.div_mul_cancel d2
 have l1:=Nat.div_le_self Q (Nat.gcd Q T)
 have l2:=Nat.div_le_self T (Nat.gcd Q T)
 refine ⟨Q / Nat.gcd Q T,T / Nat.gcd Q T,Nat.div_pos (Nat.le_of_dvd hT0 d2) hg0,?_,Nat.le_trans ((bl_blen _).le_of (Nat.lt_of_le_of_lt l1 hvp)) (by omega),Nat.le_trans ((bl_blen _).le_of (Nat.lt_of_le_of_lt l2 h10q)) (by omega),?_,fun g W=>?_⟩
 ·rw [Nat.gcd_div d1 d2,Nat.div_self hg0]
 ·rw [hp,hq,← hT,← hQ]
  calc Q / Nat.gcd Q T * T = Q / Nat.gcd Q T * (T / Nat.gcd Q T * Nat.gcd Q T):=by rw [c2]
   _ = Q / Nat.gcd Q T * Nat.gcd Q T * (T / Nat.gcd Q T):=by ac_rfl
   _ = Q * (T / Nat.gcd Q T):=by rw [c1]
 ·have hp10:¬ Over (10 ^ p):=no_over (K:=1500) (tp p (by omega)) (by omega)
  have hq10:¬ Over (10 ^ q):=no_over (K:=1500) (tp q (by omega)) (by omega)
  have hQo:¬ Over Q:=no_over (K:=1500) hvp (by omega)
  refine drat_ok W g s x p q (valS s) (10 ^ p) (10 ^ q) Q (Q / Nat.gcd Q T) (T / Nat.gcd Q T) (g && !decide (Q / Nat.gcd Q T = 0)) (by omega) (by omega) (by omega) (by omega) (hide (HC g)) (hide (dnum_all s x hd (by omega) g))
   (hide fun W=>(pow_any 10 p W (by omega) (by omega)).mono fun e W' ⟨h,hb⟩=>⟨ans_ok h hp10,hb⟩)
   (hide fun W=>(pow_any 10 q W (by omega) (by omega)).mono fun e W' ⟨h,hb⟩=>⟨ans_ok h hq10,hb⟩)
   (hide ?_) (hide fun W a n c a' n' c' h1 h2=>?_)
  ·rw [hQ] at hQo ⊢
   exact hmul hQo
  ·rw [← hT] at h2
   refine (make_any g a a' n n' c c' Q T W h1 h2 hT0).mono fun en W' ⟨h,hb⟩=>⟨?_,hb⟩
   rcases h with ⟨a,n,c,a',n',c',h3,h4,h5⟩|⟨_,h3|h3⟩
   ·exact ⟨a,n,c,a',n',c',h3,h4,h5⟩
   ·exact absurd h3 (no_over (K:=1500) (Nat.lt_of_le_of_lt l1 hvp) (by omega))
   ·exact absurd h3 (no_over (K:=1500) (Nat.lt_of_le_of_lt l2 h10q) (by omega))
theorem fac_pos {n N:Nat} {x t:Int} (h:FacR n x N t) (hn:0 < n):0 < N:=by
 rcases h with ⟨_,_,rfl⟩|⟨_,_,e⟩
 ·exact hn
 ·refine Nat.pos_of_ne_zero fun h0=>?_
  rw [h0,Nat.zero_mul] at e
  exact absurd e.symm (Nat.ne_of_gt (Nat.mul_pos hn (Nat.pow_pos (by omega))))
theorem fac_frac {n N R S:Nat} {x t:Int} (h:FacR n x N t) (hR:R * 10 ^ (-x).toNat = n * 10 ^ x.toNat * S):R * 10 ^ (-t).toNat = N * 10 ^ t.toNat * S:=by
 rcases h with ⟨_,rfl,rfl⟩|⟨h1,h2,e⟩
 ·exact hR
 ·rw [show (-x).toNat = 0 by omega] at hR
  rw [show (-t).toNat = 0 by omega,e,hR]
theorem quickRight_any (g:Bool) (s:ByteArray) (x:Int) (w:World) (hT:Tb w):Calls Tryz.prog 3 #[.agg #[.bool g,.string s,.int .i64 x]] w fun e w'=>e = .returned (.bool true)∧Below w.heap.size w w':=by
 have H0:Hid (∀ W:World,Calls Tryz.prog 5 #[] W fun e W'=>e = .returned (.bool true)∧Below W.heap.size W W'):=hide fun W=>qkalive W fun _ _ h=>nomatch h
 by_cases hl:40 < s.size
 ·exact qr_long w g s x hl H0
 by_cases hx1:400 < x
 ·exact qr_hi w g s x (by omega) hx1 H0
 by_cases hx0:x < -400
 ·exact qr_lo w g s x (by omega) hx0 H0
 obtain ⟨e,he,HC⟩:=qchk_full s x
 rcases he with he|⟨rfl,hsz,hd,hz,hlast⟩
 ·exact qr_chk w g s x e (by omega) (by omega) (by omega) he H0 (hide (HC g))
 obtain ⟨R,S,hS0,hg,bR,bS,hR,hrat⟩:=drat_any s x hd (by omega) (by omega) (by omega) HC
 have HQ:=hrat g
 by_cases h0:s.size = 0
 ·have hv:valS s = 0:=val_none fun j hj=>absurd hj (by omega)
  have hx:=hz h0
  subst hx
  rw [hv] at hR
  have hR0:R = 0:=by simpa using hR
  subst hR0
  have hS1:S = 1:=by rw [Nat.gcd_zero_left] at hg; exact hg
  subst hS1
  have q:Qd s 0 0:=⟨by omega,hd,hv,HC⟩
  have e1:fl64 0 0 = some 0:=by kernel_rfl
  have e2:fl32 0 0 = some 0:=by kernel_rfl
  have D1:=dbl64 q (by omega) (by omega) (by omega) e1 g
  have D2:=dbl32 q (by omega) (by omega) (by omega) e2 g
  have s1:(if g then Op.negFloat .f64 0 else 0) = if g then 9223372036854775808 else 0:=by cases g <;> rfl
  have s2:(if g then Op.negFloat .f32 0 else 0) = if g then 2147483648 else 0:=by cases g <;> rfl
  rw [s1] at D1
  rw [s2] at D2
  have sq:(g && !decide (0 = 0)) = false:=by cases g <;> rfl
  rw [sq] at HQ
  exact qr_tt w g s 0 false 0 1 0 0 (if g then 9223372036854775808 else 0) (if g then 2147483648 else 0) hT (by omega) (by omega) (by omega) (by cases g <;> decide) H0 (hide (HC g)) (hide HQ) (hide D1) (hide D2) (hide (fits_in q (by omega) (by omega) (by omega) g))
   (hide fun W A N C A' N' C' k1 k2 k3=>zero_r (md:=0) qfm64 (by omega) g A A' N C N' C' W k1 k2 k3) (hide fun W A N C A' N' C' k1 k2 k3=>zero_r (md:=0) qfm32 (by omega) g A A' N C N' C' W k1 k2 k3)
 have hn:=val_some hd h0 hlast
 have hRp:0 < R:=by
  refine Nat.pos_of_ne_zero fun hR0=>?_
  rw [hR0,Nat.zero_mul] at hR
  exact absurd hR.symm (Nat.ne_of_gt (Nat.mul_pos (Nat.mul_pos hn (Nat.pow_pos (by omega))) hS0))
 have sq:(g && !decide (R = 0)) = g:=by rw [decide_eq_false (by omega)]; cases g <;> rfl
 rw [sq] at HQ
 obtain ⟨N1,t1,b1,r1,f1⟩:=fac_any 9007199254740992 22 (by omega) (by omega) s x hd (by omega) (by omega) HC
 obtain ⟨N2,t2,b2,r2,f2⟩:=fac_any 16777216 10 (by omega) (by omega) s x hd (by omega) (by omega) HC
 obtain ⟨_,_,_,_,_,_,M1,K1,X1,S1,C1⟩:=sti_r (B:=1023) qfm64 rfl g R S hRp hS0 hg bR bS
 obtain ⟨_,_,_,_,_,_,M2,K2,X2,S2,C2⟩:=sti_r (B:=127) qfm32 rfl g R S hRp hS0 hg bR bS
 have HA:Hid (∀ (W:World) (A:Option Addr) (N C:Nat) (A':Option Addr) (N' C':Nat),Tb W→Num W A N R→Num W A' N' S→Calls Tryz.prog 10 #[.agg #[.int .i64 11,.int .i64 52],.agg #[.bool g,.slice A N C,.slice A' N' C'],.bool g,.int .u8 0] W fun e W'=>e = .returned (RV 9223372036854775808 9218868437227405312 1023 52 0 g M1 K1 X1)∧Below W.heap.size W W'):=hide fun W A N C A' N' C' k1 k2 k3=>C1 0 (by omega) g W A A' N C N' C' k1 k2 k3
 have HB:Hid (∀ (W:World) (A:Option Addr) (N C:Nat) (A':Option Addr) (N' C':Nat),Tb W→Num W A N R→Num W A' N' S→Calls Tryz.prog 10 #[.agg #[.int .i64 8,.int .i64 23],.agg #[.bool g,.slice A N C,.slice A' N' C'],.bool g,.int .u8 0] W fun e W'=>e = .returned (RV 2147483648 2139095040 127 23 0 g M2 K2 X2)∧Below W.heap.size W W'):=hide fun W A N C A' N' C' k1 k2 k3=>C2 0 (by omega) g W A A' N C N' C' k1 k2 k3
 have y1:b1 = true→∀ W:World,Calls Tryz.prog 8 #[.agg #[.bool g,.string s,.int .i64 x]] W fun e W'=>e = .returned (.tuple #[.float .f64 (bitsR 9223372036854775808 9218868437227405312 0 g (rowR 1023 52 0 g M1 K1 X1)),.bool true])∧Below W.heap.size W W':=fun hb=>by
  rcases r1 with r1|⟨_,N',rfl,l1,l2,l3,l4⟩
  ·rw [hb] at r1; cases r1
  ·subst hb
   have:=dblG64 f1 l2 l3 (fl_row64 (fac_pos l4 hn) l1 l2 l3 S1 (fac_frac l4 hR)) g
   rw [neg_row64] at this
   exact this
 have y2:b2 = true→∀ W:World,Calls Tryz.prog 9 #[.agg #[.bool g,.string s,.int .i64 x]] W fun e W'=>e = .returned (.tuple #[.float .f32 (bitsR 2147483648 2139095040 0 g (rowR 127 23 0 g M2 K2 X2)),.bool true])∧Below W.heap.size W W':=fun hb=>by
  rcases r2 with r2|⟨_,N',rfl,l1,l2,l3,l4⟩
  ·rw [hb] at r2; cases r2
  ·subst hb
   have:=dblG32 f2 l2 l3 (fl_row32 (fac_pos l4 hn) l1 l2 l3 S2 (fac_frac l4 hR)) g
   rw [neg_row32] at this
   exact this
 have lt32:bitsR 2147483648 2139095040 0 g (rowR 127 23 0 g M2 K2 X2) < 4294967296:=by
  have:=bitsR_lt (S:=2147483648) (I:=2139095040) (r:=rowR 127 23 0 g M2 K2 X2) (by decide)
  cases g
  ·omega
  ·rw [bitsR_sign]; omega
 have hfit:∀ W:World,Calls Tryz.prog 11 #[.agg #[.bool g,.string s,.int .i64 x]] W fun e W'=>e = .returned (.bool b1)∧Below W.heap.size W W':=fun W=>qfits W g s x N1 t1 b1 (hide (f1 g))
 cases b1 <;> cases b2
 ·exact qr_ff w g s x g R S _ _ _ _ hT (by omega) (by omega) (by omega) H0 (hide (HC g)) (hide HQ) (hide (no_fac64 f1 g)) (hide (no_fac32 f2 g)) (hide hfit) HA HB
 ·exact qr_ft w g s x g R S _ _ _ _ hT (by omega) (by omega) (by omega) lt32 H0 (hide (HC g)) (hide HQ) (hide (no_fac64 f1 g)) (hide (y2 rfl)) (hide hfit) HA HB
 ·exact qr_tf w g s x g R S _ _ _ _ hT (by omega) (by omega) (by omega) H0 (hide (HC g)) (hide HQ) (hide (y1 rfl)) (hide (no_fac32 f2 g)) (hide hfit) HA HB
 ·exact qr_tt w g s x g R S _ _ _ _ hT (by omega) (by omega) (by omega) lt32 H0 (hide (HC g)) (hide HQ) (hide (y1 rfl)) (hide (y2 rfl)) (hide hfit) HA HB
end Go.Proofs.YtdekhacomggpgaaGreatDoor
