/- Of what DigitsEnoughRow stands on: DgEnLaw DgEnLaw2. -/
import Derived.Test.YteafdlblemdclaaGreatDoorPbs
import Derived.Test.YteafdlblemdclaaGreatDoorPbi
import Derived.Test.YteafdlblemdclaaGreatDoorPbt
namespace Go.Proofs.YteafdlblemdclaaGreatDoor
open Go.RowKit
theorem blen_le {a b k:Nat} (h:a≤b * 2 ^ k):blen a≤blen b+k:=by
 refine bl_le (bl_blen a) (Nat.lt_of_le_of_lt h ?_)
 rw [Nat.pow_add]
 exact Nat.mul_lt_mul_of_pos_right (bl_blen b).1 (Nat.pow_pos (by decide))
theorem dq_sign {g f:Bool} {D R S:Nat} {y:Int} (hD:0 < D) (hR:0 < R) (hS:0 < S) (h:dq g D y = mkRat (Rm.sgn f R) S):f = g:=by
 rw [dq_mk,Rat.mkRat_eq_iff (ten_ne _) (by omega)] at h
 have hA:0 < 10 ^ y.toNat:=Nat.pow_pos (by decide)
 have hB:0 < 10 ^ (-y).toNat:=Nat.pow_pos (by decide)
 generalize 10 ^ y.toNat = A at *
 generalize 10 ^ (-y).toNat = B at *
 rw [← Rm.sgn_scale,← Rm.sgn_scale] at h
 have h1:0 < D * A * S:=Nat.mul_pos (Nat.mul_pos hD hA) hS
 have h2:0 < R * B:=Nat.mul_pos hR hB
 generalize D * A * S = P at *
 generalize R * B = Q at *
 unfold Rm.sgn at h
 cases g <;> cases f <;> simp at h ⊢ <;> omega
theorem dg_one {v z n:Nat} (h:10 ^ n = v * 10 ^ z) (hv:v % 10≠0):v = 1:=
 (tens_uniq (n:=1) (z:=n) (by rw [Nat.one_mul]; exact h) (by decide) hv).1.symm
theorem round_close (g:Bool) {s:ByteArray} {x:Int} (h:DcOk s x) (h0:s.size≠0) (hs:s.size≤1500) (hx:x.natAbs≤4000) (n T:Nat) (hn1:1≤n) (hn2:n≤2000) (hT:T < 10 ^ (n - 1)) :
  ∃ (s2:ByteArray) (x2:Int) (i2:Bool) (D e:Nat),DcOk s2 x2∧s2.size≤n∧s2.size≤3000∧x2.natAbs≤8000∧dq g (valS s2) x2 = dq g D x∧D≤valS s+e∧valS s≤D+e∧2 * e * T < valS s ∧
   ∀ W:World,Calls Tryz.prog 17 #[.agg #[.bool g,.string s,.int .i64 x],.int .i64 (n:Int),.int .u8 0] W fun e W'=>e = .returned (.tuple #[.agg #[.bool g,.string s2,.int .i64 x2],.bool i2,.int .i64 0])∧Below W.heap.size W W':=by
 have hlow:=dx_low h h0
 have hv:0 < valS s:=by omega
 rcases round_num g s x n 0 h hn1 hn2 (by decide) (h.chk g) with ⟨hle,hc⟩|⟨c,Q,R,up,g2,s2,x2,e2,h1,h2,h3,h4,h5,hc⟩
 ·exact ⟨s,x,true,valS s,0,h,hle,by omega,by omega,rfl,by omega,by omega,by omega,hc⟩
 ·obtain ⟨N,hN⟩:∃ N,Q+(if up then 1 else 0) = N:=⟨_,rfl⟩
  have hN1:N≤10 ^ n:=by rw [← hN]; split <;> omega
  have hN2:N < 10 ^ (n+1):=Nat.lt_of_le_of_lt hN1 (Nat.pow_lt_pow_right (by decide) (by omega))
  obtain ⟨s3,x3,d1,d2,d3,d4,d5⟩:=dx_made g N (x:=x+(c:Int)) hN2 (by omega) (by omega) (by omega)
  rw [hN] at h5
  have hV:=h5.uniq d1
  simp only [Value.tuple.injEq,Array.mk.injEq,List.cons.injEq,Value.agg.injEq,Value.bool.injEq,Value.string.injEq,Value.int.injEq,and_true,true_and] at hV
  obtain ⟨⟨rfl,rfl,rfl⟩,rfl⟩:=hV
  obtain ⟨r1,r2,r3,r4,r5,r6,r7,r8⟩:=h3.dist h2 (by decide)
  rw [hN] at r3 r4
  have hsz:s2.size≤n:=by
   rcases Nat.lt_or_ge N (10 ^ n) with h9|h9
   ·obtain ⟨s4,x4,b1,b2,b3,b4,b5⟩:=dx_made g2 N (x:=x+(c:Int)) h9 (by omega) (by omega) (by omega)
    have hV:=h5.uniq b1
    simp only [Value.tuple.injEq,Array.mk.injEq,List.cons.injEq,Value.agg.injEq,Value.string.injEq,Value.int.injEq,and_true,true_and] at hV
    rw [hV.1]; exact b4
   ·have h10:N = 10 ^ n:=by omega
    obtain ⟨_,_,hz⟩:=mkA_num h5 (Nat.lt_of_lt_of_le hN2 (le_top (by omega)))
    rcases hz with ⟨hz,_⟩|⟨_,hz,z,_,hz2⟩
    ·have:=Nat.pow_pos (n:=n) (show 0 < 10 by decide)
     omega
    ·have h11:=dx_low d2 hz
     have h12:=dg_one (h10.symm.trans hz2) h11.2
     rw [h12] at h11
     rcases Nat.lt_or_ge 1 s2.size with h13|h13
     ·have:10 ^ 1≤10 ^ (s2.size - 1):=Nat.pow_le_pow_right (by decide) (by omega)
      omega
     ·omega
  refine ⟨s2,x2,false,N * 10 ^ c,rdist c R up,d2,hsz,by omega,by omega,by rw [d3,dq_up],?_,?_,?_,hc⟩
  ·cases up
   ·have:=r4 rfl; omega
   ·have:=r3 rfl; omega
  ·cases up
   ·have:=r4 rfl; omega
   ·have:=r3 rfl; omega
  ·have hd:=r8 (by decide)
   obtain ⟨b,rfl⟩:∃ b,c = b+1:=⟨c - 1,by omega⟩
   rw [Nat.add_sub_cancel] at hd
   have k1:2 * rdist (b+1) R up≤10 ^ (b+1):=by rw [Nat.pow_succ]; omega
   have k2:2 * rdist (b+1) R up * T < 2 * rdist (b+1) R up * 10 ^ (n - 1):=Nat.mul_lt_mul_of_pos_left hT (by omega)
   have k3:=Nat.mul_le_mul_right (10 ^ (n - 1)) k1
   have k4:10 ^ (b+1) * 10 ^ (n - 1) = 10 ^ (s.size - 1):=by rw [← Nat.pow_add]; congr 1; omega
   omega
theorem back_num {E F S I B G:Nat} (h:Fm E F S I) (hB:B = 2 ^ (E - 1) - 1) (hG:(G:Int) = (B:Int)+(F:Int) - 1) (s:Bool) {r:Nat} (hr:r < I) (hr0:0 < r) {sa:Bool} {va j:Nat} {t:ByteArray} {y:Int} (hq:WrQ F G s r sa va (1 * 2 ^ j)) (hD:DcOk t y) (hw:dq s (valS t) y = dq s (va * 5 ^ j) (-(j:Int))) (hs:t.size≤1500) (hy:y.natAbs≤4000) (n:Nat) (hn1:1≤n) (hn2:n≤2000) (hT:2 ^ (F+1) < 10 ^ (n - 1)) :
  ∃ (s2:ByteArray) (x2:Int) (i2:Bool),s2.size≤n ∧
   (∀ W:World,Calls Tryz.prog 17 #[.agg #[.bool s,.string t,.int .i64 y],.int .i64 (n:Int),.int .u8 0] W fun e W'=>e = .returned (.tuple #[.agg #[.bool s,.string s2,.int .i64 x2],.bool i2,.int .i64 0])∧Below W.heap.size W W') ∧
   ∀ W:World,Tb W→Calls Tryz.prog 21 #[.agg #[.int .i64 (E:Int),.int .i64 (F:Int)],.agg #[.bool s,.string s2,.int .i64 x2]] W fun e W'=>e = .returned (.tuple #[.int .u64 (((if s then S else 0)+r:Nat):Int),.bool true])∧Below W.heap.size W W':=by
 have hG2:=gm_le h hB hG
 have hda:=hq.hd
 have hpv:0 < pv F r:=by have:=pv_lt (F:=F) hr0; rw [pv_zero] at this; exact this
 have hva:0 < va:=by
  have:=hq.eq
  rcases Nat.eq_zero_or_pos va with h0|h0
  ·rw [h0,Nat.zero_mul] at this
   have:=Nat.mul_pos hpv hda
   omega
  ·exact h0
 have hrat:dq s (valS t) y = mkRat (Rm.sgn sa va) (1 * 2 ^ j):=by
  rw [hw,dq_mk,Rat.mkRat_eq_iff (ten_ne _) (by omega),hq.sg]
  have e3:(-(j:Int)).toNat = 0:=by omega
  have e4:(-(-(j:Int))).toNat = j:=by omega
  rw [e3,e4,Nat.pow_zero,Nat.mul_one,← Rm.sgn_scale,← Rm.sgn_scale]
  congr 1
  rw [show (10:Nat) ^ j = 2 ^ j * 5 ^ j by rw [← Nat.mul_pow],Nat.one_mul,Nat.mul_assoc,Nat.mul_comm (5 ^ j)]
 have h0:t.size≠0:=fun h9=>by
  rw [dx_empty h9,dq_zero] at hrat
  have h8:=hrat.symm
  rw [Rat.mkRat_eq_zero (by omega)] at h8
  have:=congrArg Int.natAbs h8
  rw [Rm.sgn_abs] at this
  simp at this; omega
 obtain ⟨s2,x2,i2,D,e,a1,a2,a3,a4,a5,a6,a7,a8,a9⟩:=round_close s hD h0 hs hy n (2 ^ (F+1)) hn1 hn2 hT
 refine ⟨s2,x2,i2,a2,a9,?_⟩
 have hN:0 < valS t:=by have:=dx_low hD h0; omega
 have hP2:0 < 2 ^ (F+1):=Nat.pow_pos (by decide)
 have he2:2 * e < valS t:=Nat.lt_of_le_of_lt (Nat.le_mul_of_pos_right _ hP2) a8
 obtain ⟨f,R,S',hQ,hR,hS,hc⟩:=dx_ratio s (K:=100000) a1 (by omega) (by decide)
 rw [a5] at hQ
 have hSp:=hQ.pos
 have h1:=hQ.rat
 have hx0:=dq_cross (by omega) (by omega) h1 hrat
 have hR0:0 < R:=by
  rcases Nat.eq_zero_or_pos R with h9|h9
  ·rw [h9,Nat.zero_mul,Nat.zero_mul] at hx0
   have:=Nat.mul_pos (Nat.mul_pos hva (show 0 < D by omega)) hSp
   omega
  ·exact h9
 obtain ⟨c1,hc1⟩:∃ c,c = 1076:=⟨_,rfl⟩
 obtain ⟨c2,hc2⟩:∃ c,c = 1302:=⟨_,rfl⟩
 have hb1:S'≤R * 2 ^ c1:=by
  have k1:va * D * S' * 2 ^ G = R * valS t * (1 * 2 ^ j) * 2 ^ G:=by rw [hx0]
  have k2:=hq.eq
  have k3:pv F r * D * S' * (1 * 2 ^ j) = R * valS t * 2 ^ G * (1 * 2 ^ j):=by
   calc pv F r * D * S' * (1 * 2 ^ j) = pv F r * (1 * 2 ^ j) * (D * S'):=by grind
    _ = va * 2 ^ G * (D * S'):=by rw [k2]
    _ = va * D * S' * 2 ^ G:=by grind
    _ = R * valS t * 2 ^ G * (1 * 2 ^ j):=by rw [k1]; grind
  have k4:=Nat.eq_of_mul_eq_mul_right hda k3
  have k5:D * S'≤pv F r * D * S':=by rw [Nat.mul_assoc]; exact Nat.le_mul_of_pos_left _ hpv
  have k6:R * valS t * 2 ^ G≤R * (2 * D) * 2 ^ G:=Nat.mul_le_mul_right _ (Nat.mul_le_mul_left _ (by omega))
  have k7:S' * D≤R * 2 ^ (G+1) * D:=by
   rw [Nat.pow_succ]
   calc S' * D = D * S':=Nat.mul_comm ..
    _≤R * (2 * D) * 2 ^ G:=by omega
    _ = R * (2 ^ G * 2) * D:=by grind
  have k8:=Nat.le_of_mul_le_mul_right k7 (show 0 < D by omega)
  exact Nat.le_trans k8 (Nat.mul_le_mul_left _ (Nat.pow_le_pow_right (by decide) (by omega)))
 have hb2:R≤S' * 2 ^ c2:=by
  have k1:R * valS t≤va * (2 * valS t) * S':=by
   have k2:R * valS t * 1≤R * valS t * (1 * 2 ^ j):=Nat.mul_le_mul_left _ (by omega)
   have k3:va * D * S'≤va * (2 * valS t) * S':=Nat.mul_le_mul_right _ (Nat.mul_le_mul_left _ (by omega))
   omega
  have k4:R * valS t≤2 * va * S' * valS t:=by
   calc R * valS t≤va * (2 * valS t) * S':=k1
    _ = 2 * va * S' * valS t:=by grind
  have k5:=Nat.le_of_mul_le_mul_right k4 hN
  have k6:2 * va≤2 ^ (wqA+1):=by have:=hq.bv; rw [Nat.pow_succ]; omega
  have hA:wqA = 1300:=rfl
  calc R≤2 * va * S':=k5
   _≤2 ^ (wqA+1) * S':=Nat.mul_le_mul_right _ k6
   _≤2 ^ c2 * S':=Nat.mul_le_mul_right _ (Nat.pow_le_pow_right (by decide) (by omega))
   _ = S' * 2 ^ c2:=Nat.mul_comm ..
 obtain ⟨M,K,X,r0,ρ,w,hP,hr2⟩:=rats_all h hB hG hR0 hSp hQ.co (bl_le (bl_blen R) hR) (bl_le (bl_blen S') hS) (by have:=blen_le hb1; omega) (by have:=blen_le hb2; omega)
 have hnear:=near_float hP hSp hq h1 hrat a6 a7 a8 (S:=S) hr
 intro W hT
 obtain rfl:f = s:=dq_sign (by omega) hR0 hSp h1
 have:=dback_is W E F _ _ R S' f f s2 x2 hT (hide hc) (hide fun W a n c b k l hT g1 g2=>hr2 0 f f a n c b k l W (by decide) hT g1 g2)
 rw [hnear f] at this
 exact this
theorem back_zero {E F S I:Nat} (h:Fm E F S I) (s:Bool) {t:ByteArray} {y:Int} (hD:DcOk t y) (hv:valS t = 0) :
  t.size = 0∧(∀ (n:Nat) (W:World),1≤n→n≤2000→Calls Tryz.prog 17 #[.agg #[.bool s,.string t,.int .i64 y],.int .i64 (n:Int),.int .u8 0] W fun e W'=>e = .returned (.tuple #[.agg #[.bool s,.string t,.int .i64 y],.bool true,.int .i64 0])∧Below W.heap.size W W') ∧
   ∀ W:World,Tb W→Calls Tryz.prog 21 #[.agg #[.int .i64 (E:Int),.int .i64 (F:Int)],.agg #[.bool s,.string t,.int .i64 y]] W fun e W'=>e = .returned (.tuple #[.int .u64 (((if s then S else 0)+0:Nat):Int),.bool true])∧Below W.heap.size W W':=by
 have h0:t.size = 0:=by
  rcases Nat.eq_zero_or_pos t.size with h9|h9
  ·exact h9
  ·have h8:=(dx_low hD (by omega)).1
   have:=Nat.pow_pos (n:=t.size - 1) (show 0 < 10 by decide)
   omega
 have hy:=hD.zero h0
 refine ⟨h0,fun n W h1 h2=>?_,fun W hT=>?_⟩
 ·rcases round_num s t y n 0 hD h1 h2 (by decide) (hD.chk s) with ⟨_,h4⟩|⟨c,_,_,_,_,_,_,_,h5,h6,_⟩
  ·exact h4 W
  ·omega
 ·obtain ⟨f,R,S',hQ,_,_,hc⟩:=dx_ratio s (K:=100000) hD (by omega) (by decide)
  rw [hv,dq_zero] at hQ
  obtain rfl:false = f:=hQ.neg
  obtain rfl:0 = R:=hQ.abs
  obtain rfl:1 = S':=hQ.den
  have:=dback_is W E F ((if s then S else 0:Nat):Int) ((0:Nat):Int) 0 1 false s t y hT (hide hc) (hide fun W a n c b k l hT g1 g2=>zero_r h (by decide) s a b n c k l W hT g1 g2)
  rw [Nat.add_zero]
  exact this
theorem least_ten (T:Nat) (h1:1≤T) (h2:T < 18446744073709551616):∃ q,q≤20∧T < 10 ^ q∧∀ j,j < q→10 ^ j≤T:=by
 refine ⟨Lib.nDigits T,Lib.nDigits_le20 T h2,Lib.lt_pow_nDigits T,fun j hj=>?_⟩
 rcases Nat.lt_or_ge T 10 with h9|h9
 ·rw [Lib.nDigits_small h9] at hj
  obtain rfl:j = 0:=by omega
  simpa using h1
 ·obtain ⟨k,hk⟩:∃ k,Lib.nDigits T = k+1:=⟨Lib.nDigits T - 1,by omega⟩
  exact Nat.le_trans (Nat.pow_le_pow_right (by decide) (by omega)) (dg_low k T hk h9)
theorem form_value (E F:Int):(NoFo E F∧∀ W:World,Calls Tryz.prog 45 #[.agg #[.int .i64 E,.int .i64 F]] W fun e W'=>e = .returned (.int .i64 5)∧Below W.heap.size W W') ∨
  ∃ E' F':Nat,E = (E':Int)∧F = (F':Int)∧Fo E' F'∧∀ W:World,Calls Tryz.prog 45 #[.agg #[.int .i64 (E':Int),.int .i64 (F':Int)]] W fun e W'=>e = .returned (.int .i64 0)∧Below W.heap.size W W':=by
 rcases fo_cases5 E F with hb|⟨E',F',rfl,rfl,h0⟩
 ·exact Or.inl ⟨hb,fun W=>dchf_is W E F 5 (hide fun W=>Value_form E F hb 0 W)⟩
 ·refine Or.inr ⟨E',F',rfl,rfl,h0,fun W=>dchf_is W E' F' 0 (hide fun W=>?_)⟩
  have hB:Bt E' F' 0 false 0 0:=⟨Nat.pow_pos (by decide),Nat.pow_pos (by decide),by simp⟩
  exact Value_zero E' F' (2 ^ (E' - 1) - 1) 0 false W h0 (hide rfl) hB
theorem enough_any {E F:Nat} (h0:Fo E F) (hC:∀ W:World,Calls Tryz.prog 45 #[.agg #[.int .i64 (E:Int),.int .i64 (F:Int)]] W fun e W'=>e = .returned (.int .i64 0)∧Below W.heap.size W W') :
  ∃ n:Nat,1≤n∧n≤60∧2 ^ (F+1) < 10 ^ (n - 1)∧∀ W:World,Calls Tryz.prog 19 #[.agg #[.int .i64 (E:Int),.int .i64 (F:Int)]] W fun e W'=>e = .returned (.tuple #[.int .i64 (n:Int),.int .i64 0])∧Below W.heap.size W W':=by
 have hF:=h0.f52
 have hT:2 ^ (F+1)≤2 ^ 53:=Nat.pow_le_pow_right (by decide) (by omega)
 have hT1:1≤2 ^ (F+1):=Nat.pow_pos (by decide)
 obtain ⟨q,hq,h1,h2⟩:=least_ten (2 ^ (F+1)) hT1 (by omega)
 refine ⟨q+1,by omega,by omega,by rw [Nat.add_sub_cancel]; exact h1,fun W=>?_⟩
 have:=den_ok W E F q (2 ^ (F+1)) (fun j=>10 ^ j) hF rfl (fun j _=>Nat.pow_succ ..) h2 h1 (by omega) (by omega) (by
  rw [show min ((F:Int)+1).toNat 64 = F+1 by omega,Int.one_mul,IntKind.wrap_u64]
  have e1:((2:Int) ^ (F+1)) = ((2 ^ (F+1):Nat):Int):=by simp
  rw [e1]
  omega) (hide hC)
 rw [Nat.sub_zero] at this
 exact this
theorem class_cases {E F:Nat} (h0:Fo E F) (b:Nat) :
  (∃ cl er:Int,(er≠0∨er = 0∧4≤cl)∧∀ W:World,Calls Tryz.prog 20 #[.agg #[.int .i64 (E:Int),.int .i64 (F:Int)],.int .u64 (b:Int)] W fun e w'=>e = .returned (.tuple #[.int .u8 cl,.int .i64 er])∧Below W.heap.size W w') ∨
  ∃ (S I:Nat) (s:Bool) (r:Nat) (cl:Int),Fm E F S I∧b = (if s then S else 0)+r∧r < I∧cl < 4∧∀ W:World,Calls Tryz.prog 20 #[.agg #[.int .i64 (E:Int),.int .i64 (F:Int)],.int .u64 (b:Int)] W fun e w'=>e = .returned (.tuple #[.int .u8 cl,.int .i64 0])∧Below W.heap.size W w':=by
 by_cases hm:2 ^ (F+E+1)≤b
 ·exact Or.inl ⟨0,6,Or.inl (by decide),fun W=>Class_many E F b h0 hm W⟩
 have hB:=Bt.of E F b (Nat.lt_of_not_le hm)
 generalize decide (b / 2 ^ (F+E) = 1) = s at hB
 generalize b % 2 ^ (F+E) / 2 ^ F = ex at hB
 generalize b % 2 ^ F = fr at hB
 have hE4:2 ^ 2≤2 ^ E:=Nat.pow_le_pow_right (by omega) h0.e2
 have hC:=fun W:World=>Class_ok E F b ex fr s h0 hB (2 ^ E - 1) (hide rfl) W
 by_cases hx:ex+1 = 2 ^ E
 ·refine Or.inl ⟨_,0,Or.inr ⟨rfl,?_⟩,hC⟩
  unfold cls
  rw [if_neg (by omega),if_neg (by omega),if_neg (by omega)]
  split <;> decide
 refine Or.inr ⟨2 ^ (F+E),(2 ^ E - 1) * 2 ^ F,s,ex * 2 ^ F+fr,_,⟨h0,rfl,rfl⟩,?_,?_,?_,hC⟩
 ·rw [hB.eq]
  cases s
  ·rw [if_neg (by decide)]; simp
  ·rw [if_pos rfl]; simp
 ·have h1:=hB.ex_lt
  have h2:=hB.fr_lt
  have h3:(ex+1) * 2 ^ F≤(2 ^ E - 1) * 2 ^ F:=Nat.mul_le_mul_right _ (by omega)
  rw [Nat.add_mul,Nat.one_mul] at h3
  omega
 ·have h1:=hB.ex_lt
  unfold cls
  split
  ·decide
  ·split
   ·decide
   ·rw [if_pos (by omega)]; decide
theorem mod_40 (mo:Int):∃ k:Nat,k < 40∧Int.tmod (IntKind.i64.wrap (Int.tmod mo 40+40)) 40 = (k:Int):=by
 have h1:-40 < Int.tmod mo 40∧Int.tmod mo 40 < 40:=by
  rcases Int.le_total 0 mo with h|h
  ·rw [Int.tmod_eq_emod_of_nonneg h]; omega
  ·obtain ⟨m,rfl⟩:∃ m:Int,mo = -m:=⟨-mo,by omega⟩
   rw [Int.neg_tmod,Int.tmod_eq_emod_of_nonneg (by omega)]; omega
 rw [wr64 (by omega) (by omega),Int.tmod_eq_emod_of_nonneg (by omega)]
 exact ⟨((Int.tmod mo 40+40) % 40).toNat,by omega,by omega⟩
theorem digitsEnough_any (E F:Int) (b:Nat) (mo:Int) (w:World) (htp:Tpw w) (hT:Tb w) :
  Calls Tryz.prog 5 #[.agg #[.int .i64 E,.int .i64 F],.int .u64 (b:Int),.int .i64 mo] w fun e w'=>e = .returned (.bool true)∧Below w.heap.size w w':=by
 have HL:=hide dgalive_any
 rcases form_value E F with ⟨hb,hC⟩|⟨E,F,rfl,rfl,h0,hC⟩
 ·exact denl_1 w E F b mo 5 0 5 (by decide) hT htp HL (hide fun W=>den_e W E F 5 (by decide) (hide hC)) (hide fun W=>Class_bad E F hb b W)
 obtain ⟨n,n1,n2,n3,hE⟩:=enough_any h0 hC
 rcases class_cases h0 b with ⟨cl,er,hc,hCl⟩|⟨S,I,s,r,cl,h,rfl,hr,hc,hCl⟩
 ·rcases hc with hc|⟨rfl,hc⟩
  ·exact denl_2 w E F b mo n er cl hc hT htp HL (hide hE) (hide hCl)
  ·exact denl_3 w E F b mo n cl hc hT htp HL (hide hE) (hide hCl)
 obtain ⟨B,hB⟩:∃ B,B = 2 ^ (E - 1) - 1:=⟨_,rfl⟩
 have hF1:=h.fo.f1
 obtain ⟨G,hG⟩:∃ G:Nat,(G:Int) = (B:Int)+(F:Int) - 1:=⟨B+F - 1,by omega⟩
 obtain ⟨sa,m,x,i,j,t,y,hV,hO,hi,hj,hq,hD,hw,h1,h2,h3,hA⟩:=dall_fin h hB hG s hr
 have HA:=hide hA
 obtain ⟨k,hk,hk2⟩:=mod_40 mo
 have key:∀ n':Nat,n≤n'→n'≤2000→∃ (s2:ByteArray) (x2:Int) (i2:Bool),s2.size≤n' ∧
   (∀ W:World,Calls Tryz.prog 17 #[.agg #[.bool s,.string t,.int .i64 y],.int .i64 (n':Int),.int .u8 0] W fun e W'=>e = .returned (.tuple #[.agg #[.bool s,.string s2,.int .i64 x2],.bool i2,.int .i64 0])∧Below W.heap.size W W') ∧
   ∀ W:World,Tb W→Calls Tryz.prog 21 #[.agg #[.int .i64 (E:Int),.int .i64 (F:Int)],.agg #[.bool s,.string s2,.int .i64 x2]] W fun e W'=>e = .returned (.tuple #[.int .u64 (((if s then S else 0)+r:Nat):Int),.bool true])∧Below W.heap.size W W':=fun n' c1 c2=>by
  rcases Nat.eq_zero_or_pos r with rfl|hr0
  ·have hv:valS t = 0:=by
    rcases Nat.eq_zero_or_pos (valS t) with h9|h9
    ·exact h9
    ·have h8:=hq.eq
     rw [pv_zero,Nat.zero_mul] at h8
     have h7:m * 2 ^ i = 0:=by
      rcases Nat.mul_eq_zero.1 h8 with h7|h7
      ·exact h7
      ·have:=Nat.pow_pos (n:=G) (show 0 < 2 by decide); omega
     rw [h7,Nat.zero_mul,dq_zero] at hw
     exact absurd hw (dq_nz s y (by omega))
   obtain ⟨z1,z2,z3⟩:=back_zero h s hD hv
   exact ⟨t,y,true,by omega,fun W=>z2 n' W (by omega) c2,z3⟩
  ·exact back_num h hB hG s hr hr0 hq hD hw (by omega) (by omega) n' (by omega) c2 (Nat.lt_of_lt_of_le n3 (Nat.pow_le_pow_right (by decide) (by omega)))
 obtain ⟨s4,x4,i4,a1,a2,a3⟩:=key n (Nat.le_refl _) (by omega)
 obtain ⟨s5,x5,i5,b1,b2,b3⟩:=key (n+k) (by omega) (by omega)
 refine denl_4 w E F _ mo cl n k s s i4 i5 s4 s5 x4 x5 hc (by omega) hk2 hk a1 hT htp HL (hide hE) (hide hCl) (hide fun W hT htp=>dsome_ok W E F _ n 0 s s i4 t s4 y x4 0 hT htp HA (hide a2)) (hide fun W hT htp=>?_) (hide a3) (hide b3)
 exact dsome_ok W E F _ _ 0 s s i5 t s5 y x5 0 hT htp HA (hide b2)
end Go.Proofs.YteafdlblemdclaaGreatDoor
