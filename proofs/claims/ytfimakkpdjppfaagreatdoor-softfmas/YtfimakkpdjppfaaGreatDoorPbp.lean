/- Of what SoftFmasRow stands on: SrAny SrRound. -/
import Derived.Test.YtfimakkpdjppfaaGreatDoorPbn
import Derived.Test.YtfimakkpdjppfaaGreatDoorPbo
import Derived.Test.YtfimakkpdjppfaaGreatDoorPbf
import Derived.Test.YtfimakkpdjppfaaGreatDoorPbh
import Derived.Test.YtfimakkpdjppfaaGreatDoorPaf
import Derived.Test.YtfimakkpdjppfaaGreatDoorPaw
namespace Go.Proofs.YtfimakkpdjppfaaGreatDoor
open Go.RowKit
set_option maxHeartbeats 4000000
theorem ahf_cmp {m e:Nat} (hm:m % 2 = 1):cmpI (m % 2 ^ (e+1)) (2 ^ e) = ahf m (e+1):=by
 unfold cmpI ahf
 rw [Nat.add_sub_cancel]
 have h1:=Nat.mod_pow_succ (x:=m) (b:=2) (k:=e)
 have h2:=Nat.mod_lt m (pow_pos2 e)
 rcases Nat.mod_two_eq_zero_or_one (m / 2 ^ e) with hb|hb
 ·rw [hb] at h1
  simp only [Nat.mul_zero,Nat.add_zero] at h1
  rw [h1,if_pos h2,if_neg (by omega)]
 ·rw [hb] at h1
  simp only [Nat.mul_one] at h1
  rw [h1,if_neg (by omega),if_pos hb]
  by_cases he:e = 0
  ·subst he
   rw [if_pos (by simp [Nat.mod_one]),if_pos rfl]
  ·have h3:m % 2 ^ e % 2 = 1:=by
    obtain ⟨j,rfl⟩:∃ j,e = j+1:=⟨e - 1,by omega⟩
    rw [Nat.mod_mod_of_dvd _ ⟨2 ^ j,by rw [Nat.pow_succ,Nat.mul_comm]⟩]
    exact hm
   rw [if_neg (by omega),if_neg (by omega)]
theorem rcut_dy (s:Bool) (a:Option Addr) (n cap m:Nat) (x t:Int) (w:World) (_h:Num w a n m) (hm:m % 2 = 1) (hx:-1000000000≤x∧x≤1000000000) (ht:-1000000000≤t∧t - x≤524288) (hup:t≤x→m * 2 ^ (x - t).toNat < 2 ^ 64) :
  ∃ q c l,(∀ W:World,Num W a n m→Calls Tryz.prog 81 #[.agg #[.bool s,.slice a n cap,.int .i64 x,.bool false],.int .i64 (t - x)] W fun e w'=>(∃ A N C,e = .returned (.tuple #[.agg #[.slice A N C],.int .i64 c,.bool l])∧Mine w' W.heap.size A N C q)∧Below W.heap.size W w')∧l = decide (x < t)∧(c = -1∨c = 0∨c = 1) ∧
   ∀ md:Nat,cutR md s m x t = q+(if hgr md s (decide (q / 2 ^ 0 % 2 = 1)) c l then 1 else 0):=by
 by_cases hxt:t≤x
 ·obtain ⟨d,hd⟩:∃ d:Nat,x - t = (d:Int):=⟨(x - t).toNat,by omega⟩
  have hdn:(x - t).toNat = d:=by omega
  have hu:=hup hxt
  rw [hdn] at hu
  refine ⟨m * 2 ^ d,-1,false,fun W g=>?_,(decide_eq_false (by omega)).symm,Or.inl rfl,fun md=>?_⟩
  ·rw [show t - x = -(d:Int) from by omega]
   exact rcut_up s a n cap m x false d _ W g (by omega) (hide fun W g=>rup_in (not_over hu (by decide)) (by omega) W a n cap g)
  ·unfold cutR
   rw [if_pos hxt,hdn,if_neg,Nat.add_zero]
   unfold hgr
   split <;> simp
 ·obtain ⟨e,he⟩:∃ e:Nat,t - x = ((e+1:Nat):Int):=⟨(t - x - 1).toNat,by omega⟩
  have hdn:(t - x).toNat = e+1:=by omega
  have hmod:=Nat.div_add_mod m (2 ^ (e+1))
  have hp:=pow_pos2 (e+1)
  have hr0:0 < m % 2 ^ (e+1):=by
   have:m % 2 ^ (e+1) % 2 = 1:=by
    rw [Nat.mod_mod_of_dvd _ ⟨2 ^ e,by rw [Nat.pow_succ,Nat.mul_comm]⟩]
    exact hm
   omega
  have hc:=ahf_cmp (e:=e) hm
  have h3:=ahf_three m (e+1)
  rw [← hc] at h3
  refine ⟨m / 2 ^ (e+1),cmpI (m % 2 ^ (e+1)) (2 ^ e),true,fun W g=>?_,(decide_eq_true (by omega)).symm,h3,fun md=>?_⟩
  ·rw [he]
   have hq:m / 2 ^ (e+1) * 2 ^ (e+1)≤m:=Nat.div_mul_le_self _ _
   have hno:¬ Over (m / 2 ^ (e+1) * 2 ^ (e+1)):=fun o=>Num.not_over g ⟨Nat.le_trans o.le hq⟩
   have hsub:m - m / 2 ^ (e+1) * 2 ^ (e+1) = m % 2 ^ (e+1):=by rw [Nat.mul_comm]; omega
   have hhf:¬ Over (1 * 2 ^ e):=not_over (n:=e+1) (by rw [Nat.one_mul]; exact Nat.pow_lt_pow_right (by decide) (by omega)) (by omega)
   have HD:Hid (∀ (W:World),Num W a n m→Calls Tryz.prog 44 #[.agg #[.slice a n cap],.int .i64 ((e+1:Nat):Int)] W fun e' w'=>(∃ A N C,e' = .returned (.tuple #[.agg #[.slice A N C],.int .i64 0])∧Mine w' W.heap.size A N C (m / 2 ^ (e+1)))∧Below W.heap.size W w'):=hide fun W g=>rdown_any a n cap m (e+1) W g (by omega)
   have HU:=hide (fun (W:World) (A0:Option Addr) (N0 C0:Nat) (g:Num W A0 N0 (m / 2 ^ (e+1)))=>rup_in hno (show e+1 < 9223372036854775808 by omega) W A0 N0 C0 g)
   have HS:=hide (fun (W:World) (A0:Option Addr) (N0 C0:Nat) (g:Num W a n m) (g':Num W A0 N0 (m / 2 ^ (e+1) * 2 ^ (e+1)))=>rsub_fit hq W a n cap A0 N0 C0 g g')
   rw [hsub] at HS
   have HH:=hide (fun (W:World) (A0:Option Addr) (N0 C0:Nat) (g:Num W A0 N0 1)=>rup_in hhf (show e < 9223372036854775808 by omega) W A0 N0 C0 g)
   rw [Nat.one_mul] at HH
   have HC:=hide (fun (W:World) (A:Option Addr) (N C:Nat) (A':Option Addr) (N' C':Nat) (g:Num W A N (m % 2 ^ (e+1))) (g':Num W A' N' (2 ^ e))=>rcmpApi_any A A' N N' C C' _ _ W g g')
   by_cases h0:cmpI (m % 2 ^ (e+1)) (2 ^ e) = 0
   ·rw [h0] at HC ⊢
    exact rcut_f0 s a n cap m x (e+1) e _ _ _ _ true W g (by omega) (by omega) (by omega) HD HU HS HH HC (decide_eq_true hr0)
   ·exact rcut_fc s a n cap m x (e+1) e _ _ _ _ _ true W g (by omega) (by omega) (by omega) HD HU HS HH HC (by simpa using h0) (decide_eq_true hr0)
  ·unfold cutR
   rw [if_neg hxt,hdn]
   unfold cutN
   rw [hc,Nat.pow_zero,Nat.div_one,show fth md s (decide (m / 2 ^ (e+1) % 2 = 1)) (ahf m (e+1)) = hgr md s (decide (m / 2 ^ (e+1) % 2 = 1)) (ahf m (e+1)) true from by unfold fth hgr; split <;> simp]
theorem rrounded_dy (s:Bool) (a:Option Addr) (n cap m md:Nat) (x t:Int) (w:World) (h:Num w a n m) (hmd:md≤4) (hm:m % 2 = 1) (hx:-1000000000≤x∧x≤1000000000) (ht:-1000000000≤t∧t - x≤524288) (hup:t≤x→m * 2 ^ (x - t).toNat < 2 ^ 64) (hR:cutR md s m x t < 2 ^ 64) :
  Calls Tryz.prog 69 #[.agg #[.bool s,.slice a n cap,.int .i64 x,.bool false],.int .i64 t,.int .u8 (md:Int)] w fun e w'=>(∃ A N C,e = .returned (.tuple #[.agg #[.slice A N C],.bool (decide (x < t))])∧Mine w' w.heap.size A N C (cutR md s m x t))∧Below w.heap.size w w':=by
 obtain ⟨q,c,l,HC,hl,hc,hr⟩:=rcut_dy s a n cap m x t w h hm hx ht hup
 have HH:=higher_any md s (decide (q / 2 ^ 0 % 2 = 1)) c l hmd hc
 rw [hr md,← hl]
 rw [hr md] at hR
 cases hg:hgr md s (decide (q / 2 ^ 0 % 2 = 1)) c l with
 | false=>
  rw [hg] at HH hR
  exact rrounded_f s a n cap m x false t (t - x) md q c l _ w h rfl (by omega) (by omega) (by omega) (by omega) (hide HC) (hide rfl) (hide HH)
 | true=>
  rw [hg] at HH hR
  exact rrounded_t s a n cap m x false t (t - x) md q c l _ w h rfl (by omega) (by omega) (by omega) (by omega) (hide HC) (hide rfl) (hide HH) (hide fun W A N C A' N' C' g g'=>radd_fit (not_over (n:=64) hR (by decide)) W A N C A' N' C' g g')
theorem rBits_wo (E F B b ex fr:Nat) (s:Bool) (M z:Nat) (xe:Int) (a:Option Addr) (n cap:Nat) (w:World) (h0:Fo E F) (HB:Hid (B = 2 ^ (E - 1) - 1)) (hB:Bt E F b s ex fr) (hW:Wo E F B ex fr M z xe) (h:Num w a n (M / 2 ^ z)) :
  Calls Tryz.prog 71 #[.agg #[.int .i64 E,.int .i64 F],.agg #[.bool s,.slice a n cap,.int .i64 (xe+(z:Int))]] w fun e w'=>e = .returned (.tuple #[.int .u64 b,.bool true,.int .i64 0])∧Below w.heap.size w w':=by
 have hr:=hW.range h0 HB
 have hz:=hW.zle
 have hF:=h0.f52
 have hlt:=hW.lt
 have hp:=pow_bound (show F+1≤53 by omega)
 have hpF:=pow_bound (show F≤52 from hF)
 have e52:(2:Nat) ^ 52 = 4503599627370496:=by decide
 obtain ⟨ho,hm⟩:=hW.odd
 obtain ⟨k,hk⟩:=bl_ex (M / 2 ^ z)
 obtain ⟨hk0,hka,hkb⟩:=hW.bits hk
 have hn0:0 < n:=by have:=h.zero; omega
 have hn2:n≤2:=by
  obtain ⟨xs,hl,_,hw,hN,hv,_⟩:=h
  rw [← hl]
  refine pow_limbs hw hN ?_
  rw [hv]
  exact Nat.lt_of_le_of_lt (Nat.div_le_self _ _) (by omega)
 have eN:IntKind.u64.wrap (((M / 2 ^ z:Nat):Int) * 2 ^ z) = (M:Int):=by
  have:=shl_u64 (M / 2 ^ z) z (by rw [hm]; omega)
  rw [hm] at this
  exact this
 have eF:IntKind.u64.wrap (2 ^ F) = ((2 ^ F:Nat):Int):=wrap_pow (by omega)
 have h63:=h0.sum
 have eS:IntKind.u64.wrap (2 ^ (E+F)) = ((2 ^ (F+E):Nat):Int):=by rw [nwrap_pow _ (by omega),Nat.add_comm]
 have hfr:=hW.frl
 have hE:=pow_bound h0.e11
 have hfin:=hW.fin
 have hb64:=hB.u64 h0
 have heq:=hB.eq
 have hX:ex * 2 ^ F < 18446744073709551616:=by
  have:=Nat.mul_le_mul (show ex≤2048 by omega) hpF
  omega
 have hfx:fr+ex * 2 ^ F < 18446744073709551616:=by omega
 have eX:IntKind.u64.wrap ((ex:Int) * 2 ^ F) = ((ex * 2 ^ F:Nat):Int):=shl_u64 ex F hX
 rcases hW.part with ⟨h1,h2,h3,h4⟩|⟨h1,h2,h3⟩
 ·have:=hka h1
  subst h1
  rw [Nat.zero_mul] at heq
  cases s with
  | false=>
   have:=rBits_lo_L_false E F B h0 HB a n cap _ k (xe+(z:Int)) xe (xe+(z:Int)+(k:Int) - 1 - (F:Int)) z M (2 ^ F) w h hn0 ho (by omega) hk (by omega) hk0 h4.symm rfl (by omega) (by omega) (by omega) (by omega) (by omega) eN hn2 eF (by omega) (by omega)
   rw [show b = M from by simp at heq; omega]
   exact this
  | true=>
   exact rBits_lo_L_true E F B h0 HB a n cap _ k (xe+(z:Int)) xe (xe+(z:Int)+(k:Int) - 1 - (F:Int)) z M (2 ^ F) (2 ^ (F+E)) b w h hn0 ho (by omega) hk (by omega) hk0 h4.symm rfl (by omega) (by omega) (by omega) (by omega) (by omega) eN hn2 eF (by omega) eS hb64 (by simp at heq; omega) (by omega)
 ·have:=hkb h1
  cases s with
  | false=>
   have:=rBits_hi_t0_false E F B h0 HB a n cap _ k (xe+(z:Int)) (1 - (B:Int) - (F:Int)) xe z M (2 ^ F) fr ex (ex * 2 ^ F) w h hn0 ho (by omega) hk (by omega) hk0 rfl (by omega) (by omega) (by omega) (by omega) (by omega) (by omega) (by omega) eN hn2 eF (by omega) (by omega) (by omega) (by omega) eX hX hfx (by omega)
   rw [show (b:Int) = (fr:Int)+((ex * 2 ^ F:Nat):Int) from by simp at heq; omega]
   exact this
  | true=>
   exact rBits_hi_t0_true E F B h0 HB a n cap _ k (xe+(z:Int)) (1 - (B:Int) - (F:Int)) xe z M (2 ^ F) fr ex (ex * 2 ^ F) (2 ^ (F+E)) b w h hn0 ho (by omega) hk (by omega) hk0 rfl (by omega) (by omega) (by omega) (by omega) (by omega) (by omega) (by omega) eN hn2 eF (by omega) (by omega) (by omega) (by omega) eX hX hfx eS hb64 (by simp at heq; omega) (by omega)
theorem rput_row {E F S I B q:Nat} (h:Fm E F S I) (hB:B = 2 ^ (E - 1) - 1) (s:Bool) (t L:Int) (hL:1 - (B:Int) - (F:Int) = L) (hq0:0 < q) (hq:q≤2 ^ (F+1)) (hlo:t = L∨(L < t∧2 ^ F≤q)) (hrow:(t - L).toNat * 2 ^ F+q < I) :
  ∃ (r:Bool) (v:Nat) (y:Int),(∀ (W:World) (A:Option Addr) (N C:Nat),Num W A N q→Calls Tryz.prog 72 #[.bool s,.agg #[.slice A N C],.int .i64 t] W fun e w'=>(∃ A N C,e = .returned (.agg #[.bool r,.slice A N C,.int .i64 y])∧Mine w' W.heap.size A N C v)∧Below W.heap.size W w') ∧
   (∀ (W:World) (A:Option Addr) (N C:Nat),Num W A N v→Calls Tryz.prog 71 #[.agg #[.int .i64 E,.int .i64 F],.agg #[.bool r,.slice A N C,.int .i64 y]] W fun e w'=>e = .returned (.tuple #[.int .u64 (((if s then S else 0)+((t - L).toNat * 2 ^ F+q):Nat):Int),.bool true,.int .i64 0])∧Below W.heap.size W w'):=by
 have h0:=h.fo
 have hBi:=hide hB
 obtain ⟨b2,b1⟩:=bias2 h0.e2 hB
 have hBl:=B_le h0 hBi
 have hF:=h0.f52
 have hI:I = (2 * B+1) * 2 ^ F:=by rw [b2]; exact h.hI
 have p0:=pow_pos2 F
 have p1:2 ^ (F+1) = 2 * 2 ^ F:=by rw [Nat.pow_succ,Nat.mul_comm]
 obtain ⟨st,hst⟩:∃ st,(t - L).toNat = st:=⟨_,rfl⟩
 rw [hst] at hrow ⊢
 have hts:t = L+(st:Int):=by omega
 obtain ⟨zq,hzq,hzl⟩:=tz_ex hq0 (show q < 2 ^ (F+2) by rw [show F+2 = F+1+1 from rfl,Nat.pow_succ]; omega)
 have hstB:st * 2 ^ F < (2 * B+1) * 2 ^ F:=by omega
 have hst2:st < 2 * B+1:=Nat.lt_of_mul_lt_mul_right hstB
 have key:∃ ex fr M z:Nat,∃ xe:Int,Wo E F B ex fr M z xe∧ex * 2 ^ F+fr = st * 2 ^ F+q∧M / 2 ^ z = q / 2 ^ zq∧xe+(z:Int) = t+(zq:Int):=by
  have hE2:2 ^ E = 2 * B+2:=by have:=pow_pos2 E; omega
  by_cases c1:q < 2 ^ F
  ·have hz0:st = 0:=by rcases hlo with h|h <;> omega
   subst hz0
   refine ⟨0,q,q,zq,L,⟨hzq,Or.inl ⟨rfl,rfl,hq0,hL.symm⟩,by omega,c1⟩,rfl,rfl,by omega⟩
  ·by_cases c2:q < 2 ^ (F+1)
   ·have hex:st+1 < 2 * B+1:=by
     have:(st+1) * 2 ^ F≤st * 2 ^ F+q:=by rw [Nat.add_mul]; omega
     exact Nat.lt_of_mul_lt_mul_right (a:=2 ^ F) (by omega)
    refine ⟨st+1,q - 2 ^ F,q,zq,t,⟨hzq,Or.inr ⟨by omega,by omega,by omega⟩,by omega,by omega⟩,by rw [Nat.add_mul]; omega,rfl,rfl⟩
   ·have hqe:q = 2 ^ (F+1):=by omega
    have hex:st+2 < 2 * B+1:=by
     have:(st+2) * 2 ^ F≤st * 2 ^ F+q:=by rw [Nat.add_mul]; omega
     exact Nat.lt_of_mul_lt_mul_right (a:=2 ^ F) (by omega)
    have hz1:zq = F+1:=by
     have h1:Tz q (F+1):=by rw [hqe]; exact ⟨0,by simp⟩
     exact hzq.uniq h1
    refine ⟨st+2,0,2 ^ F,F,t+1,⟨⟨0,by simp⟩,Or.inr ⟨by omega,by omega,by omega⟩,by omega,p0⟩,by rw [Nat.add_mul]; omega,?_,by omega⟩
    rw [hz1,hqe,Nat.div_self p0,Nat.div_self (pow_pos2 _)]
 obtain ⟨ex,fr,M,z,xe,hW,hsum,hv,hy⟩:=key
 have hzr:=hW.range h0 hBi
 have hzle:=hW.zle
 refine ⟨s,q / 2 ^ zq,t+(zq:Int),fun W A N C g=>rdyadic7 s A N C q t s _ _ W g (hide fun W A N C g=>rmake_ok s A N C q zq t W g hq0 hzq (by omega) (by omega) (by omega) (by omega)),fun W A N C g=>?_⟩
 rw [← hv] at g
 rw [← hy]
 refine rBits_wo E F B _ ex fr s M z xe A N C W h0 hBi ⟨hW.frl,by have:=hW.fin; omega,?_⟩ hW g
 rw [← h.hS]
 cases s <;> simp <;> omega
theorem xinf_T {E F S I:Nat} (h:Fm E F S I) (s:Bool):Tel 14 #[.agg #[.int .i64 E,.int .i64 F],.bool s] (.int .u64 (infS S I s:Int)):=fun W=>by
 have h0:=h.fo
 have hpE:=pow_pos2 E
 have hE:=pow_bound h0.e11
 have htop:=h.top
 have h63:=h.s63
 have p0:=pow_pos2 F
 have e6:IntKind.u64.wrap ((2:Int) ^ E) = ((2 ^ E:Nat):Int):=wrap_pow (by have:=h0.e11; omega)
 have e7:IntKind.u64.wrap (((2 ^ E:Nat):Int) - 1) = ((2 ^ E - 1:Nat):Int):=by rw [IntKind.wrap_u64]; omega
 have e11:IntKind.u64.wrap (((2 ^ E - 1:Nat):Int) * 2 ^ F) = (I:Int):=by rw [shl_u64 _ _ (by rw [← h.hI]; omega),← h.hI]
 cases s with
 | false=>
  have e12:IntKind.u64.wrap (((0:Nat):Int)+(I:Int)) = (I:Int):=by rw [IntKind.wrap_u64]; omega
  exact xInf_f E F (2 ^ E) (2 ^ E - 1) I 0 I (fun W=>xsign_f E F W) h0.e11 h0.f52 h0.f1 e6 e7 e11 e12 W
 | true=>
  have e12:IntKind.u64.wrap ((S:Int)+(I:Int)) = ((S+I:Nat):Int):=by rw [IntKind.wrap_u64]; omega
  exact xInf_t E F (2 ^ E) (2 ^ E - 1) I S (S+I) (fun W=>xsign_t E F S h0 (hide h.hS) W) h0.e11 h0.f52 h0.f1 e6 e7 e11 e12 W
theorem xsign_T {E F S I:Nat} (h:Fm E F S I) (s:Bool):Tel 24 #[.agg #[.int .i64 E,.int .i64 F],.bool s] (.int .u64 ((if s then S else 0:Nat):Int)):=fun W=>by
 cases s with
 | false=>exact xsign_f E F W
 | true=>exact xsign_t E F S h.fo (hide h.hS) W
theorem bits_over {E F S I md:Nat} {s:Bool} {r:Nat} (h:Fm E F S I) (ho:I≤r):bitsR S I md s r = if fth md s false 1 then infS S I s else infS S I s - 1:=by
 unfold bitsR infS
 have:=h.six
 rw [if_neg (Nat.not_lt.2 ho)]
 cases s
 ·cases hf:fth md false false 1 <;> first|(simp; done)|(simp; omega)
 ·cases hf:fth md true false 1 <;> first|(simp; done)|(simp; omega)
theorem bits_in {S I md:Nat} {s:Bool} {r:Nat} (ho:¬ I≤r):bitsR S I md s r = (if s then S else 0)+r:=by
 unfold bitsR
 rw [if_pos (Nat.lt_of_not_le ho)]
theorem bey_any {E F S I B:Nat} (h:Fm E F S I) (hB:B = 2 ^ (E - 1) - 1) (q:Nat) (t:Int) (ht:-4294967296≤t∧t≤4294967296) (hk:blen q≤1000000) (W:World) (A:Option Addr) (N C:Nat) (g:Num W A N q) :
  Calls Tryz.prog 70 #[.agg #[.int .i64 E,.int .i64 F],.agg #[.slice A N C],.int .i64 t] W fun e w'=>e = .returned (.bool (decide ((B:Int) < (blen q:Int) - 1+t)))∧Below W.heap.size W w':=by
 have h0:=h.fo
 have HBi:=hide hB
 obtain ⟨b2,b1⟩:=bias2 h0.e2 hB
 have hpE:=pow_pos2 E
 have hE:=pow_bound h0.e11
 have e11:(2:Nat) ^ 11 = 2048:=by decide
 have e6:IntKind.i64.wrap ((2:Int) ^ E) = ((2 ^ E:Nat):Int):=by rw [show ((2:Int) ^ E) = ((2 ^ E:Nat):Int) from by simp,IntKind.wrap_i64]; generalize 2 ^ E = z at *; omega
 have e6':wrap64 ((2:Int) ^ E) = ((2 ^ E:Nat):Int):=by rw [show ((2:Int) ^ E) = ((2 ^ E:Nat):Int) from by simp]; unfold wrap64; generalize 2 ^ E = z at *; omega
 have hb:=bl_blen q
 generalize blen q = kq at *
 generalize 2 ^ E = z at *
 by_cases hr:(B:Int) < (kq:Int) - 1+t
 ·rw [decide_eq_true hr]
  exact rbeyond_t E F B h0 HBi A N C q kq z (z - 1) t W g hb hk ht e6 e6' (by omega) hpE (by omega) (by omega)
 ·rw [decide_eq_false hr]
  exact rbeyond_f E F B h0 HBi A N C q kq z (z - 1) t W g hb hk ht e6 e6' (by omega) hpE (by omega) (by omega)
theorem rround_any {E F S I B md:Nat} (h:Fm E F S I) (hB:B = 2 ^ (E - 1) - 1) (hmd:md≤4) (s:Bool) (a:Option Addr) (n cap m k:Nat) (x:Int) (W:World) (g:Num W a n m) (hm:m % 2 = 1) (hx:-5000≤x∧x≤5000) (hk:Bl m k) (hk2:k≤500000) :
  Calls Tryz.prog 50 #[.agg #[.int .i64 E,.int .i64 F],.agg #[.bool s,.slice a n cap,.int .i64 x,.bool false],.int .u8 (md:Int)] W fun e w'=>e = .returned (.tuple #[.int .u64 (bitsR S I md s (rowR B F md s m k x):Int),.int .u8 (flagR B F I md s m k x:Int)])∧Below W.heap.size W w':=by
 have h0:=h.fo
 have HBi:=hide hB
 obtain ⟨b2,b1⟩:=bias2 h0.e2 hB
 have hBl:=B_le h0 HBi
 have hF:=h0.f52
 have hI:I = (2 * B+1) * 2 ^ F:=by rw [b2]; exact h.hI
 have m0:0 < m:=by omega
 have hk0:0 < k:=by
  rcases Nat.eq_zero_or_pos k with c|c
  ·have:=hk.1; rw [c] at this; simp at this; omega
  ·exact c
 obtain ⟨L,hL⟩:∃ L:Int,1 - (B:Int) - (F:Int) = L:=⟨_,rfl⟩
 obtain ⟨f0,hf0⟩:∃ f:Int,x+(k:Int) - 1 - (F:Int) = f:=⟨_,rfl⟩
 obtain ⟨t,ht⟩:∃ t,lastP B F k x = t:=⟨_,rfl⟩
 have htm:max f0 L = t:=by rw [← ht]; unfold lastP; rw [hL,hf0,Int.max_comm]
 have ht3:(t = L∧f0≤L)∨(t = f0∧L < f0):=by omega
 have p64:(2:Nat) ^ (F+1) < 2 ^ 64:=Nat.pow_lt_pow_right (by decide) (by omega)
 have hle:=cutR_le (md:=md) (s:=s) hk m0 (show x+(k:Int) - 1 - (F:Int)≤t by omega)
 have hlef:=cutR_le (md:=md) (s:=s) hk m0 (show x+(k:Int) - 1 - (F:Int)≤f0 by omega)
 have hup:∀ u:Int,cutR md s m x u≤2 ^ (F+1)→u≤x→m * 2 ^ (x - u).toNat < 2 ^ 64:=fun u hu hux=>by
  unfold cutR at hu
  rw [if_pos hux] at hu
  omega
 have HR:∀ W:World,Num W a n m→_:=fun W g=>rrounded_dy s a n cap m md x t W g hmd hm (by omega) (by omega) (hup t hle) (by omega)
 have HP:∀ W:World,Num W a n m→_:=fun W g=>rrounded_dy s a n cap m md x f0 W g hmd hm (by omega) (by omega) (hup f0 hlef) (by omega)
 have hlo:t = L∨(L < t∧2 ^ F≤cutR md s m x t):=by
  rcases ht3 with ⟨h1,_⟩|⟨h1,h2⟩
  ·exact Or.inl h1
  ·exact Or.inr ⟨by omega,cutR_ge hk m0 (by omega)⟩
 have hrow:rowR B F md s m k x = (t - L).toNat * 2 ^ F+cutR md s m x t:=by unfold rowR; rw [ht,hL]
 have hfl:flagR B F I md s m k x = if I≤(t - L).toNat * 2 ^ F+cutR md s m x t then 3 else if t≤x then 0 else if (blen (cutR md s m x f0):Int) - 1+f0 < 1 - (B:Int) then 5 else 1:=by
  unfold flagR freeR
  rw [hrow,ht,hf0]
 rw [hrow,hfl]
 obtain ⟨q,hq⟩:∃ q,cutR md s m x t = q:=⟨_,rfl⟩
 obtain ⟨p,hp⟩:∃ p,cutR md s m x f0 = p:=⟨_,rfl⟩
 rw [hq] at HR hle hlo ⊢
 rw [hp] at HP hlef ⊢
 have hbq:=bl_blen q
 have hbp:=bl_blen p
 have hkq:blen q≤F+2:=hbq.le_of (by rw [show F+2 = F+1+1 from rfl,Nat.pow_succ]; have:=pow_pos2 (F+1); omega)
 have hkp:blen p≤F+2:=hbp.le_of (by rw [show F+2 = F+1+1 from rfl,Nat.pow_succ]; have:=pow_pos2 (F+1); omega)
 have hov:=over_iff hbq hle (show t = 1 - (B:Int) - (F:Int)∨(1 - (B:Int) - (F:Int) < t∧2 ^ F≤q) by rw [hL]; exact hlo) b1 hI
 rw [hL] at hov
 have HV:=fun (W:World) (A:Option Addr) (N C:Nat) (g:Num W A N q)=>bey_any h hB q t (by omega) (by omega) W A N C g
 have hmc:md = 0∨md = 1∨md = 2∨md = 3∨md = 4:=by omega
 by_cases ho:I≤(t - L).toNat * 2 ^ F+q
 ·rw [decide_eq_true (hov.2 ho)] at HV
  rw [if_pos ho]
  rw [bits_over h ho]
  have HI:=xinf_T h s
  cases hft:fth md s false 1 with
  | true=>
   rw [if_pos rfl]
   have hmi:(md:Int) = 0∨(md:Int) = 1∨((md:Int) = 3∧s = false)∨((md:Int) = 4∧s = true):=by
    rcases hmc with rfl|rfl|rfl|rfl|rfl <;> simp [fth] at hft ⊢ <;> exact hft
   by_cases hl:x < t
   ·rw [decide_eq_true hl] at HR
    exact rround_i2.2 E F B h0 HBi s a n cap m x false md k q f0 L t _ W g hk (by omega) (by omega) hf0 hL htm (hide HR) (hide HV) HI hmi
   ·rw [decide_eq_false hl] at HR
    exact rround_i2.1 E F B h0 HBi s a n cap m x false md k q f0 L t _ W g hk (by omega) (by omega) hf0 hL htm (hide HR) (hide HV) HI hmi
  | false=>
   rw [if_neg (by decide)]
   have hmi:(md:Int) = 2∨((md:Int) = 3∧s = true)∨((md:Int) = 4∧s = false):=by
    rcases hmc with rfl|rfl|rfl|rfl|rfl <;> simp [fth] at hft ⊢ <;> exact hft
   have hj:IntKind.u64.wrap (((infS S I s:Nat):Int) - 1) = ((infS S I s - 1:Nat):Int):=by
    have h1:=h.six
    have h2:=h.lt
    have h3:=h.s63
    have h4:I≤infS S I s∧infS S I s≤S+I:=by unfold infS; cases s <;> simp <;> omega
    rw [IntKind.wrap_u64]; omega
   by_cases hl:x < t
   ·rw [decide_eq_true hl] at HR
    exact rround_l2.2 E F B h0 HBi s a n cap m x false md k q f0 L t _ _ W g hk (by omega) (by omega) hf0 hL htm (hide HR) (hide HV) HI hmi hj
   ·rw [decide_eq_false hl] at HR
    exact rround_l2.1 E F B h0 HBi s a n cap m x false md k q f0 L t _ _ W g hk (by omega) (by omega) hf0 hL htm (hide HR) (hide HV) HI hmi hj
 ·rw [decide_eq_false (fun c=>ho (hov.1 c))] at HV
  rw [if_neg ho]
  rw [bits_in ho]
  rcases Nat.eq_zero_or_pos q with hq0|hq0
  ·
   subst hq0
   have hl:x < t:=by
    refine Int.lt_of_not_ge fun c=>?_
    unfold cutR at hq
    rw [if_pos c] at hq
    have:=Nat.mul_pos m0 (pow_pos2 (x - t).toNat)
    omega
   have hst:(t - L).toNat = 0:=by
    rcases hlo with c|⟨_,c⟩
    ·omega
    ·have:=pow_pos2 F; omega
   rw [hst,Nat.zero_mul,Nat.add_zero,if_neg (show ¬ t≤x by omega)]
   rw [decide_eq_true hl] at HR
   have HSg:=xsign_T h s
   by_cases hu:(blen p:Int)+f0≤1 - (B:Int)
   ·rw [if_pos (show (blen p:Int) - 1+f0 < 1 - (B:Int) by omega)]
    exact rround_z2.2 E F B h0 HBi s a n cap m x false md k 0 f0 L t p (blen p) _ _ W g hk (by omega) (by omega) hf0 hL htm (hide HR) (hide HV) (hide HP) (hide hbp) (by omega) hu rfl HSg
   ·rw [if_neg (show ¬ (blen p:Int) - 1+f0 < 1 - (B:Int) by omega)]
    exact rround_z2.1 E F B h0 HBi s a n cap m x false md k 0 f0 L t p (blen p) _ _ W g hk (by omega) (by omega) hf0 hL htm (hide HR) (hide HV) (hide HP) (hide hbp) (by omega) hu rfl HSg
  ·obtain ⟨r,v,y,HT,HW⟩:=rput_row h hB s t L hL hq0 hle hlo (Nat.lt_of_not_le ho)
   by_cases hl:x < t
   ·rw [decide_eq_true hl] at HR
    rw [if_neg (show ¬ t≤x by omega)]
    by_cases hu:(blen p:Int)+f0≤1 - (B:Int)
    ·rw [if_pos (show (blen p:Int) - 1+f0 < 1 - (B:Int) by omega)]
     exact rround_n2.2 E F B h0 HBi s a n cap m x false md k q f0 L t p (blen p) _ r v y _ W g hk (by omega) (by omega) hf0 hL htm (hide HR) (hide HV) (hide HP) (hide hbp) (by omega) hu (hide HT) (hide HW) hq0
    ·rw [if_neg (show ¬ (blen p:Int) - 1+f0 < 1 - (B:Int) by omega)]
     exact rround_n2.1 E F B h0 HBi s a n cap m x false md k q f0 L t p (blen p) _ r v y _ W g hk (by omega) (by omega) hf0 hL htm (hide HR) (hide HV) (hide HP) (hide hbp) (by omega) hu (hide HT) (hide HW) hq0
   ·rw [decide_eq_false hl] at HR
    rw [if_pos (show t≤x by omega)]
    exact rround_ff E F B h0 HBi s a n cap m x false md k q f0 L t r v y _ W g hk (by omega) (by omega) hf0 hL htm (hide HR) (hide HV) (hide HT) (hide HW) hq0
end Go.Proofs.YtfimakkpdjppfaaGreatDoor
