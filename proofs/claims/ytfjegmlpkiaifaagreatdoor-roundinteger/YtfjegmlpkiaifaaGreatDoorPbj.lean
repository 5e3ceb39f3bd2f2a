/- Of what RoundIntegerRow stands on: RdAny SRdB TnWhole SRdC SNames SMono SMono2 SMono3 RsMath RsWorth. -/
import Derived.Test.YtfjegmlpkiaifaaGreatDoorPbi
import Derived.Test.YtfjegmlpkiaifaaGreatDoorPax
import Derived.Test.YtfjegmlpkiaifaaGreatDoorPbh
import Derived.Test.YtfjegmlpkiaifaaGreatDoorPbe
import Derived.Test.YtfjegmlpkiaifaaGreatDoorPba
import Derived.Test.YtfjegmlpkiaifaaGreatDoorPaj
namespace Go.Proofs.YtfjegmlpkiaifaaGreatDoor
open Go.RowKit
set_option maxHeartbeats 4000000
set_option maxRecDepth 20000
def blen (m:Nat):Nat:=if m = 0 then 0 else m.log2+1
theorem bl_blen (m:Nat):Bl m (blen m):=by
 unfold blen
 by_cases h:m = 0
 ·rw [if_pos h,h]; exact ⟨by decide,Or.inl rfl⟩
 ·rw [if_neg h]
  refine ⟨Nat.lt_log2_self,Or.inr ?_⟩
  rw [Nat.add_sub_cancel]
  exact Nat.log2_self_le h
theorem Bl.le_of {m k n:Nat} (h:Bl m k) (hm:m < 2 ^ n):k≤n:=by
 rcases h.2 with h0|h1
 ·omega
 ·exact Nat.le_of_not_lt fun hlt=>by
   have:2 ^ n≤2 ^ (k - 1):=pow_bound (by omega)
   omega
theorem Bl.gt_of {m k n:Nat} (h:Bl m k) (hm:2 ^ n≤m):n < k:=by
 refine Nat.lt_of_not_le fun hle=>?_
 have:=pow_bound hle
 have:=h.1
 omega
def cutR (md:Nat) (s:Bool) (m:Nat) (x t:Int):Nat:=if t≤x then m * 2 ^ (x - t).toNat else cutN md s m (t - x).toNat
def lastP (B F k:Nat) (x:Int):Int:=max (1 - (B:Int) - (F:Int)) (x+(k:Int) - 1 - (F:Int))
def rowR (B F md:Nat) (s:Bool) (m k:Nat) (x:Int):Nat:=(lastP B F k x - (1 - (B:Int) - (F:Int))).toNat * 2 ^ F+cutR md s m x (lastP B F k x)
def freeR (F md:Nat) (s:Bool) (m k:Nat) (x:Int):Int:=(blen (cutR md s m x (x+(k:Int) - 1 - (F:Int))):Int) - 1+(x+(k:Int) - 1 - (F:Int))
def flagR (B F I md:Nat) (s:Bool) (m k:Nat) (x:Int):Nat:=if I≤rowR B F md s m k x then 3 else if lastP B F k x≤x then 0 else if freeR F md s m k x < 1 - (B:Int) then 5 else 1
def bitsR (S I md:Nat) (s:Bool) (r:Nat):Nat:=(if s then S else 0)+(if r < I then r else if fth md s false 1 then I else I - 1)
theorem cut_le {md:Nat} {s:Bool} {m dr n:Nat} (h:m / 2 ^ dr < 2 ^ n):cutN md s m dr≤2 ^ n:=by
 unfold cutN; split <;> omega
theorem cut_ge {md:Nat} {s:Bool} {m dr n:Nat} (h:2 ^ n≤m / 2 ^ dr):2 ^ n≤cutN md s m dr:=by
 unfold cutN; omega
theorem cutR_le {md:Nat} {s:Bool} {m k F:Nat} {x t:Int} (hk:Bl m k) (h0:0 < m) (ht:x+(k:Int) - 1 - (F:Int)≤t):cutR md s m x t≤2 ^ (F+1):=by
 have hk1:=hk.1
 have hkp:0 < k:=by
  rcases Nat.eq_zero_or_pos k with h|h
  ·rw [h] at hk1; simp at hk1; omega
  ·exact h
 unfold cutR
 by_cases hx:t≤x
 ·rw [if_pos hx]
  obtain ⟨j,hj⟩:∃ j,(x - t).toNat = j:=⟨_,rfl⟩
  rw [hj]
  have hle:k+j≤F+1:=by omega
  have h1:m * 2 ^ j≤2 ^ k * 2 ^ j:=Nat.mul_le_mul_right _ (by omega)
  rw [← Nat.pow_add] at h1
  exact Nat.le_trans h1 (pow_bound hle)
 ·rw [if_neg hx]
  obtain ⟨j,hj⟩:∃ j,(t - x).toNat = j:=⟨_,rfl⟩
  rw [hj]
  refine cut_le ?_
  rw [Nat.div_lt_iff_lt_mul (pow_pos2 _),← Nat.pow_add]
  exact Nat.lt_of_lt_of_le hk1 (pow_bound (by omega))
theorem cutR_ge {md:Nat} {s:Bool} {m k F:Nat} {x t:Int} (hk:Bl m k) (h0:0 < m) (ht:x+(k:Int) - 1 - (F:Int) = t):2 ^ F≤cutR md s m x t:=by
 have hk1:=hk.1
 have hkp:0 < k:=by
  rcases Nat.eq_zero_or_pos k with h|h
  ·rw [h] at hk1; simp at hk1; omega
  ·exact h
 have hge:2 ^ (k - 1)≤m:=by rcases hk.2 with h|h; omega; exact h
 unfold cutR
 by_cases hx:t≤x
 ·rw [if_pos hx]
  obtain ⟨j,hj⟩:∃ j,(x - t).toNat = j:=⟨_,rfl⟩
  rw [hj]
  have h1:2 ^ (k - 1) * 2 ^ j≤m * 2 ^ j:=Nat.mul_le_mul_right _ hge
  rw [← Nat.pow_add] at h1
  exact Nat.le_trans (pow_bound (by omega)) h1
 ·rw [if_neg hx]
  obtain ⟨j,hj⟩:∃ j,(t - x).toNat = j:=⟨_,rfl⟩
  rw [hj]
  refine cut_ge ?_
  rw [Nat.le_div_iff_mul_le (pow_pos2 _),← Nat.pow_add]
  exact Nat.le_trans (pow_bound (by omega)) hge
theorem cut_any (s:Bool) (a:Option Addr) (n cap m md F k:Nat) (x t:Int) (w:World) (h:Num w a n m) (hcap:n≤cap) (hcap2:cap≤9223372036854775807) (hm:md≤4) (hk:Bl m k) (h0:0 < m) (hF:F≤52) (hx:-2147483648≤x∧x≤2147483648) (ht2:-2147483648≤t∧t≤2147483648) (ht:x+(k:Int) - 1 - (F:Int)≤t) :
  Calls Tryz.prog 87 #[.agg #[.bool s,.slice a n cap,.int .i64 x],.int .i64 t,.int .u8 (md:Int)] w fun e w'=>e = .returned (.tuple #[.int .u64 (cutR md s m x t:Int),.bool (decide (t≤x))])∧Below w.heap.size w w':=by
 have hk1:=hk.1
 have hkp:0 < k:=by
  rcases Nat.eq_zero_or_pos k with h|h
  ·rw [h] at hk1; simp at hk1; omega
  ·exact h
 have hle:=cutR_le (md:=md) (s:=s) hk h0 ht
 have hp53:2 ^ (F+1)≤2 ^ 53:=pow_bound (by omega)
 have e53:(2:Nat) ^ 53 = 9007199254740992:=by decide
 unfold cutR at *
 by_cases hxt:t≤x
 ·rw [if_pos hxt] at hle ⊢
  rw [decide_eq_true hxt]
  obtain ⟨j,hj⟩:∃ j,(x - t).toNat = j:=⟨_,rfl⟩
  rw [hj] at hle ⊢
  have hk53:m < 2 ^ 53:=Nat.lt_of_lt_of_le hk1 (pow_bound (by omega))
  have:=cut_whole s a n cap m j md x w h (by omega) (by omega) (by omega)
  rw [show x - (j:Int) = t from by omega] at this
  exact this
 ·rw [if_neg hxt] at hle ⊢
  rw [decide_eq_false hxt]
  obtain ⟨j,hj⟩:∃ j,(t - x).toNat = j:=⟨_,rfl⟩
  rw [hj] at hle ⊢
  have hq:m / 2 ^ j < 9223372036854775808:=by
   have:m / 2 ^ j≤cutN md s m j:=by unfold cutN; omega
   omega
  have:=cut_drop s a n cap m j md x w h hcap hcap2 hm (by omega) (by omega) hq
  rw [show x+(j:Int) = t from by omega] at this
  exact this
theorem bias2 {E B:Nat} (hE:2≤E) (HB:B = 2 ^ (E - 1) - 1):2 * B+1 = 2 ^ E - 1∧1≤B:=by
 obtain ⟨e,rfl⟩:∃ e,E = e+2:=⟨E - 2,by omega⟩
 rw [show e+2 - 1 = e+1 from by omega] at HB
 have h1:2 ^ (e+2) = 2 * 2 ^ (e+1):=by rw [Nat.pow_succ,Nat.mul_comm]
 have h2:2 ^ (e+1) = 2 * 2 ^ e:=by rw [Nat.pow_succ,Nat.mul_comm]
 have:=pow_pos2 e
 omega
theorem over_iff {B F N kN I:Nat} {t:Int} (hkN:Bl N kN) (hN:N≤2 ^ (F+1)) (hlo:t = 1 - (B:Int) - (F:Int)∨(1 - (B:Int) - (F:Int) < t∧2 ^ F≤N)) (hB:1≤B) (hI:I = (2 * B+1) * 2 ^ F) :
  (B:Int) < (kN:Int) - 1+t↔I≤(t - (1 - (B:Int) - (F:Int))).toNat * 2 ^ F+N:=by
 obtain ⟨st,hst⟩:∃ st,(t - (1 - (B:Int) - (F:Int))).toNat = st:=⟨_,rfl⟩
 rw [hst]
 have hts:t = (st:Int)+(1 - (B:Int) - (F:Int)):=by omega
 have p0:=pow_pos2 F
 have p1:2 ^ (F+1) = 2 * 2 ^ F:=by rw [Nat.pow_succ,Nat.mul_comm]
 have kle:kN≤F+2:=hkN.le_of (by rw [show F+2 = F+1+1 from rfl,Nat.pow_succ]; have:=pow_pos2 (F+1); omega)
 obtain ⟨P,hP⟩:∃ P,P = 2 ^ F:=⟨_,rfl⟩
 rw [p1] at hN
 rw [← hP] at hN hlo p0 hI ⊢
 by_cases c0:N < P
 ·have hz:st = 0:=by rcases hlo with h|h <;> omega
  have k0:kN≤F:=hkN.le_of (by rw [← hP]; exact c0)
  subst hz
  constructor
  ·intro h; omega
  ·intro h
   exfalso
   have:P≤(2 * B+1) * P:=Nat.le_mul_of_pos_left _ (by omega)
   omega
 ·have k1:F < kN:=hkN.gt_of (by rw [← hP]; omega)
  by_cases c1:N < 2 * P
  ·have k2:kN = F+1:=by
    have:=hkN.le_of (n:=F+1) (by rw [p1,← hP]; exact c1)
    omega
   constructor
   ·intro h
    have hs:2 * B≤st:=by omega
    have:=Nat.mul_le_mul_right P hs
    rw [hI,Nat.add_mul,Nat.one_mul]
    omega
   ·intro h
    have hs:2 * B≤st:=by
     refine Nat.le_of_not_lt fun hc=>?_
     have:=Nat.mul_le_mul_right P (show st+1≤2 * B from hc)
     rw [Nat.add_mul,Nat.one_mul] at this
     rw [hI,Nat.add_mul,Nat.one_mul] at h
     omega
    omega
  ·have k2:kN = F+2:=by
    have:=hkN.gt_of (n:=F+1) (by rw [p1,← hP]; omega)
    omega
   obtain ⟨Bm,rfl⟩:∃ Bm,B = Bm+1:=⟨B - 1,by omega⟩
   constructor
   ·intro h
    have hs:2 * Bm+1≤st:=by omega
    have h2:=Nat.mul_le_mul_right P hs
    rw [show 2 * (Bm+1)+1 = 2 * Bm+1+2 from by omega,Nat.add_mul] at hI
    omega
   ·intro h
    have hs:2 * Bm+1≤st:=by
     refine Nat.le_of_not_lt fun hc=>?_
     have h2:=Nat.mul_le_mul_right P (show st+1≤2 * Bm+1 from hc)
     rw [Nat.add_mul,Nat.one_mul] at h2
     rw [show 2 * (Bm+1)+1 = 2 * Bm+1+2 from by omega,Nat.add_mul] at hI
     omega
    omega
theorem Num.bl {w:World} {a:Option Addr} {n m k:Nat} (h:Num w a n m) (hk:Bl m k):k≤524288:=by
 have h1:=h.lt
 rw [show (4294967296:Nat) ^ Pl.top = 2 ^ (32 * Pl.top) from by rw [Nat.pow_mul]] at h1
 have:=hk.le_of h1
 have:=Pl.top_eq
 omega
theorem rounded_any {E F S I B md:Nat} (h:Fm E F S I) (hB:B = 2 ^ (E - 1) - 1) (hm:md≤4) (ng s:Bool) (a:Option Addr) (n cap m k:Nat) (x:Int) (W:World) (Bs:Nat) (g:Mine W Bs a n cap m) (hA:m % 2 = 1∧-1073741824≤x∧x≤1073741824) (hk:Bl m k) :
  Calls Tryz.prog 53 #[.agg #[.int .i64 E,.int .i64 F],.agg #[.bool s,.slice a n cap,.int .i64 x],.bool ng,.int .u8 (md:Int)] W fun e w'=>e = .returned (.tuple #[.int .u64 (bitsR S I md s (rowR B F md s m k x):Int),.int .u8 (flagR B F I md s m k x:Int),.int .i64 0])∧Below W.heap.size W w':=by
 obtain ⟨hc1,hc2⟩:=mine_caps g
 have h0:0 < m:=by omega
 have hn:0 < n:=by have:=g.num.zero; omega
 have hk2:=g.num.bl hk
 have hF:=h.fo.f52
 have hF1:=h.fo.f1
 have hE:=h.fo.e2
 obtain ⟨b2,b1⟩:=bias2 hE hB
 have hI:I = (2 * B+1) * 2 ^ F:=by rw [b2]; exact h.hI
 have hB10:B≤1023:=by
  have:=pow_bound (n:=E - 1) (k:=10) (by have:=h.fo.e11; omega)
  have e10:(2:Nat) ^ 10 = 1024:=by decide
  omega
 obtain ⟨t,ht⟩:∃ t,lastP B F k x = t:=⟨_,rfl⟩
 have htd:=ht
 unfold lastP at htd
 obtain ⟨N,hN⟩:∃ N,cutR md s m x t = N:=⟨_,rfl⟩
 have hNle:N≤2 ^ (F+1):=by rw [← hN]; exact cutR_le hk h0 (by omega)
 have hlo:t = 1 - (B:Int) - (F:Int)∨(1 - (B:Int) - (F:Int) < t∧2 ^ F≤N):=by
  by_cases c:t = 1 - (B:Int) - (F:Int)
  ·exact Or.inl c
  ·exact Or.inr ⟨by omega,by rw [← hN]; exact cutR_ge hk h0 (by omega)⟩
 have hkN:=bl_blen N
 have hiff:=over_iff hkN hNle hlo b1 hI
 have hp53:2 ^ (F+1)≤2 ^ 53:=pow_bound (by omega)
 have e53:(2:Nat) ^ 53 = 9007199254740992:=by decide
 have hkN2:blen N≤64:=hkN.le_of (Nat.lt_of_le_of_lt hNle (Nat.lt_of_le_of_lt hp53 (by decide)))
 have HC:∀ W:World,Num W a n m→Calls Tryz.prog 87 #[.agg #[.bool s,.slice a n cap,.int .i64 x],.int .i64 t,.int .u8 (md:Int)] W fun e w'=>e = .returned (.tuple #[.int .u64 N,.bool (decide (t≤x))])∧Below W.heap.size W w':=fun W g=>by
  have:=cut_any s a n cap m md F k x t W g hc1 hc2 hm hk h0 hF (by omega) (by omega) (by omega)
  rw [hN] at this
  exact this
 have hr:rowR B F md s m k x = (t - (1 - (B:Int) - (F:Int))).toNat * 2 ^ F+N:=by unfold rowR; rw [ht,hN]
 obtain ⟨st,hst⟩:∃ st,(t - (1 - (B:Int) - (F:Int))).toNat = st:=⟨_,rfl⟩
 rw [hst] at hr hiff
 unfold bitsR flagR
 rw [hr,ht]
 by_cases hov:I≤st * 2 ^ F+N
 ·rw [if_neg (show ¬ st * 2 ^ F+N < I by omega),if_pos hov]
  have hov2:=hiff.2 hov
  have hlt:=h.lt
  have hfar:=farther_any md s false 1 hm (Or.inr (Or.inr rfl))
  by_cases hf:fth md s false 1 = true
  ·rw [if_pos hf]
   have hbt:Bt E F ((if s then S else 0)+I) s (2 ^ E - 1) 0:=⟨pow_pos2 _,by have:=pow_pos2 E; omega,by rw [← h.hS,← h.hI]; cases s <;> simp⟩
   refine rounded_over E F B md ng s a n cap m k x t N (blen N) (decide (t≤x)) _ W h.fo (hide hB) g.num hn hk hk2 hA.2 htd (hide HC) (by omega) hkN hkN2 hov2 (hide fun W=>?_)
   exact over_inf E F _ (2 ^ E - 1) md s h.fo W hbt (hide rfl) (hide fun W=>by have:=hfar W; rw [hf] at this; exact this)
  ·rw [if_neg hf]
   have hf':fth md s false 1 = false:=by simpa using hf
   have hp:=pow_pos2 F
   have hE4:2 ^ 2≤2 ^ E:=pow_bound hE
   have hbt:Bt E F ((if s then S else 0)+(I - 1)) s (2 ^ E - 2) (2 ^ F - 1):=by
    refine ⟨by omega,by omega,?_⟩
    have e1:(2 ^ E - 2) * 2 ^ F+(2 ^ F - 1) = I - 1:=by
     rw [h.hI]
     obtain ⟨q,hq⟩:∃ q,2 ^ E = q+2:=⟨2 ^ E - 2,by omega⟩
     rw [hq,show q+2 - 2 = q from by omega,show q+2 - 1 = q+1 from by omega,Nat.add_mul,Nat.one_mul]
     omega
    rw [← h.hS,e1]; cases s <;> simp
   refine rounded_over E F B md ng s a n cap m k x t N (blen N) (decide (t≤x)) _ W h.fo (hide hB) g.num hn hk hk2 hA.2 htd (hide HC) (by omega) hkN hkN2 hov2 (hide fun W=>?_)
   exact over_top E F _ (2 ^ E - 2) (2 ^ F - 1) md s h.fo W hbt (hide (by omega)) (hide rfl) (hide fun W=>by have:=hfar W; rw [hf'] at this; exact this)
 ·rw [if_pos (show st * 2 ^ F+N < I by omega),if_neg hov]
  have hov2:(blen N:Int) - 1+t≤(B:Int):=by
   refine Int.not_lt.1 fun hc=>hov (hiff.1 hc)
  have hp:=pow_pos2 F
  have p1:2 ^ (F+1) = 2 * 2 ^ F:=by rw [Nat.pow_succ,Nat.mul_comm]
  obtain ⟨hd,hhd⟩:∃ hd,hd = N / 2 ^ F:=⟨_,rfl⟩
  have hdm:=Nat.div_add_mod N (2 ^ F)
  have hml:=Nat.mod_lt N hp
  rw [← hhd,Nat.mul_comm] at hdm
  have hd2:hd≤2:=by
   rw [hhd]
   exact Nat.le_of_lt_succ ((Nat.div_lt_iff_lt_mul hp).2 (by omega))
  have hsum:(st+hd) * 2 ^ F+N % 2 ^ F = st * 2 ^ F+N:=by rw [Nat.add_mul]; omega
  have hlt2:st+hd < 2 ^ E - 1:=by
   refine Nat.lt_of_not_le fun hc=>?_
   have:=Nat.mul_le_mul_right (2 ^ F) hc
   rw [← h.hI] at this
   omega
  have hE11:2 ^ E≤2 ^ 11:=pow_bound h.fo.e11
  have e11:(2:Nat) ^ 11 = 2048:=by decide
  have hfr:N % 2 ^ F = N - hd * 2 ^ F:=by omega
  have hbt:Bt E F ((if s then S else 0)+(st * 2 ^ F+N)) s (st+hd) (N % 2 ^ F):=⟨hml,by omega,by rw [hsum,← h.hS]; cases s <;> simp⟩
  have HS9:Hid (t - (1 - (B:Int) - (F:Int)) = (st:Int)):=hide (by omega)
  by_cases hw:t≤x
  ·rw [if_pos hw]
   rw [decide_eq_true hw] at HC
   exact rounded_whole E F B md ng s a n cap m k x t N (blen N) _ st hd (N % 2 ^ F) W h.fo (hide hB) g.num hn hk hk2 hA.2 htd (hide HC) (by omega) hkN hkN2 hov2 HS9 (by omega) hhd hd2 hfr hbt
  ·rw [if_neg hw]
   rw [decide_eq_false hw] at HC
   obtain ⟨N2,hN2⟩:∃ N2,cutR md s m x (x+(k:Int) - 1 - (F:Int)) = N2:=⟨_,rfl⟩
   have hN2le:N2≤2 ^ (F+1):=by rw [← hN2]; exact cutR_le hk h0 (Int.le_refl _)
   have HM:∀ W:World,Num W a n m→Calls Tryz.prog 90 #[.agg #[.bool s,.slice a n cap,.int .i64 x],.int .i64 (x+(k:Int) - 1 - (F:Int)),.int .i64 (1 - (B:Int)),.int .u8 (md:Int)] W fun e w'=>e = .returned (.bool (decide ((blen N2:Int) - 1+(x+(k:Int) - 1 - (F:Int)) < 1 - (B:Int))))∧Below W.heap.size W w':=fun W g=>by
    refine small_is s a n cap x _ _ md N2 (blen N2) (decide (x+(k:Int) - 1 - (F:Int)≤x)) W (hide fun W' hb=>?_) (by omega) (bl_blen N2) ((bl_blen N2).le_of (Nat.lt_of_le_of_lt hN2le (Nat.lt_of_le_of_lt hp53 (by decide)))) (by omega)
    have:=cut_any s a n cap m md F k x (x+(k:Int) - 1 - (F:Int)) W' (g.kept hb) hc1 hc2 hm hk h0 hF (by omega) (by omega) (Int.le_refl _)
    rw [hN2] at this
    exact this
   have hfree:freeR F md s m k x = (blen N2:Int) - 1+(x+(k:Int) - 1 - (F:Int)):=by unfold freeR; rw [hN2]
   rw [hfree]
   by_cases hs:(blen N2:Int) - 1+(x+(k:Int) - 1 - (F:Int)) < 1 - (B:Int)
   ·rw [if_pos hs]
    rw [decide_eq_true hs] at HM
    exact rounded_small E F B md ng s a n cap m k x t N (blen N) _ st hd (N % 2 ^ F) W h.fo (hide hB) g.num hn hk hk2 hA.2 htd (hide HC) (by omega) hkN hkN2 hov2 HS9 (by omega) hhd hd2 hfr hbt (hide HM)
   ·rw [if_neg hs]
    rw [decide_eq_false hs] at HM
    exact rounded_plain E F B md ng s a n cap m k x t N (blen N) _ st hd (N % 2 ^ F) W h.fo (hide hB) g.num hn hk hk2 hA.2 htd (hide HC) (by omega) hkN hkN2 hov2 HS9 (by omega) hhd hd2 hfr hbt (hide HM)
theorem sstand_is (w:World) (s:Bool) (a b:Option Addr) (n c k l x y i j:Nat) (sz e X:Int) (v M:Nat) (hT:Tb w) (h1:Num w a n x) (h2:Num w b k y) (hx:x≠0) (hi:i≤524288) (hj:j≤524288) (hz:(i:Int) - (j:Int) = sz) (hz1:-4096≤sz) (hz2:sz≤4096) (HB1:Hid (HBits x i)) (HB2:Hid (HBits y j)) (HP:Hid HPow0) (HF:Hid (∀ (W:World) (p:Nat) (A:Option Addr) (N C:Nat) (A':Option Addr) (N' C':Nat),Rn W p 0→Num W a n x→Num W A N 1→Num W b k y→Num W A' N' 1→Calls Tryz.prog 84 #[.agg #[.slice a n c,.slice A N C,.slice b k l,.slice A' N' C',.int .i64 0],.pointer (some ⟨p,0,none⟩)] W fun en W'=>(∃ A N C,en = .returned (.tuple #[.agg #[.slice A N C],.int .i64 e])∧Mine W' W.heap.size A N C v)∧Below W.heap.size W W')) (HK:Hid (∀ (W:World) (B:Nat) (A:Option Addr) (N C:Nat),Tb W→Mine W B A N C v→Calls Tryz.prog 82 #[.bool s,.agg #[.slice A N C],.int .i64 e] W fun en W'=>(∃ A N C,en = .returned (.tuple #[.agg #[.bool s,.slice A N C,.int .i64 X],.int .i64 0])∧Mine W' W.heap.size A N C M)∧Below W.heap.size W W')) :
  Calls Tryz.prog 52 #[.agg #[.bool s,.slice a n c,.slice b k l],.int .i64 0] w fun en w'=>(∃ A N C,en = .returned (.tuple #[.agg #[.bool s,.slice A N C,.int .i64 X],.int .i64 0])∧Mine w' w.heap.size A N C M)∧Below w.heap.size w w':=by
 refine calls_sym Tryz.func52 rfl (by kernel_rfl) fun T hK=>?_
 replace hK:Kn T _ [(0,.agg #[.bool s,.slice a n c,.slice b k l]),(1,.int .i64 0)]:=hK
 have hS:=Fb.begin w
 have hG:GsAt [gN a n x,gN b k y] w:=⟨h1,h2,trivial⟩
 refine wq hS hG hK (fun p1=>[.n 2 #[.bool s,.slice a n c,.slice b k l] 28,.n 4 #[.bool false,.slice none 0 0,.int .i64 0] 61,.v 5 (.int .i64 0)]) (fun p1=>[(1,.int .i64 0),(2,pT (p1 0).N 0),(4,pT (p1 1).N 0),(5,.int .i64 0)]) (fun p1=>?_) (fun p1 W1 T hF hK=>?_)
 ·iterate 2 refine okn ?_
  refine okv ?_
  exact ok_nil
 replace hS:=SymF.fc hS hF [1000,1001] [⟨(p1 0).N,#[.bool s,.slice a n c,.slice b k l],28,true⟩,⟨(p1 1).N,#[.bool false,.slice none 0 0,.int .i64 0],61,true⟩]
 replace hG:=hF.gx
 clear hF
 refine wp_seq ?_
 refine wq hS hG hK (fun p2=>[.v 10 (pT (p1 0).N 1),.l 11 (.agg #[.slice a n c]) 0 1,.c (some 12) (cV (.bool false))]) (fun p2=>[(1,.int .i64 0),(2,pT (p1 0).N 0),(4,pT (p1 1).N 0),(5,.int .i64 0),(12,.bool false)]) (fun p2=>?_) (fun p2 W2 T hF hK=>?_)
 ·refine okv ?_
  refine okl ?_
  refine okc (fun W cx=>as_v (snought a _ c _ _ (Num.noz (cx.G.1) hx))) ?_
  exact ok_nil
 obtain ⟨hS,hG⟩:=SymF.fg hS hF
 clear hF
 refine wp_cond_false (hK.ew 12) (wp_skip (then_n ?_))
 refine wq hS hG hK (fun p3=>[.n 6 #[.int .i64 0] 136]) (fun p3=>[(1,.int .i64 0),(2,pT (p1 0).N 0),(4,pT (p1 1).N 0),(5,.int .i64 0),(6,pT (p3 0).N 0),(12,.bool false)]) (fun p3=>?_) (fun p3 W3 T hF hK=>?_)
 ·refine okn ?_
  exact ok_nil
 replace hS:=SymF.fc hS hF [0,1,1000] [⟨(p1 0).N,#[.bool s,.slice a n c,.slice b k l],28,true⟩,⟨(p1 1).N,#[.bool false,.slice none 0 0,.int .i64 0],61,true⟩,⟨(p3 0).N,#[.int .i64 0],136,true⟩]
 replace hG:=hF.gx
 clear hF
 refine wq hS hG hK (fun p4=>[.l 14 (.agg #[.bool s,.slice a n c,.slice b k l]) 0 0,.v 15 (.int .i64 0),.c (some 16) (cV (.int .i64 sz)),.v 7 (.int .i64 sz)]) (fun p4=>[(1,.int .i64 0),(2,pT (p1 0).N 0),(4,pT (p1 1).N 0),(5,.int .i64 0),(6,pT (p3 0).N 0),(7,.int .i64 sz),(12,.bool false)]) (fun p4=>?_) (fun p4 W4 T hF hK=>?_)
 ·refine okl ?_
  refine okv ?_
  refine okc (fun W cx=>as_v (ssize_is _ _ s a b n c k l x y i j sz ⟨_,_,cx.B 2 _ rfl (by kernel_rfl) (by kernel_rfl),rfl⟩ (cx.G.1) (cx.G.2.1) hi hj hz HB1 HB2)) ?_
  refine okv ?_
  exact ok_nil
 obtain ⟨hS,hG⟩:=SymF.fg hS hF
 clear hF
 refine wp_seq ?_
 refine wq hS hG hK (fun p5=>[.v 17 (.int .i64 sz),.v 18 (.bool false),.v 19 (.bool false),.v 20 (.int .i64 sz),.v 21 (.bool false),.v 22 (.bool false)]) (fun p5=>[(1,.int .i64 0),(2,pT (p1 0).N 0),(4,pT (p1 1).N 0),(5,.int .i64 0),(6,pT (p3 0).N 0),(7,.int .i64 sz),(12,.bool false),(22,.bool false)]) (fun p5=>?_) (fun p5 W5 T hF hK=>?_)
 ·refine okv ?_
  refine okvb (decide_eq_false (show ¬ sz > 4096 by omega)) ?_
  iterate 2 refine okv ?_
  refine okvb (decide_eq_false (show ¬ sz < -4096 by omega)) ?_
  refine okv ?_
  exact ok_nil
 obtain ⟨hS,hG⟩:=SymF.fg hS hF
 clear hF
 refine wp_cond_false (hK.ew 22) (wp_skip (then_n ?_))
 refine wq hS hG hK (fun p6=>[.l 31 (.agg #[.bool s,.slice a n c,.slice b k l]) 0 0,.v 32 (.int .i64 0),.c (some 33) (cH W5.heap.size 1 1 fun x9 y9=>.agg #[.slice a n c,x9,.slice b k l,y9,.int .i64 0]),.c (some 34) (cG W5.heap.size v fun x9=>.tuple #[.agg #[x9],.int .i64 e]),.v 30 (.tuple #[.agg #[.slice (p6 3).A (p6 3).N (p6 3).C],.int .i64 e]),.v 35 (.agg #[.slice (p6 3).A (p6 3).N (p6 3).C]),.v 36 (.int .i64 e),.n 8 #[.slice none 0 0] 26,.p 1007 0 [.slice (p6 3).A (p6 3).N (p6 3).C],.v 9 (.int .i64 e)]) (fun p6=>[(2,pT (p1 0).N 0),(4,pT (p1 1).N 0),(5,.int .i64 0),(6,pT (p3 0).N 0),(7,.int .i64 sz),(8,pT (p6 7).N 0),(9,.int .i64 e),(12,.bool false),(22,.bool false)]) (fun p6=>?_) (fun p6 W6 T hF hK=>?_)
 ·refine okl ?_
  refine okv ?_
  refine okc (fun W cx=>as_h cx.hb (sscal_is _ _ s a b n c k l x y ⟨_,_,cx.B 2 _ rfl (by kernel_rfl) (by kernel_rfl),rfl⟩ (cx.G.1) (cx.G.2.1) HP)) ?_
  refine okc (fun W cx=>as_g cx.hb (unhide HF _ _ _ _ (p6 2).C _ _ (p6 2).C' ⟨_,_,cx.B 2 _ rfl (by kernel_rfl) (by kernel_rfl),rfl⟩ (cx.G.1) (Mine.num (And.left (cx.F 2 (by kernel_rfl)))) (cx.G.2.1) (Mine.num (And.right (cx.F 2 (by kernel_rfl)))))) ?_
  iterate 3 refine okv ?_
  refine okn ?_
  refine okp ?_
  refine okv ?_
  exact ok_nil
 replace hS:=SymF.fc hS hF [0,1,2,1007] [⟨(p1 0).N,#[.bool s,.slice a n c,.slice b k l],28,true⟩,⟨(p1 1).N,#[.bool false,.slice none 0 0,.int .i64 0],61,true⟩,⟨(p3 0).N,#[.int .i64 0],136,true⟩,⟨(p6 7).N,#[.slice (p6 3).A (p6 3).N (p6 3).C],26,true⟩]
 replace hG:GsAt (gM W5.heap.size (p6 2).A (p6 2).N (p6 2).C 1 :: gM W5.heap.size (p6 2).A' (p6 2).N' (p6 2).C' 1 :: gM W5.heap.size (p6 3).A (p6 3).N (p6 3).C v :: _) W6:=⟨And.left (hF.fx 2),And.right (hF.fx 2),hF.fx 3,hF.gx⟩
 clear hF
 refine wp_seq ?_
 refine wq hS hG hK (fun p7=>[.v 37 (pT (p3 0).N 0),.v 38 (pT (p3 0).N 0),.l 39 (.int .i64 0) 2 0,.v 40 (.bool false)]) (fun p7=>[(2,pT (p1 0).N 0),(4,pT (p1 1).N 0),(5,.int .i64 0),(6,pT (p3 0).N 0),(7,.int .i64 sz),(8,pT (p6 7).N 0),(9,.int .i64 e),(12,.bool false),(22,.bool false),(40,.bool false)]) (fun p7=>?_) (fun p7 W7 T hF hK=>?_)
 ·iterate 2 refine okv ?_
  refine okl ?_
  refine okv ?_
  exact ok_nil
 obtain ⟨hS,hG⟩:=SymF.fg hS hF
 clear hF
 have z7:=hS.fr.size
 refine wp_cond_false (hK.ew 40) (wp_skip (then_n ?_))
 refine wq hS hG hK (fun p8=>[.v 45 (pT (p1 0).N 0),.l 46 (.bool s) 0 0,.l 47 (.agg #[.slice (p6 3).A (p6 3).N (p6 3).C]) 3 0,.v 48 (.int .i64 e),.c (some 49) (cG W7.heap.size M fun x9=>.tuple #[.agg #[.bool s,x9,.int .i64 X],.int .i64 0]),.v 50 (.agg #[.bool s,.slice (p8 4).A (p8 4).N (p8 4).C,.int .i64 X]),.v 51 (.int .i64 0),.p 1 0 [.bool s,.slice (p8 4).A (p8 4).N (p8 4).C,.int .i64 X],.v 5 (.int .i64 0)]) (fun p8=>[(2,pT (p1 0).N 0),(4,pT (p1 1).N 0),(5,.int .i64 0),(6,pT (p3 0).N 0),(7,.int .i64 sz),(12,.bool false),(22,.bool false),(40,.bool false)]) (fun p8=>?_) (fun p8 W8 T hF hK=>?_)
 ·refine okv ?_
  iterate 2 refine okl ?_
  refine okv ?_
  refine okc (fun W cx=>as_g cx.hb (unhide HK _ _ _ _ _ (hT.kept cx.fr) cx.G.2.2.1)) ?_
  iterate 2 refine okv ?_
  refine okp ?_
  refine okv ?_
  exact ok_nil
 replace hS:=SymF.fc hS hF [0,1,2] [⟨(p1 0).N,#[.bool s,.slice a n c,.slice b k l],28,true⟩,⟨(p1 1).N,#[.bool s,.slice (p8 4).A (p8 4).N (p8 4).C,.int .i64 X],61,true⟩,⟨(p3 0).N,#[.int .i64 0],136,true⟩]
 replace hG:GsAt (gM W7.heap.size (p8 4).A (p8 4).N (p8 4).C M :: _) W8:=⟨hF.fx 4,hF.gx⟩
 clear hF
 refine wp_ret ?_
 exact sym_end hS hK (.tuple #[.agg #[.bool s,.slice (p8 4).A (p8 4).N (p8 4).C,.int .i64 X],.int .i64 0]) [(1,0,3)] [.bool s,.slice (p8 4).A (p8 4).N (p8 4).C,.int .i64 X] (by kernel_rfl) (by kernel_rfl) ⟨⟨_,_,_,rfl,Mine.mono hG.1 z7⟩,hS.fr⟩
theorem sscaled_is (w:World) (E F md:Nat) (s ng:Bool) (a b:Option Addr) (n c k l x y:Nat) (X:Int) (M bt fl:Nat) (hfo:Fo E F) (hm:md≤4) (hT:Tb w) (h1:Num w a n x) (h2:Num w b k y) (HC:Hid (∀ W:World,Num W a n x→Num W b k y→Calls Tryz.prog 20 #[.agg #[.bool s,.slice a n c,.slice b k l]] W fun e W'=>e = .returned (.int .i64 0)∧Below W.heap.size W W')) (HD:Hid (∀ W:World,Tb W→Num W a n x→Num W b k y→Calls Tryz.prog 52 #[.agg #[.bool s,.slice a n c,.slice b k l],.int .i64 0] W fun en W'=>(∃ A N C,en = .returned (.tuple #[.agg #[.bool s,.slice A N C,.int .i64 X],.int .i64 0])∧Mine W' W.heap.size A N C M)∧Below W.heap.size W W')) (HR:Hid (∀ (W:World) (B:Nat) (A:Option Addr) (N C:Nat),Mine W B A N C M→Calls Tryz.prog 53 #[.agg #[.int .i64 E,.int .i64 F],.agg #[.bool s,.slice A N C,.int .i64 X],.bool ng,.int .u8 (md:Int)] W fun e W'=>e = .returned (.tuple #[.int .u64 (bt:Int),.int .u8 (fl:Int),.int .i64 0])∧Below W.heap.size W W')) :
  Calls Tryz.prog 21 #[.agg #[.int .i64 (E:Int),.int .i64 (F:Int)],.agg #[.bool s,.slice a n c,.slice b k l],.int .i64 0,.bool ng,.int .u8 (md:Int)] w fun en w'=>en = .returned (.tuple #[.int .u64 (bt:Int),.int .u8 (fl:Int),.int .i64 0])∧Below w.heap.size w w':=by
 refine calls_sym Tryz.func21 rfl (by kernel_rfl) fun T hK=>?_
 replace hK:Kn T _ [(0,.agg #[.int .i64 (E:Int),.int .i64 (F:Int)]),(1,.agg #[.bool s,.slice a n c,.slice b k l]),(2,.int .i64 0),(3,.bool ng),(4,.int .u8 (md:Int))]:=hK
 have hS:=Fb.begin w
 have hG:GsAt [gN a n x,gN b k y] w:=⟨h1,h2,trivial⟩
 refine wq hS hG hK (fun p1=>[.n 5 #[.int .i64 (E:Int),.int .i64 (F:Int)] 23,.n 6 #[.bool s,.slice a n c,.slice b k l] 28,.v 10 (.int .u64 0),.v 11 (.int .u8 0),.v 12 (.int .i64 0)]) (fun p1=>[(2,.int .i64 0),(3,.bool ng),(4,.int .u8 (md:Int)),(5,pT (p1 0).N 0),(6,pT (p1 1).N 0),(10,.int .u64 0),(11,.int .u8 0),(12,.int .i64 0)]) (fun p1=>?_) (fun p1 W1 T hF hK=>?_)
 ·iterate 2 refine okn ?_
  iterate 3 refine okv ?_
  exact ok_nil
 replace hS:=SymF.fc hS hF [1000,1001] [⟨(p1 0).N,#[.int .i64 (E:Int),.int .i64 (F:Int)],23,true⟩,⟨(p1 1).N,#[.bool s,.slice a n c,.slice b k l],28,true⟩]
 replace hG:=hF.gx
 clear hF
 refine wp_seq ?_
 refine wq hS hG hK (fun p2=>[.l 17 (.agg #[.int .i64 (E:Int),.int .i64 (F:Int)]) 0 0,.c (some 18) (cV (.int .i64 0)),.v 13 (.int .i64 0)]) (fun p2=>[(2,.int .i64 0),(3,.bool ng),(4,.int .u8 (md:Int)),(5,pT (p1 0).N 0),(6,pT (p1 1).N 0),(10,.int .u64 0),(11,.int .u8 0),(12,.int .i64 0),(13,.int .i64 0)]) (fun p2=>?_) (fun p2 W2 T hF hK=>?_)
 ·refine okl ?_
  refine okc (fun W cx=>as_v (check_ok _ _ _ hfo)) ?_
  refine okv ?_
  exact ok_nil
 obtain ⟨hS,hG⟩:=SymF.fg hS hF
 clear hF
 refine wq hS hG hK (fun p3=>[.v 19 (.int .i64 0),.v 20 (.bool false)]) (fun p3=>[(2,.int .i64 0),(3,.bool ng),(4,.int .u8 (md:Int)),(5,pT (p1 0).N 0),(6,pT (p1 1).N 0),(10,.int .u64 0),(11,.int .u8 0),(12,.int .i64 0),(13,.int .i64 0),(20,.bool false)]) (fun p3=>?_) (fun p3 W3 T hF hK=>?_)
 ·iterate 2 refine okv ?_
  exact ok_nil
 obtain ⟨hS,hG⟩:=SymF.fg hS hF
 clear hF
 refine wp_cond_false (hK.ew 20) (wp_skip ?_)
 refine then_n (wp_seq ?_)
 refine wq hS hG hK (fun p4=>[.l 22 (.agg #[.bool s,.slice a n c,.slice b k l]) 1 0,.v 23 (.int .u8 (md:Int)),.c (some 24) (cV (.int .i64 0)),.v 14 (.int .i64 0)]) (fun p4=>[(2,.int .i64 0),(3,.bool ng),(4,.int .u8 (md:Int)),(5,pT (p1 0).N 0),(6,pT (p1 1).N 0),(10,.int .u64 0),(11,.int .u8 0),(12,.int .i64 0),(13,.int .i64 0),(14,.int .i64 0),(20,.bool false)]) (fun p4=>?_) (fun p4 W4 T hF hK=>?_)
 ·refine okl ?_
  refine okv ?_
  refine okc (fun W cx=>as_v (tcheckF_ok s a n c b k l md hm _ (hide fun W9 hb9=>unhide HC W9 (Num.kept (cx.G.1) hb9) (Num.kept (cx.G.2.1) hb9)))) ?_
  refine okv ?_
  exact ok_nil
 obtain ⟨hS,hG⟩:=SymF.fg hS hF
 clear hF
 refine wq hS hG hK (fun p5=>[.v 25 (.int .i64 0),.v 26 (.bool false)]) (fun p5=>[(2,.int .i64 0),(3,.bool ng),(4,.int .u8 (md:Int)),(5,pT (p1 0).N 0),(6,pT (p1 1).N 0),(10,.int .u64 0),(11,.int .u8 0),(12,.int .i64 0),(13,.int .i64 0),(14,.int .i64 0),(20,.bool false),(26,.bool false)]) (fun p5=>?_) (fun p5 W5 T hF hK=>?_)
 ·iterate 2 refine okv ?_
  exact ok_nil
 obtain ⟨hS,hG⟩:=SymF.fg hS hF
 clear hF
 refine wp_cond_false (hK.ew 26) (wp_skip (then_n ?_))
 refine wq hS hG hK (fun p6=>[.l 29 (.agg #[.bool s,.slice a n c,.slice b k l]) 1 0,.v 30 (.int .i64 0),.c (some 31) (cG W5.heap.size M fun x9=>.tuple #[.agg #[.bool s,x9,.int .i64 X],.int .i64 0]),.v 28 (.tuple #[.agg #[.bool s,.slice (p6 2).A (p6 2).N (p6 2).C,.int .i64 X],.int .i64 0]),.v 32 (.agg #[.bool s,.slice (p6 2).A (p6 2).N (p6 2).C,.int .i64 X]),.v 33 (.int .i64 0),.n 15 #[.bool false,.slice none 0 0,.int .i64 0] 61,.p 1006 0 [.bool s,.slice (p6 2).A (p6 2).N (p6 2).C,.int .i64 X],.v 16 (.int .i64 0)]) (fun p6=>[(3,.bool ng),(4,.int .u8 (md:Int)),(5,pT (p1 0).N 0),(10,.int .u64 0),(11,.int .u8 0),(12,.int .i64 0),(13,.int .i64 0),(14,.int .i64 0),(15,pT (p6 6).N 0),(16,.int .i64 0),(20,.bool false),(26,.bool false)]) (fun p6=>?_) (fun p6 W6 T hF hK=>?_)
 ·refine okl ?_
  refine okv ?_
  refine okc (fun W cx=>as_g cx.hb (unhide HD _ (hT.kept cx.fr) (cx.G.1) (cx.G.2.1))) ?_
  iterate 3 refine okv ?_
  refine okn ?_
  refine okp ?_
  refine okv ?_
  exact ok_nil
 replace hS:=SymF.fc hS hF [0,1006] [⟨(p1 0).N,#[.int .i64 (E:Int),.int .i64 (F:Int)],23,true⟩,⟨(p6 6).N,#[.bool s,.slice (p6 2).A (p6 2).N (p6 2).C,.int .i64 X],61,true⟩]
 replace hG:GsAt (gM W5.heap.size (p6 2).A (p6 2).N (p6 2).C M :: _) W6:=⟨hF.fx 2,hF.gx⟩
 clear hF
 refine wp_seq ?_
 refine wq hS hG hK (fun p7=>[.v 34 (.int .i64 0),.v 35 (.bool false)]) (fun p7=>[(3,.bool ng),(4,.int .u8 (md:Int)),(5,pT (p1 0).N 0),(10,.int .u64 0),(11,.int .u8 0),(12,.int .i64 0),(13,.int .i64 0),(14,.int .i64 0),(15,pT (p6 6).N 0),(16,.int .i64 0),(20,.bool false),(26,.bool false),(35,.bool false)]) (fun p7=>?_) (fun p7 W7 T hF hK=>?_)
 ·iterate 2 refine okv ?_
  exact ok_nil
 obtain ⟨hS,hG⟩:=SymF.fg hS hF
 clear hF
 refine wp_cond_false (hK.ew 35) (wp_skip (then_n ?_))
 refine wq hS hG hK (fun p8=>[.l 37 (.agg #[.int .i64 (E:Int),.int .i64 (F:Int)]) 0 0,.l 38 (.agg #[.bool s,.slice (p6 2).A (p6 2).N (p6 2).C,.int .i64 X]) 1 0,.v 39 (.bool ng),.v 40 (.int .u8 (md:Int)),.c (some 41) (cV (.tuple #[.int .u64 (bt:Int),.int .u8 (fl:Int),.int .i64 0])),.v 42 (.int .u64 (bt:Int)),.v 43 (.int .u8 (fl:Int)),.v 44 (.int .i64 0),.v 10 (.int .u64 (bt:Int)),.v 11 (.int .u8 (fl:Int)),.v 12 (.int .i64 0)]) (fun p8=>[(10,.int .u64 (bt:Int)),(11,.int .u8 (fl:Int)),(12,.int .i64 0),(13,.int .i64 0),(14,.int .i64 0),(16,.int .i64 0),(20,.bool false),(26,.bool false),(35,.bool false)]) (fun p8=>?_) (fun p8 W8 T hF hK=>?_)
 ·iterate 2 refine okl ?_
  iterate 2 refine okv ?_
  refine okc (fun W cx=>as_v (unhide HR _ _ _ _ _ cx.G.1)) ?_
  iterate 6 refine okv ?_
  exact ok_nil
 replace hS:=SymF.fc hS hF [] []
 replace hG:=hF.gx
 clear hF
 refine wp_ret ?_
 exact sym_end hS hK (.tuple #[.int .u64 (bt:Int),.int .u8 (fl:Int),.int .i64 0]) [] [] (by kernel_rfl) (by kernel_rfl) ⟨rfl,hS.fr⟩
theorem sratio_w (w:World) (E F md:Nat) (s ng:Bool) (a b:Option Addr) (n c k l x y bt fl:Nat) (h1:Num w a n x) (h2:Num w b k y) (HR:Hid (∀ W:World,Below w.heap.size w W→Num W a n x→Num W b k y→Calls Tryz.prog 21 #[.agg #[.int .i64 E,.int .i64 F],.agg #[.bool s,.slice a n c,.slice b k l],.int .i64 0,.bool ng,.int .u8 (md:Int)] W fun e W'=>e = .returned (.tuple #[.int .u64 (bt:Int),.int .u8 (fl:Int),.int .i64 0])∧Below W.heap.size W W')) :
  Calls Tryz.prog 7 #[.agg #[.int .i64 (E:Int),.int .i64 (F:Int)],.agg #[.bool s,.slice a n c,.slice b k l],.bool ng,.int .u8 (md:Int)] w fun en w'=>en = .returned (.tuple #[.int .u64 (bt:Int),.int .u8 (fl:Int),.int .i64 0])∧Below w.heap.size w w':=by
 refine calls_sym Tryz.func7 rfl (by kernel_rfl) fun T hK=>?_
 replace hK:Kn T _ [(0,.agg #[.int .i64 (E:Int),.int .i64 (F:Int)]),(1,.agg #[.bool s,.slice a n c,.slice b k l]),(2,.bool ng),(3,.int .u8 (md:Int))]:=hK
 have hS:=Fb.begin w
 have hG:GsAt [gN a n x,gN b k y] w:=⟨h1,h2,trivial⟩
 refine wq hS hG hK (fun p1=>[.n 4 #[.int .i64 (E:Int),.int .i64 (F:Int)] 23,.n 5 #[.bool s,.slice a n c,.slice b k l] 28,.v 8 (.int .u64 0),.v 9 (.int .u8 0),.v 10 (.int .i64 0)]) (fun p1=>[(2,.bool ng),(3,.int .u8 (md:Int)),(4,pT (p1 0).N 0),(5,pT (p1 1).N 0),(8,.int .u64 0),(9,.int .u8 0),(10,.int .i64 0)]) (fun p1=>?_) (fun p1 W1 T hF hK=>?_)
 ·iterate 2 refine okn ?_
  iterate 3 refine okv ?_
  exact ok_nil
 replace hS:=SymF.fc hS hF [1000,1001] [⟨(p1 0).N,#[.int .i64 (E:Int),.int .i64 (F:Int)],23,true⟩,⟨(p1 1).N,#[.bool s,.slice a n c,.slice b k l],28,true⟩]
 replace hG:=hF.gx
 clear hF
 refine wq hS hG hK (fun p2=>[.l 11 (.agg #[.int .i64 (E:Int),.int .i64 (F:Int)]) 0 0,.l 12 (.agg #[.bool s,.slice a n c,.slice b k l]) 1 0,.v 13 (.bool ng),.v 14 (.int .u8 (md:Int)),.c (some 15) (cV (.tuple #[.int .u64 (bt:Int),.int .u8 (fl:Int),.int .i64 0])),.v 16 (.int .u64 (bt:Int)),.v 17 (.int .u8 (fl:Int)),.v 18 (.int .i64 0),.v 8 (.int .u64 (bt:Int)),.v 9 (.int .u8 (fl:Int)),.v 10 (.int .i64 0)]) (fun p2=>[(8,.int .u64 (bt:Int)),(9,.int .u8 (fl:Int)),(10,.int .i64 0)]) (fun p2=>?_) (fun p2 W2 T hF hK=>?_)
 ·iterate 2 refine okl ?_
  iterate 2 refine okv ?_
  refine okc (fun W cx=>as_v (unhide HR _ cx.fr (cx.G.1) (cx.G.2.1))) ?_
  iterate 6 refine okv ?_
  exact ok_nil
 replace hS:=SymF.fc hS hF [] []
 replace hG:=hF.gx
 clear hF
 refine wp_ret ?_
 exact sym_end hS hK (.tuple #[.int .u64 (bt:Int),.int .u8 (fl:Int),.int .i64 0]) [] [] (by kernel_rfl) (by kernel_rfl) ⟨rfl,hS.fr⟩
theorem div_pos (a a':Option Addr) (n n' cap cap' m d:Nat) (w:World) (h:Num w a n m) (h':Num w a' n' d) (hd:0 < d) :
  Calls Tryz.prog 31 #[.agg #[.slice a n cap],.agg #[.slice a' n' cap']] w fun e w'=>(∃ aq nq cq ar nr cr,e = .returned (.tuple #[.agg #[.slice aq nq cq],.agg #[.slice ar nr cr],.int .i64 0])∧Mine w' w.heap.size aq nq cq (m / d)∧Mine w' w.heap.size ar nr cr (m % d))∧Below w.heap.size w w':=by
 refine (div_any a a' n n' cap cap' m d w h h').mono ?_
 rintro e w' ⟨h1,hb⟩
 rcases h1 with ⟨h0,_⟩|⟨_,h1⟩
 ·omega
 ·exact ⟨h1,hb⟩
theorem sub_pos (a a':Option Addr) (n n' cap cap' m m':Nat) (w:World) (h:Num w a n m) (h':Num w a' n' m') (hle:m'≤m) :
  Calls Tryz.prog 36 #[.agg #[.slice a n cap],.agg #[.slice a' n' cap']] w fun e w'=>(∃ a n cap,e = .returned (.tuple #[.agg #[.slice a n cap],.bool true,.int .i64 0])∧Mine w' w.heap.size a n cap (m - m'))∧Below w.heap.size w w':=by
 refine (sub_any a a' n n' cap cap' m m' w h h').mono ?_
 rintro e w' ⟨h1,hb⟩
 rcases h1 with ⟨h0,_⟩|⟨_,h1⟩
 ·omega
 ·exact ⟨h1,hb⟩
theorem whole_near (a:Option Addr) (n cap m:Nat) (a':Option Addr) (n' cap' d:Nat) (md:Nat) (hm:md≤4) (r q:Nat) (o:Bool) (hr:m % d = r) (hz:0 < r) (hq:m / d = q) (ho:decide (q / 2 ^ 0 % 2 = 1) = o) (hle:r≤d) (HF:Tel 39 #[.agg #[.bool false,.bool o,.int .i64 (cmpI r (d - r))],.int .u8 (md:Int)] (.bool false)) (w:World) (h:Num w a n m) (h':Num w a' n' d) (hd:0 < d) (HC:Hid (∀ W:World,Below w.heap.size w W→Calls Tryz.prog 20 #[.agg #[.bool false,.slice a n cap,.slice a' n' cap']] W fun e w'=>e = .returned (.int .i64 0)∧Below W.heap.size W w')) :
  Calls Tryz.prog 13 #[.agg #[.bool false,.slice a n cap,.slice a' n' cap'],.int .u8 (md:Int)] w fun e w'=>(∃ A N C,e = .returned (.tuple #[.bool false,.agg #[.slice A N C],.bool false,.int .i64 0])∧Mine w' w.heap.size A N C (q))∧Below w.heap.size w w':=by
 have H:=hide h
 have H':=hide h'
 have HD:=hide hd
 have HM:=hide hm
 clear h h' hd hm
 subst hr
 subst hq
 have HZ:=hide hz
 have HLE:=hide hle
 have HBt:Hid (∀ (W:World) (A:Option Addr) (N C:Nat),Num W A N (m / d)→Calls Tryz.prog 37 #[.agg #[.slice A N C],.int .i64 0] W fun e w'=>e = .returned (.tuple #[.bool o,.int .i64 0])∧Below W.heap.size W w'):=hide fun W A N C g=>by rw [← ho]; exact bit_any A N C _ 0 W g (by decide)
 clear hz hle ho
 go_enter Tryz.func13,Tryz.ntmps13
 go_wp2_with fail
 refine (tcheckF_ok false a n cap a' n' cap' md (unhide HM) _ (hide fun W hb=>unhide HC W (((Fs.two w _ _ _ _).kept hb).fr))).mono ?_
 rintro e w1 ⟨rfl,hb1⟩
 have hS:=(Fs.two w _ _ _ _).kept hb1
 obtain ⟨⟨ya,yb,yc,-⟩,⟨yd,-⟩,-⟩:=hS.cells
 have hltw1_0:w.heap.size < w1.heap.size:=hS.lt 0 rfl
 have hltw1_1:w.heap.size+1 < w1.heap.size:=hS.lt 1 rfl
 obtain ⟨WR,hWR⟩:∃ WR,w1.alloc (.cells #[.int .i64 0] 72) = WR:=⟨_,rfl⟩
 replace hS:=hS.alloc #[.int .i64 0] 72
 rw [hWR] at hS
 clear ya yb yc yd
 obtain ⟨⟨ye,-⟩,⟨yf,yg,yh,-⟩,⟨yi,-⟩,-⟩:=hS.cells
 have hsz1:w.heap.size≤WR.heap.size:=hS.size
 go_wp2_with fail
 refine (div_pos a a' n n' cap cap' m d _ ((unhide H).kept hS.fr) ((unhide H').kept hS.fr) (unhide HD)).mono ?_
 rintro e w2 ⟨⟨A1,N1,C1,A2,N2,C2,rfl,f1,f2⟩,hb2⟩
 replace hS:=hS.kept hb2
 clear ye yf yg yh yi
 obtain ⟨⟨yj,-⟩,⟨yk,yl,ym,-⟩,⟨yn,-⟩,-⟩:=hS.cells
 have G1:=hide (f1.mono (base':=w.heap.size) hsz1)
 have G2:=hide (f2.mono (base':=w.heap.size) hsz1)
 clear f1 f2 hsz1
 have hn2:0 < N2:=by have:=(unhide G2).num.zero; have:=unhide HZ; omega
 go_wp2_with fail
 refine (runNats_0 _ _ _ _ _ _ _ _ _ ⟨_,_,hS.bx ⟨w1.heap.size,#[.int .i64 0],72⟩ (by simp),rfl⟩).mono ?_
 rintro e w3 ⟨rfl,hb3⟩
 replace hS:=hS.kept hb3
 clear yj yk yl ym yn
 obtain ⟨⟨yo,-⟩,⟨yp,yq,yr,-⟩,⟨ys,-⟩,-⟩:=hS.cells
 replace G1:=hide ((unhide G1).kept hb3)
 replace G2:=hide ((unhide G2).kept hb3)
 have hltw3_0:w1.heap.size < w3.heap.size:=hS.lt 0 rfl
 have hltw3_1:w.heap.size < w3.heap.size:=hS.lt 1 rfl
 have hltw3_2:w.heap.size+1 < w3.heap.size:=hS.lt 2 rfl
 obtain ⟨WA,hWA⟩:∃ WA,w3.alloc (.cells #[.slice none 0 0] 26) = WA:=⟨_,rfl⟩
 replace hS:=hS.alloc #[.slice none 0 0] 26
 rw [hWA] at hS
 replace G1:=hide (hWA▸(unhide G1).alloc (.cells #[.slice none 0 0] 26))
 replace G2:=hide (hWA▸(unhide G2).alloc (.cells #[.slice none 0 0] 26))
 clear yo yp yq yr ys
 obtain ⟨⟨yt,-⟩,⟨yu,-⟩,⟨yv,yw,yx,-⟩,⟨yy,-⟩,-⟩:=hS.cells
 have fzWB:=hS.frozen (b:=w.heap.size+1) (cs:=#[.slice none 0 0]) (t:=26) (by simp) 0
 obtain ⟨WB,hWB⟩:∃ z9,WA.setCell ⟨w.heap.size+1,0,none⟩ (.slice A1 N1 C1) = z9:=⟨_,rfl⟩
 replace G1:=hide (hWB▸(unhide G1).put (t:=26) (hS.bx ⟨w.heap.size+1,#[.slice none 0 0],26⟩ (by simp)) (by decide) 0 (.slice A1 N1 C1))
 replace G2:=hide (hWB▸(unhide G2).put (t:=26) (hS.bx ⟨w.heap.size+1,#[.slice none 0 0],26⟩ (by simp)) (by decide) 0 (.slice A1 N1 C1))
 have hltWA_0:w3.heap.size < WA.heap.size:=hS.lt 0 rfl
 have hltWA_1:w1.heap.size < WA.heap.size:=hS.lt 1 rfl
 have hltWA_2:w.heap.size < WA.heap.size:=hS.lt 2 rfl
 have hltWA_3:w.heap.size+1 < WA.heap.size:=hS.lt 3 rfl
 replace hS:=hS.put (b:=w.heap.size+1) (cs:=#[.slice none 0 0]) (t:=26) (by simp) (by first|omega|(simp <;> omega)) 0 (.slice A1 N1 C1) [⟨w3.heap.size,#[.slice none 0 0],26⟩,⟨w1.heap.size,#[.int .i64 0],72⟩,⟨w.heap.size,#[.bool false,.slice a n cap,.slice a' n' cap'],28⟩,⟨w.heap.size+1,#[.slice A1 N1 C1],26⟩] (by simp <;> omega)
 rw [hWB] at hS
 obtain ⟨⟨yz,-⟩,⟨y0,-⟩,⟨y1,y2,y3,-⟩,⟨y4,-⟩,-⟩:=hS.cells
 have fzWC:=hS.frozen (b:=w3.heap.size) (cs:=#[.slice none 0 0]) (t:=26) (by simp) 0
 obtain ⟨WC,hWC⟩:∃ z9,WB.setCell ⟨w3.heap.size,0,none⟩ (.slice A2 N2 C2) = z9:=⟨_,rfl⟩
 replace G1:=hide (hWC▸(unhide G1).put (t:=26) (hS.bx ⟨w3.heap.size,#[.slice none 0 0],26⟩ (by simp)) (by decide) 0 (.slice A2 N2 C2))
 replace G2:=hide (hWC▸(unhide G2).put (t:=26) (hS.bx ⟨w3.heap.size,#[.slice none 0 0],26⟩ (by simp)) (by decide) 0 (.slice A2 N2 C2))
 have hltWB_0:w3.heap.size < WB.heap.size:=hS.lt 0 rfl
 have hltWB_1:w1.heap.size < WB.heap.size:=hS.lt 1 rfl
 have hltWB_2:w.heap.size < WB.heap.size:=hS.lt 2 rfl
 have hltWB_3:w.heap.size+1 < WB.heap.size:=hS.lt 3 rfl
 replace hS:=hS.put (b:=w3.heap.size) (cs:=#[.slice none 0 0]) (t:=26) (by simp) (by first|omega|(simp <;> omega)) 0 (.slice A2 N2 C2) [⟨w3.heap.size,#[.slice A2 N2 C2],26⟩,⟨w1.heap.size,#[.int .i64 0],72⟩,⟨w.heap.size,#[.bool false,.slice a n cap,.slice a' n' cap'],28⟩,⟨w.heap.size+1,#[.slice A1 N1 C1],26⟩] (by simp <;> omega)
 rw [hWC] at hS
 obtain ⟨⟨y5,-⟩,⟨y6,-⟩,⟨y7,y8,y9,-⟩,⟨yba,-⟩,-⟩:=hS.cells
 go_wp2_with fail
 clear yt yu yv yw yx yy fzWB yz y0 y1 y2 y3 y4 fzWC
 go_wp2_with fail
 refine (rnought_no A2 N2 C2 hn2 _).mono ?_
 rintro e w4 ⟨rfl,hb4⟩
 replace hS:=hS.kept hb4
 clear y5 y6 y7 y8 y9 yba
 obtain ⟨⟨ybb,-⟩,⟨ybc,-⟩,⟨ybd,ybe,ybf,-⟩,⟨ybg,-⟩,-⟩:=hS.cells
 replace G1:=hide ((unhide G1).kept hb4)
 replace G2:=hide ((unhide G2).kept hb4)
 clear hn2
 go_wp2_with fail
 have hS3s:w.heap.size≤w4.heap.size:=hS.size
 have hs9:∀ x9:Nat×(Pk→World→Prop),x9∈([(4,fun q W=>Mine W w.heap.size q.A q.N q.C (d - m % d)),(14,fun _ W=>Mine W w.heap.size A1 N1 C1 (m / d)),(15,fun _ W=>Mine W w.heap.size A2 N2 C2 (m % d))]:List (Nat×(Pk→World→Prop)))→∀ q9:Pk,St w.heap.size (x9.2 q9):=by
  intro x hx q
  simp only [List.mem_cons,List.not_mem_nil,or_false] at hx
  rcases hx with rfl|rfl|rfl
  ·exact st_mine _ _ _ _ _
  ·exact st_mine2 _ _ _ _
  ·exact st_mine2 _ _ _ _
 have h09:∀ x9:Nat×(Pk→World→Prop),x9∈([(4,fun q W=>Mine W w.heap.size q.A q.N q.C (d - m % d)),(14,fun _ W=>Mine W w.heap.size A1 N1 C1 (m / d)),(15,fun _ W=>Mine W w.heap.size A2 N2 C2 (m % d))]:List (Nat×(Pk→World→Prop)))→14≤x9.1→x9.2 ⟨none,0,0⟩ w4:=by
  intro x hx hn9
  simp only [List.mem_cons,List.not_mem_nil,or_false] at hx
  rcases hx with rfl|rfl|rfl
  ·exact absurd hn9 (by simp)
  ·exact unhide G1
  ·exact unhide G2
 refine wp_region_any (by kernel_rfl) ?_
 refine wpAny_pick (fun p9=>[some (40,.agg #[.slice A2 N2 C2]),some (41,.pointer (some ⟨w.heap.size,2,none⟩)),some (42,.agg #[.slice a' n' cap']),some (43,.agg #[.slice A2 N2 C2]),some (44,.tuple #[.agg #[.slice (p9 4).A (p9 4).N (p9 4).C],.bool true,.int .i64 0]),some (45,.agg #[.slice (p9 4).A (p9 4).N (p9 4).C]),some (46,.bool true),some (47,.int .i64 0),some (48,.agg #[.slice (p9 4).A (p9 4).N (p9 4).C]),some (49,.tuple #[.int .i64 (cmpI (m % d) (d - m % d)),.int .i64 0]),some (50,.int .i64 (cmpI (m % d) (d - m % d))),some (51,.int .i64 0),some (52,.int .i64 (cmpI (m % d) (d - m % d))),some (11,.int .i64 (cmpI (m % d) (d - m % d)))])
  (fun p9 l9 W9=>Pm w w.heap.size [(4,fun q W=>Mine W w.heap.size q.A q.N q.C (d - m % d)),(14,fun _ W=>Mine W w.heap.size A1 N1 C1 (m / d)),(15,fun _ W=>Mine W w.heap.size A2 N2 C2 (m % d))] p9 l9 W9 [⟨w3.heap.size,#[.slice A2 N2 C2],26⟩,⟨w1.heap.size,#[.int .i64 0],72⟩,⟨w.heap.size,#[.bool false,.slice a n cap,.slice a' n' cap'],28⟩,⟨w.heap.size+1,#[.slice A1 N1 C1],26⟩]) _ _ (fun _=>rfl) (by kernel_rfl) (fun _=>rfl) (fun _=>rfl) ?_ ?_ (fun _=>⟨none,0,0⟩) (Pm.start2 hS _ _ _ (by omega) hs9 h09)
 ·intro p9 l9 t9 W9 i9 hD hi9 hl9 hM
  obtain ⟨o9,ho9,hd9⟩:=(mem_ready.1 hi9).2
  have hin9:i9 < 14:=by
   by_cases h:i9 < 14
   ·exact h
   ·rw [Array.getElem?_eq_none (by rw [hD.len]; simp; omega)] at hl9; cases hl9
  have hcase:i9 = 0∨i9 = 1∨i9 = 2∨i9 = 3∨i9 = 4∨i9 = 5∨i9 = 6∨i9 = 7∨i9 = 8∨i9 = 9∨i9 = 10∨i9 = 11∨i9 = 12∨i9 = 13:=by omega
  clear hin9
  rcases hcase with rfl|rfl|rfl|rfl|rfl|rfl|rfl|rfl|rfl|rfl|rfl|rfl|rfl|rfl
  ·cases ho9
   have r10:=hD.old 10 _ rfl rfl
   have hM0:=hM.st
   have c9_0:=hM0.cellAt (b:=w3.heap.size) (cs:=#[.slice A2 N2 C2]) (t:=26) (by simp) 0 _ rfl
   clear hM0
   refine wpOp_step rfl fun K hK=>?_
   go_simp
   exact hK _ _ ⟨p9,fun _ _=>rfl,rfl,(hM.val rfl)⟩
  ·cases ho9
   have r2:=hD.old 2 _ rfl rfl
   refine wpOp_step rfl fun K hK=>?_
   go_simp
   exact hK _ _ ⟨p9,fun _ _=>rfl,rfl,(hM.val rfl)⟩
  ·cases ho9
   have r41:=hD.od hd9 1 41 _ rfl (by simp)
   have hM0:=hM.st
   have c9_0:=hM0.cellAt (b:=w.heap.size) (cs:=#[.bool false,.slice a n cap,.slice a' n' cap']) (t:=28) (by simp) 2 _ rfl
   clear hM0
   refine wpOp_step rfl fun K hK=>?_
   go_simp
   exact hK _ _ ⟨p9,fun _ _=>rfl,rfl,(hM.val rfl)⟩
  ·cases ho9
   have r10:=hD.old 10 _ rfl rfl
   have hM0:=hM.st
   have c9_0:=hM0.cellAt (b:=w3.heap.size) (cs:=#[.slice A2 N2 C2]) (t:=26) (by simp) 0 _ rfl
   clear hM0
   refine wpOp_step rfl fun K hK=>?_
   go_simp
   exact hK _ _ ⟨p9,fun _ _=>rfl,rfl,(hM.val rfl)⟩
  ·cases ho9
   have r42:=hD.od hd9 2 42 _ rfl (by simp)
   have r43:=hD.od hd9 3 43 _ rfl (by simp)
   have ga0:=hM.fx _ (List.mem_of_getElem? (i:=1) rfl) (Or.inr (by rw [hD.len]; simp))
   try simp only [] at ga0
   have ga1:=hM.fx _ (List.mem_of_getElem? (i:=2) rfl) (Or.inr (by rw [hD.len]; simp))
   try simp only [] at ga1
   have HD:=hide hD
   refine wpOp_step rfl fun K hK=>?_
   go_simp
   go_wp2_with fail
   refine (sub_pos a' A2 n' N2 cap' C2 d (m % d) _ ((unhide H').kept hM.st.fr) ga1.num (unhide HLE)).mono ?_
   rintro en w9 ⟨⟨a9,n9,c9,rfl,h9⟩,hb9⟩
   refine hK _ _ ⟨p9.set 4 ⟨a9,n9,c9⟩,?_,rfl,((hM.kept hs9 hb9).pick ⟨a9,n9,c9⟩ ?_)⟩
   ·intro k9 hk9
    clear hM hK
    match k9,hk9 with
    | 0,_=>rfl
    | 1,_=>rfl
    | 2,_=>rfl
    | 3,_=>rfl
    | 4,hk9=>exact absurd (hl9.symm.trans hk9) (by simp)
    | 5,hk9=>exact absurd (hl9.symm.trans (getD_true ((unhide HD).shut 5 _ (hk9) rfl ⟨4,.data⟩ (by simp) rfl))) (by simp)
    | 6,hk9=>exact absurd (hl9.symm.trans (getD_true ((unhide HD).shut 6 _ (hk9) rfl ⟨4,.data⟩ (by simp) rfl))) (by simp)
    | 7,hk9=>exact absurd (hl9.symm.trans (getD_true ((unhide HD).shut 7 _ (hk9) rfl ⟨4,.data⟩ (by simp) rfl))) (by simp)
    | 8,hk9=>exact absurd (hl9.symm.trans (getD_true ((unhide HD).shut 8 _ (hk9) rfl ⟨4,.chain⟩ (by simp) rfl))) (by simp)
    | 9,hk9=>exact absurd (hl9.symm.trans (getD_true ((unhide HD).shut 8 _ (getD_true ((unhide HD).shut 9 _ (hk9) rfl ⟨8,.data⟩ (by simp) rfl)) rfl ⟨4,.chain⟩ (by simp) rfl))) (by simp)
    | 10,hk9=>exact absurd (hl9.symm.trans (getD_true ((unhide HD).shut 8 _ (getD_true ((unhide HD).shut 9 _ (getD_true ((unhide HD).shut 10 _ (hk9) rfl ⟨9,.data⟩ (by simp) rfl)) rfl ⟨8,.data⟩ (by simp) rfl)) rfl ⟨4,.chain⟩ (by simp) rfl))) (by simp)
    | 11,hk9=>exact absurd (hl9.symm.trans (getD_true ((unhide HD).shut 8 _ (getD_true ((unhide HD).shut 9 _ (getD_true ((unhide HD).shut 11 _ (hk9) rfl ⟨9,.data⟩ (by simp) rfl)) rfl ⟨8,.data⟩ (by simp) rfl)) rfl ⟨4,.chain⟩ (by simp) rfl))) (by simp)
    | 12,hk9=>exact absurd (hl9.symm.trans (getD_true ((unhide HD).shut 8 _ (getD_true ((unhide HD).shut 9 _ (getD_true ((unhide HD).shut 12 _ (hk9) rfl ⟨9,.chain⟩ (by simp) rfl)) rfl ⟨8,.data⟩ (by simp) rfl)) rfl ⟨4,.chain⟩ (by simp) rfl))) (by simp)
    | 13,hk9=>exact absurd (hl9.symm.trans (getD_true ((unhide HD).shut 13 _ (hk9) rfl ⟨4,.phase⟩ (by simp) rfl))) (by simp)
    | k9+14,_=>rfl
   ·intro x hx he; simp only [List.mem_cons,List.not_mem_nil,or_false] at hx; rcases hx with rfl|rfl|rfl
    ·exact h9.mono hM.bw
    ·exact absurd he (by simp)
    ·exact absurd he (by simp)
  ·cases ho9
   have r44:=hD.od hd9 4 44 _ rfl (by simp)
   refine wpOp_step rfl fun K hK=>?_
   go_simp
   exact hK _ _ ⟨p9,fun _ _=>rfl,rfl,(hM.val rfl)⟩
  ·cases ho9
   have r44:=hD.od hd9 4 44 _ rfl (by simp)
   refine wpOp_step rfl fun K hK=>?_
   go_simp
   exact hK _ _ ⟨p9,fun _ _=>rfl,rfl,(hM.val rfl)⟩
  ·cases ho9
   have r44:=hD.od hd9 4 44 _ rfl (by simp)
   refine wpOp_step rfl fun K hK=>?_
   go_simp
   exact hK _ _ ⟨p9,fun _ _=>rfl,rfl,(hM.val rfl)⟩
  ·cases ho9
   have r9:=hD.old 9 _ rfl rfl
   have r45:=hD.od hd9 5 45 _ rfl (by simp)
   have r46:=hD.od hd9 6 46 _ rfl (by simp)
   have r47:=hD.od hd9 7 47 _ rfl (by simp)
   have ga0:=hM.fx _ (List.mem_of_getElem? (i:=1) rfl) (Or.inr (by rw [hD.len]; simp))
   try simp only [] at ga0
   have ga1:=hM.fx _ (List.mem_of_getElem? (i:=2) rfl) (Or.inr (by rw [hD.len]; simp))
   try simp only [] at ga1
   have g4:=hM.fx _ (List.mem_of_getElem? (i:=0) rfl) (Or.inl (getD_true (hd9 ⟨4,.chain⟩ (by simp) rfl)))
   simp only [] at g4
   refine wpOp_step rfl fun K hK=>?_
   go_simp
   go_wp2_with fail
   refine (runLess_0 _ _ _ _ _ _ _ ⟨_,_,hM.st.bx ⟨w1.heap.size,#[.int .i64 0],72⟩ (by simp),rfl⟩).mono ?_
   rintro en w9 ⟨rfl,hb9⟩
   exact hK _ _ ⟨p9,fun _ _=>rfl,rfl,((hM.kept hs9 hb9).val rfl)⟩
  ·cases ho9
   have r40:=hD.od hd9 0 40 _ rfl (by simp)
   have r48:=hD.od hd9 8 48 _ rfl (by simp)
   have ga0:=hM.fx _ (List.mem_of_getElem? (i:=1) rfl) (Or.inr (by rw [hD.len]; simp))
   try simp only [] at ga0
   have ga1:=hM.fx _ (List.mem_of_getElem? (i:=2) rfl) (Or.inr (by rw [hD.len]; simp))
   try simp only [] at ga1
   have g4:=hM.fx _ (List.mem_of_getElem? (i:=0) rfl) (Or.inl (getD_true (hD.shut 8 _ (getD_true (hd9 ⟨8,.data⟩ (by simp) rfl)) rfl ⟨4,.chain⟩ (by simp) rfl)))
   simp only [] at g4
   refine wpOp_step rfl fun K hK=>?_
   go_simp
   go_wp2_with fail
   refine (cmpN_any _ _ _ _ _ _ _ _ _ ga1.num g4.num).mono ?_
   rintro en w9 ⟨rfl,hb9⟩
   exact hK _ _ ⟨p9,fun _ _=>rfl,rfl,((hM.kept hs9 hb9).val rfl)⟩
  ·cases ho9
   have r49:=hD.od hd9 9 49 _ rfl (by simp)
   refine wpOp_step rfl fun K hK=>?_
   go_simp
   exact hK _ _ ⟨p9,fun _ _=>rfl,rfl,(hM.val rfl)⟩
  ·cases ho9
   have r49:=hD.od hd9 9 49 _ rfl (by simp)
   refine wpOp_step rfl fun K hK=>?_
   go_simp
   exact hK _ _ ⟨p9,fun _ _=>rfl,rfl,(hM.val rfl)⟩
  ·cases ho9
   have r9:=hD.old 9 _ rfl rfl
   have r50:=hD.od hd9 10 50 _ rfl (by simp)
   have r51:=hD.od hd9 11 51 _ rfl (by simp)
   have ga0:=hM.fx _ (List.mem_of_getElem? (i:=1) rfl) (Or.inr (by rw [hD.len]; simp))
   try simp only [] at ga0
   have ga1:=hM.fx _ (List.mem_of_getElem? (i:=2) rfl) (Or.inr (by rw [hD.len]; simp))
   try simp only [] at ga1
   have g4:=hM.fx _ (List.mem_of_getElem? (i:=0) rfl) (Or.inl (getD_true (hD.shut 8 _ (getD_true (hD.shut 9 _ (getD_true (hD.shut 10 _ (getD_true (hd9 ⟨10,.data⟩ (by simp) rfl)) rfl ⟨9,.data⟩ (by simp) rfl)) rfl ⟨8,.data⟩ (by simp) rfl)) rfl ⟨4,.chain⟩ (by simp) rfl)))
   simp only [] at g4
   refine wpOp_step rfl fun K hK=>?_
   go_simp
   go_wp2_with fail
   refine (runInt_0 _ _ _ _ ⟨_,_,hM.st.bx ⟨w1.heap.size,#[.int .i64 0],72⟩ (by simp),rfl⟩).mono ?_
   rintro en w9 ⟨rfl,hb9⟩
   exact hK _ _ ⟨p9,fun _ _=>rfl,rfl,((hM.kept hs9 hb9).val rfl)⟩
  ·cases ho9
   have r52:=hD.od hd9 12 52 _ rfl (by simp)
   refine wpOp_step rfl fun K hK=>?_
   go_simp
   exact hK _ _ ⟨p9,fun _ _=>rfl,rfl,(hM.val rfl)⟩
 ·intro p9 l9 W9 hn9 hl9 hM
  have fr8_4:=hM.fx _ (List.mem_of_getElem? (i:=0) rfl) (Or.inl (hl9 4 (by decide)))
  have kr8_0:=hM.fx _ (List.mem_of_getElem? (i:=1) rfl) (Or.inr (by rw [hn9]; simp))
  try simp only [] at kr8_0
  have kr8_1:=hM.fx _ (List.mem_of_getElem? (i:=2) rfl) (Or.inr (by rw [hn9]; simp))
  try simp only [] at kr8_1
  replace hM:=hM.st
  clear hl9 hs9 h09 hn9
  generalize p9 4 = q4 at *
  obtain ⟨Ar8_4,Nr8_4,Cr8_4⟩:=q4
  simp only [] at fr8_4
  clear hS ybb ybc ybd ybe ybf ybg
  have hS:=hM
  clear hM
  simp only [Puts.lay,List.setIfInBounds_toArray,List.set_cons_zero,List.set_cons_succ]
  obtain ⟨⟨ybh,-⟩,⟨ybi,-⟩,⟨ybj,ybk,ybl,-⟩,⟨ybm,-⟩,-⟩:=hS.cells
  have K1:=hide kr8_0
  clear kr8_0 kr8_1 fr8_4 G1 G2
  go_wp2_with fail
  refine (unhide HBt _ _ _ _ (unhide K1).num).mono ?_
  rintro e w5 ⟨rfl,hb5⟩
  replace hS:=hS.kept hb5
  clear ybh ybi ybj ybk ybl ybm
  obtain ⟨⟨ybn,-⟩,⟨ybo,-⟩,⟨ybp,ybq,ybr,-⟩,⟨ybs,-⟩,-⟩:=hS.cells
  replace K1:=hide ((unhide K1).kept hb5)
  go_wp2_with fail
  refine (keep_0 _ _ _ ⟨_,_,hS.bx ⟨w1.heap.size,#[.int .i64 0],72⟩ (by simp),rfl⟩).mono ?_
  rintro e w6 ⟨rfl,hb6⟩
  replace hS:=hS.kept hb6
  clear ybn ybo ybp ybq ybr ybs
  obtain ⟨⟨ybt,-⟩,⟨ybu,-⟩,⟨ybv,ybw,ybx,-⟩,⟨yby,-⟩,-⟩:=hS.cells
  replace K1:=hide ((unhide K1).kept hb6)
  have hltw6_0:w3.heap.size < w6.heap.size:=hS.lt 0 rfl
  have hltw6_1:w1.heap.size < w6.heap.size:=hS.lt 1 rfl
  have hltw6_2:w.heap.size < w6.heap.size:=hS.lt 2 rfl
  have hltw6_3:w.heap.size+1 < w6.heap.size:=hS.lt 3 rfl
  obtain ⟨WT,hWT⟩:∃ WT,w6.alloc (.cells #[.bool false,.bool o,.int .i64 (cmpI (m % d) (d - m % d))] 87) = WT:=⟨_,rfl⟩
  replace hS:=hS.alloc #[.bool false,.bool o,.int .i64 (cmpI (m % d) (d - m % d))] 87
  rw [hWT] at hS
  replace K1:=hide (hWT▸(unhide K1).alloc (.cells #[.bool false,.bool o,.int .i64 (cmpI (m % d) (d - m % d))] 87))
  obtain ⟨⟨ybz,yb0,yb1,-⟩,⟨yb2,-⟩,⟨yb3,-⟩,⟨yb4,yb5,yb6,-⟩,⟨yb7,-⟩,-⟩:=hS.cells
  go_wp2_with fail
  refine (HF _).mono ?_
  rintro e w7 ⟨rfl,hb7⟩
  replace hS:=hS.kept hb7
  clear ybz yb0 yb1 yb2 yb3 yb4 yb5 yb6 yb7 ybt ybu ybv ybw ybx yby
  obtain ⟨⟨yb8,yb9,yca,-⟩,⟨ycb,-⟩,⟨ycc,-⟩,⟨ycd,yce,ycf,-⟩,⟨ycg,-⟩,-⟩:=hS.cells
  replace K1:=hide ((unhide K1).kept hb7)
  have fz0:=hS.frozen (b:=w.heap.size+1) (cs:=#[.slice A1 N1 C1]) (t:=26) (by simp) 0
  go_wp2
  go_region
  go_wp2
  exact bodyPost_ret (v:=.tuple #[.bool false,.agg #[.slice A1 N1 C1],.bool false,.int .i64 0]) (by simp [results,Tryz.results13,go_sem,ycg]) rfl ⟨⟨_,_,_,rfl,(unhide K1).put (t:=26) (hS.bx ⟨w.heap.size+1,#[.slice A1 N1 C1],26⟩ (by simp)) (by decide) 0 _⟩,(hS.fr.setCell (show w.heap.size≤w.heap.size+1 by omega) _).drew⟩
theorem no_over {m K:Nat} (h:m < 2 ^ K) (hK:K≤524288):¬ Over m:=not_over h hK
theorem ans_ok {w:World} {base:Nat} {e:Ending} {m:Nat} (h:Ans w base e m) (hn:¬ Over m):∃ a n cap,e = .returned (.tuple #[.agg #[.slice a n cap],.int .i64 0])∧Mine w base a n cap m:=by
 rcases h with h|⟨_,h⟩
 ·exact h
 ·exact absurd h hn
theorem hbits (m:Nat):HBits m (blen m):=fun W A N C h=>(bits_any A N C m W h).mono fun e W' ⟨⟨k,h1,h2,_⟩,hb⟩=>⟨by rw [h1,h2.uniq (bl_blen m)],hb⟩
theorem hup {m k:Nat} (hk:k < 9223372036854775808) (ho:¬ Over (m * 2 ^ k)):HUp m k (m * 2 ^ k):=fun W A N C h=>(up_any A N C m k W h hk).mono fun _ _ ⟨h1,hb⟩=>⟨ans_ok h1 ho,hb⟩
theorem hmul {x y:Nat} (ho:¬ Over (x * y)):HTwo 102 x y (x * y):=fun W a n c a' n' c' h h'=>(mul_any a a' n n' c c' x y W h h').mono fun _ _ ⟨h1,hb⟩=>⟨ans_ok h1 ho,hb⟩
theorem hadd {x y:Nat} (ho:¬ Over (x+y)):HTwo 41 x y (x+y):=fun W a n c a' n' c' h h'=>(add_any a a' n n' c c' x y W h h').mono fun _ _ ⟨h1,hb⟩=>⟨ans_ok h1 ho,hb⟩
theorem hdiv {x d:Nat} (hd:0 < d):HDiv x d (x / d) (x % d):=fun W a n c a' n' c' h h'=>div_pos a a' n n' c c' x d W h h' hd
theorem hpow0:HPow0:=fun W=>by
 have:=pow_any 5 0 W (by omega) (by omega)
 exact this.mono fun _ _ ⟨h1,hb⟩=>⟨ans_ok h1 (no_over (K:=1) (by decide) (by omega)),hb⟩
def sLift (m d:Nat):Nat:=blen d - blen m
def sOne (m d:Nat):Nat:=m * 2 ^ sLift m d
def sMore (m d:Nat):Nat:=65+blen d - blen (sOne m d)
def sAll (m d:Nat):Nat:=sOne m d * 2 ^ sMore m d
def sAns (m d:Nat):Nat:=if sAll m d % d = 0 then 2 * (sAll m d / d) else 2 * (sAll m d / d)+1
def sExp (m d:Nat):Int:=-(sLift m d:Int) - (sMore m d:Int) - 1
theorem blen_lt {m K:Nat} (h:blen m≤K):m < 2 ^ K:=Nat.lt_of_lt_of_le (bl_blen m).1 (Nat.pow_le_pow_right (by omega) h)
theorem blen_one:blen 1 = 1:=by decide
theorem parts_div {t d f:Nat} (hd:0 < d):t / d * f+t % d * f / d = t * f / d∧t % d * f % d = t * f % d:=by
 have h:=Nat.div_add_mod t d
 have h1:t * f = t % d * f+d * (t / d * f):=by
  conv=>lhs; rw [← h]
  rw [Nat.add_mul,Nat.mul_assoc]; omega
 rw [h1]
 exact ⟨by rw [Nat.add_mul_div_left _ _ hd]; omega,by rw [Nat.add_mul_mod_self_left]⟩
theorem sfirst_any (W:World) (p:Nat) (a1 a2 a3 a4:Option Addr) (n1 n2 n3 n4 c1 c2 c3 c4 m d:Nat) (hk:Rn W p 0) (h1:Num W a1 n1 m) (h2:Num W a2 n2 1) (h3:Num W a3 n3 d) (h4:Num W a4 n4 1) (hd:0 < d) (bm:blen m≤100000) (bd:blen d≤100000) (hr:blen d≤blen m+4096) :
  Calls Tryz.prog 84 #[.agg #[.slice a1 n1 c1,.slice a2 n2 c2,.slice a3 n3 c3,.slice a4 n4 c4,.int .i64 0],.pointer (some ⟨p,0,none⟩)] W fun en W'=>(∃ A N C,en = .returned (.tuple #[.agg #[.slice A N C],.int .i64 (sExp m d)])∧Mine W' W.heap.size A N C (sAns m d))∧Below W.heap.size W W':=by
 obtain ⟨lift,hlift⟩:∃ lift,sLift m d = lift:=⟨_,rfl⟩
 obtain ⟨t1,ht1⟩:∃ t1,sOne m d = t1:=⟨_,rfl⟩
 obtain ⟨more,hmore⟩:∃ more,sMore m d = more:=⟨_,rfl⟩
 have el:lift≤4096:=by rw [← hlift]; unfold sLift; omega
 have em:more≤100065:=by rw [← hmore]; unfold sMore; omega
 obtain ⟨K0,hK0⟩:∃ K,K = 100000:=⟨_,rfl⟩
 obtain ⟨K4,hK4⟩:∃ K,K = 4096:=⟨_,rfl⟩
 obtain ⟨K1,hK1⟩:∃ K,K = 104096:=⟨_,rfl⟩
 obtain ⟨K2,hK2⟩:∃ K,K = 100065:=⟨_,rfl⟩
 obtain ⟨K3,hK3⟩:∃ K,K = 204161:=⟨_,rfl⟩
 have b1:t1 < 2 ^ K1:=by
  rw [← ht1]; unfold sOne
  rw [hlift,show K1 = K0+K4 from by omega,Nat.pow_add]
  exact Nat.mul_lt_mul_of_lt_of_le (blen_lt (by omega)) (Nat.pow_le_pow_right (by omega) (by omega)) (Nat.pow_pos (by omega))
 have b2:2 ^ more≤2 ^ K2:=Nat.pow_le_pow_right (by omega) (by omega)
 have b3:t1 * 2 ^ more < 2 ^ K3:=by
  rw [show K3 = K1+K2 from by omega,Nat.pow_add]
  exact Nat.mul_lt_mul_of_lt_of_le b1 b2 (Nat.pow_pos (by omega))
 have hall:sAll m d = t1 * 2 ^ more:=by unfold sAll; rw [ht1,hmore]
 obtain ⟨e1,e2⟩:=parts_div (t:=t1) (f:=2 ^ more) hd
 have hq:t1 * 2 ^ more / d≤t1 * 2 ^ more:=Nat.div_le_self _ _
 have l1:t1 / d * 2 ^ more≤t1 * 2 ^ more / d:=by rw [← e1]; exact Nat.le_add_right _ _
 have l2:t1 % d * 2 ^ more≤t1 * 2 ^ more:=Nat.mul_le_mul_right _ (Nat.mod_le _ _)
 have i5:blen t1≤104096:=by have:=(bl_blen t1).le_of b1; omega
 have p0:2 ^ K3 * 2 = 2 ^ (K3+1):=(Nat.pow_succ ..).symm
 have lt9:∀ {v:Nat},v < 2 ^ K3 * 2→¬ Over v:=fun {v} h=>no_over (K:=K3+1) (by rw [← p0]; exact h) (by omega)
 obtain ⟨T,hT⟩:∃ T,2 ^ K3 = T:=⟨_,rfl⟩
 rw [hT] at b3 lt9
 have hT1:1 < T:=by rw [← hT]; exact Nat.one_lt_two_pow (by omega)
 clear p0 hT
 have key:=sfirst_is W p a1 a2 a3 a4 n1 n2 n3 n4 c1 c2 c3 c4 m 1 d 1 (blen m) 1 (blen d) 1 (blen t1) lift more t1 (2 ^ more) (t1 / d) (t1 % d) (t1 % d * 2 ^ more / d) (t1 / d * 2 ^ more) (t1 * 2 ^ more / d) (t1 * 2 ^ more / d) 0 (t1 * 2 ^ more / d * 2) (t1 * 2 ^ more / d * 2+1) 0 ((blen t1:Int) - (blen d:Int)) (!decide (t1 % d * 2 ^ more % d = 0)) (sAns m d) hk h1 h2 h3 h4 (by omega) (by omega) (by omega) (by omega) (by omega)
  (by rw [← hlift]; unfold sLift; omega) (by omega) (by rw [← hmore]; unfold sMore; rw [ht1]; omega) (by omega) (by omega) (by omega) (by omega)
  (hide (by
   rw [e2]
   unfold sAns
   rw [hall]
   by_cases hz:t1 * 2 ^ more % d = 0
   ·right; right
    rw [if_pos hz]
    exact ⟨by simp [hz],rfl,by omega⟩
   ·left
    rw [if_neg hz]
    exact ⟨by simp [hz],by omega⟩))
  (hide (hbits m)) (hide (by have:=hbits 1; rw [blen_one] at this; exact this)) (hide (hbits d)) (hide (by have:=hbits 1; rw [blen_one] at this; exact this)) (hide (hbits t1))
  (hide (by have:=hup (m:=m) (k:=lift) (by omega) (by rw [← hlift]; exact no_over (K:=K1) (by have:=b1; rw [← ht1] at this; exact this) (by omega)); rw [show m * 2 ^ lift = t1 from by rw [← ht1,← hlift]; rfl] at this; exact this))
  (hide (by have:=hup (m:=1) (k:=more) (by omega) (by rw [Nat.one_mul]; exact no_over (K:=K2+1) (Nat.lt_of_le_of_lt b2 (Nat.pow_lt_pow_right (by omega) (by omega))) (by omega)); rw [Nat.one_mul] at this; exact this))
  (hide (hdiv hd))
  (hide fun W a n c b k l d9 m9 e9 q1 q2 q3 q4=>sshare_is W p a b d9 n c k l m9 e9 (t1 % d) (2 ^ more) d (t1 % d * 2 ^ more) _ _ q1 q2 q3 q4 (hide (hmul (lt9 (by omega)))) (hide (hdiv hd)))
  (hide (hmul (lt9 (by omega)))) (hide (by have:=hadd (x:=t1 / d * 2 ^ more) (y:=t1 % d * 2 ^ more / d) (lt9 (by omega)); rw [e1] at this; exact this))
  (hide (by have:=hdiv (x:=t1 * 2 ^ more / d) (d:=1) (by omega); rw [Nat.div_one,Nat.mod_one] at this; exact this))
  (hide (by have:=hup (m:=t1 * 2 ^ more / d) (k:=1) (by omega) (lt9 (by rw [Nat.pow_one]; omega)); rw [Nat.pow_one] at this; exact this))
  (hide (hadd (lt9 (by omega))))
 have ee:(0:Int) - (lift:Int) - (more:Int) - 1 = sExp m d:=by unfold sExp; rw [hlift,hmore]; omega
 rw [ee] at key
 exact key
theorem sratio_is {E F S I B md:Nat} (h:Fm E F S I) (hB:B = 2 ^ (E - 1) - 1) (hm:md≤4) (ng s:Bool) (a b:Option Addr) (n c k l m d:Nat) (w:World) (hT:Tb w) (h1:Num w a n m) (h2:Num w b k d) (h0:m≠0) (hd:0 < d) (bm:blen m≤100000) (bd:blen d≤100000) (hr1:blen d≤blen m+4096) (hr2:blen m≤blen d+4096)
  (HC:Hid (∀ W:World,Num W a n m→Num W b k d→Calls Tryz.prog 20 #[.agg #[.bool s,.slice a n c,.slice b k l]] W fun e W'=>e = .returned (.int .i64 0)∧Below W.heap.size W W')) (z M K:Nat) (X:Int) (hz:Tz (sAns m d) z) (hz2:z≤300000) (hM:sAns m d / 2 ^ z = M) (hX:sExp m d+(z:Int) = X) (hK:Bl M K) :
  Calls Tryz.prog 7 #[.agg #[.int .i64 E,.int .i64 F],.agg #[.bool s,.slice a n c,.slice b k l],.bool ng,.int .u8 (md:Int)] w fun e w'=>e = .returned (.tuple #[.int .u64 (bitsR S I md s (rowR B F md s M K X):Int),.int .u8 (flagR B F I md s M K X:Int),.int .i64 0])∧Below w.heap.size w w':=by
 obtain ⟨q,hq⟩:=hz
 have hMq:M = 2 * q+1:=by rw [← hM,hq,Nat.mul_div_cancel_left _ (Nat.pow_pos (by omega))]
 have hX2:-204200≤sExp m d∧sExp m d≤0:=by unfold sExp sLift sMore; omega
 refine sratio_w w E F md s ng a b n c k l m d _ _ h1 h2 (hide fun W hb q1 q2=>?_)
 refine sscaled_is W E F md s ng a b n c k l m d X M _ _ h.fo hm (hT.kept hb) q1 q2 HC (hide fun W t9 r1 r2=>?_) (hide fun W B9 A N C g=>?_)
 ·refine sstand_is W s a b n c k l m d (blen m) (blen d) ((blen m:Int) - (blen d:Int)) (sExp m d) X (sAns m d) M t9 r1 r2 h0 (by omega) (by omega) rfl (by omega) (by omega) (hide (hbits m)) (hide (hbits d)) (hide hpow0) (hide fun W p A N C A' N' C' x1 x2 x3 x4 x5=>sfirst_any W p a A b A' n N k N' c C l C' m d x1 x2 x3 x4 x5 hd bm bd hr1) (hide fun W B9 A N C t8 g=>?_)
  obtain ⟨g1,g2⟩:=mine_caps g
  have:=make_ok s A N C (sAns m d) z (sExp m d) W g.num (by rw [hq]; exact Nat.mul_pos (Nat.pow_pos (by omega)) (by omega)) t8 ⟨q,hq⟩ (by omega) g1 g2 (by omega)
  rw [hM,hX] at this
  exact this
 ·exact rounded_any h hB hm ng s A N C M K X W B9 g ⟨by omega,by omega,by omega⟩ hK
def nmL (j:Nat):List UInt8:=match j with
 | 0=>[101,118,101,110]
 | 1=>[97,119,97,121]
 | 2=>[122,101,114,111]
 | 3=>[117,112]
 | _=>[100,111,119,110]
structure Nb5 (w:World):Prop where
 lt:0 < w.heap.size
 c0:w.cell? ⟨0,0,none⟩ = some (.string ⟨#[101,118,101,110]⟩)
 c1:w.cell? ⟨0,1,none⟩ = some (.string ⟨#[97,119,97,121]⟩)
 c2:w.cell? ⟨0,2,none⟩ = some (.string ⟨#[122,101,114,111]⟩)
 c3:w.cell? ⟨0,3,none⟩ = some (.string ⟨#[117,112]⟩)
 c4:w.cell? ⟨0,4,none⟩ = some (.string ⟨#[100,111,119,110]⟩)
theorem Nb5.kept {w w':World} (h:Nb5 w) (hb:Below w.heap.size w w'):Nb5 w':=
 ⟨Nat.lt_of_lt_of_le h.lt hb.size,(hb.cell (p:=⟨0,0,none⟩) h.lt).trans h.c0,(hb.cell (p:=⟨0,1,none⟩) h.lt).trans h.c1,(hb.cell (p:=⟨0,2,none⟩) h.lt).trans h.c2,(hb.cell (p:=⟨0,3,none⟩) h.lt).trans h.c3,(hb.cell (p:=⟨0,4,none⟩) h.lt).trans h.c4⟩
theorem named_1 (s:ByteArray) (w:World) (h:Nb5 w) (e0:(([101,118,101,110]:List UInt8) == s.toList) = false) (e1:(([97,119,97,121]:List UInt8) == s.toList) = true) :
  Calls Tryz.prog 18 #[.string s] w fun e w'=>e = .returned (.tuple #[.int .u8 1,.bool true])∧Below w.heap.size w w':=by
 obtain ⟨-,c0,c1,c2,c3,c4⟩:=h
 have x0:∀ v:World,(Instr.index 99 (.agg #[.string ⟨#[101,118,101,110]⟩,.string ⟨#[97,119,97,121]⟩,.string ⟨#[122,101,114,111]⟩,.string ⟨#[117,112]⟩,.string ⟨#[100,111,119,110]⟩]) (.int .i64 0)).run Tryz.prog v = .ok (.string ⟨#[101,118,101,110]⟩) v:=fun _=>by kernel_rfl
 have x1:∀ v:World,(Instr.index 99 (.agg #[.string ⟨#[101,118,101,110]⟩,.string ⟨#[97,119,97,121]⟩,.string ⟨#[122,101,114,111]⟩,.string ⟨#[117,112]⟩,.string ⟨#[100,111,119,110]⟩]) (.int .i64 1)).run Tryz.prog v = .ok (.string ⟨#[97,119,97,121]⟩) v:=fun _=>by kernel_rfl
 go_enter Tryz.func18,Tryz.ntmps18
 go_wp2_with fail
 refine wp_loop_rounds 6 ?_
 rw [rounds_succ]
 go_wp2
 rw [rounds_succ]
 go_wp2
 go_ret2
 exact ⟨rfl,Below.refl _ _⟩
theorem Bl.two {m k z:Nat} (h:Bl m k) (h0:0 < m):Bl (2 ^ z * m) (k+z):=by
 have hk:k≠0:=fun e=>by have:=h.1; rw [e] at this; simp at this; omega
 have hp:0 < 2 ^ z:=Nat.pow_pos (by omega)
 refine ⟨?_,Or.inr ?_⟩
 ·rw [Nat.add_comm k z,Nat.pow_add]; exact Nat.mul_lt_mul_of_pos_left h.1 hp
 ·rcases h.2 with h2|h2
  ·exact absurd h2 hk
  ·rw [show k+z - 1 = z+(k - 1) from by omega,Nat.pow_add]; exact Nat.mul_le_mul_left _ h2
theorem Bl.odd {m k:Nat} (h:Bl m k) (h0:0 < m):Bl (2 * m+1) (k+1):=by
 have h1:=(h.two (z:=1) h0)
 rw [Nat.pow_one] at h1
 have hk:k≠0:=fun e=>by have:=h.1; rw [e] at this; simp at this; omega
 have e1:2 ^ (k+1) = 2 * 2 ^ k:=by rw [Nat.pow_succ,Nat.mul_comm]
 refine ⟨?_,Or.inr ?_⟩
 ·have:=h.1; omega
 ·rcases h1.2 with h2|h2
  ·omega
  ·omega
def s3 (a b:Nat):Int:=if a < b then -1 else if a = b then 0 else 1
def wqB:Nat:=2100
end Go.Proofs.YtfjegmlpkiaifaaGreatDoor
