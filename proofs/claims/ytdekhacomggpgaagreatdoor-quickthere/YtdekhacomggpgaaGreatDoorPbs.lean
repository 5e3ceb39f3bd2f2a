/- Of what QuickThereRow stands on: SRdC SMono SMono2 SMono3 NeMath SScale STenC STenD SMono4. -/
import Derived.Test.YtdekhacomggpgaaGreatDoorPbr
import Derived.Test.YtdekhacomggpgaaGreatDoorPap
import Derived.Test.YtdekhacomggpgaaGreatDoorPbk
import Derived.Test.YtdekhacomggpgaaGreatDoorPbo
import Derived.Test.YtdekhacomggpgaaGreatDoorPai
import Derived.Test.YtdekhacomggpgaaGreatDoorPbj
namespace Go.Proofs.YtdekhacomggpgaaGreatDoor
open Go.RowKit
open Ieee
theorem no_over {m K:Nat} (h:m < 2 ^ K) (hK:K≤524288):¬ Over m:=not_over h hK
theorem ans_ok {w:World} {base:Nat} {e:Ending} {m:Nat} (h:Ans w base e m) (hn:¬ Over m):∃ a n cap,e = .returned (.tuple #[.agg #[.slice a n cap],.int .i64 0])∧Mine w base a n cap m:=by
 rcases h with h|⟨_,h⟩
 ·exact h
 ·exact absurd h hn
theorem hbits (m:Nat):HBits m (blen m):=fun W A N C h=>(bits_any A N C m W h).mono fun e W' ⟨⟨k,h1,h2,_⟩,hb⟩=>⟨by rw [h1,h2.uniq (bl_blen m)],hb⟩
theorem hup {m k:Nat} (hk:k < 9223372036854775808) (ho:¬ Over (m * 2 ^ k)):HUp m k (m * 2 ^ k):=fun W A N C h=>(up_any A N C m k W h hk).mono fun _ _ ⟨h1,hb⟩=>⟨ans_ok h1 ho,hb⟩
theorem hmul {x y:Nat} (ho:¬ Over (x * y)):HTwo 22 x y (x * y):=fun W a n c a' n' c' h h'=>(mul_any a a' n n' c c' x y W h h').mono fun _ _ ⟨h1,hb⟩=>⟨ans_ok h1 ho,hb⟩
theorem hadd {x y:Nat} (ho:¬ Over (x+y)):HTwo 108 x y (x+y):=fun W a n c a' n' c' h h'=>(add_any a a' n n' c c' x y W h h').mono fun _ _ ⟨h1,hb⟩=>⟨ans_ok h1 ho,hb⟩
theorem hdiv {x d:Nat} (hd:0 < d):HDiv x d (x / d) (x % d):=fun W a n c a' n' c' h h'=>div_pos a a' n n' c c' x d W h h' hd
theorem hpow0:HPow0:=fun W=>by
 have:=pow_any 5 0 W (by omega) (by omega)
 exact this.mono fun _ _ ⟨h1,hb⟩=>⟨ans_ok h1 (no_over (K:=1) (by decide) (by omega)),hb⟩
def sLift (m d:Nat):Nat:=blen d - blen m
def sOne (m d:Nat):Nat:=m * 2 ^ sLift m d
def sMore (m d:Nat):Nat:=65+blen d - blen (sOne m d)
def sAll (m d:Nat):Nat:=sOne m d * 2 ^ sMore m d
def sAns (m d:Nat):Nat:=if sAll m d % d = 0 then 2 * (sAll m d / d) else 2 * (sAll m d / d)+1
def sExp (m d:Nat):Int:=-(sLift m d:Int) - (sMore m d:Int) - 1
theorem blen_lt {m K:Nat} (h:blen m≤K):m < 2 ^ K:=Nat.lt_of_lt_of_le (bl_blen m).1 (Nat.pow_le_pow_right (by omega) h)
theorem blen_one:blen 1 = 1:=by decide
theorem parts_div {t d f:Nat} (hd:0 < d):t / d * f+t % d * f / d = t * f / d∧t % d * f % d = t * f % d:=by
 have h:=Nat.div_add_mod t d
 have h1:t * f = t % d * f+d * (t / d * f):=by
  conv=>lhs; rw [← h]
  rw [Nat.add_mul,Nat.mul_assoc]; omega
 rw [h1]
 exact ⟨by rw [Nat.add_mul_div_left _ _ hd]; omega,by rw [Nat.add_mul_mod_self_left]⟩
theorem sfirst_any (W:World) (p:Nat) (a1 a2 a3 a4:Option Addr) (n1 n2 n3 n4 c1 c2 c3 c4 m d:Nat) (hk:Rn W p 0) (h1:Num W a1 n1 m) (h2:Num W a2 n2 1) (h3:Num W a3 n3 d) (h4:Num W a4 n4 1) (hd:0 < d) (bm:blen m≤100000) (bd:blen d≤100000) (hr:blen d≤blen m+4096) :
  Calls Tryz.prog 75 #[.agg #[.slice a1 n1 c1,.slice a2 n2 c2,.slice a3 n3 c3,.slice a4 n4 c4,.int .i64 0],.pointer (some ⟨p,0,none⟩)] W fun en W'=>(∃ A N C,en = .returned (.tuple #[.agg #[.slice A N C],.int .i64 (sExp m d)])∧Mine W' W.heap.size A N C (sAns m d))∧Below W.heap.size W W':=by
 obtain ⟨lift,hlift⟩:∃ lift,sLift m d = lift:=⟨_,rfl⟩
 obtain ⟨t1,ht1⟩:∃ t1,sOne m d = t1:=⟨_,rfl⟩
 obtain ⟨more,hmore⟩:∃ more,sMore m d = more:=⟨_,rfl⟩
 have el:lift≤4096:=by rw [← hlift]; unfold sLift; omega
 have em:more≤100065:=by rw [← hmore]; unfold sMore; omega
 obtain ⟨K0,hK0⟩:∃ K,K = 100000:=⟨_,rfl⟩
 obtain ⟨K4,hK4⟩:∃ K,K = 4096:=⟨_,rfl⟩
 obtain ⟨K1,hK1⟩:∃ K,K = 104096:=⟨_,rfl⟩
 obtain ⟨K2,hK2⟩:∃ K,K = 100065:=⟨_,rfl⟩
 obtain ⟨K3,hK3⟩:∃ K,K = 204161:=⟨_,rfl⟩
 have b1:t1 < 2 ^ K1:=by
  rw [← ht1]; unfold sOne
  rw [hlift,show K1 = K0+K4 from by omega,Nat.pow_add]
  exact Nat.mul_lt_mul_of_lt_of_le (blen_lt (by omega)) (Nat.pow_le_pow_right (by omega) (by omega)) (Nat.pow_pos (by omega))
 have b2:2 ^ more≤2 ^ K2:=Nat.pow_le_pow_right (by omega) (by omega)
 have b3:t1 * 2 ^ more < 2 ^ K3:=by
  rw [show K3 = K1+K2 from by omega,Nat.pow_add]
  exact Nat.mul_lt_mul_of_lt_of_le b1 b2 (Nat.pow_pos (by omega))
 have hall:sAll m d = t1 * 2 ^ more:=by unfold sAll; rw [ht1,hmore]
 obtain ⟨e1,e2⟩:=parts_div (t:=t1) (f:=2 ^ more) hd
 have hq:t1 * 2 ^ more / d≤t1 * 2 ^ more:=Nat.div_le_self _ _
 have l1:t1 / d * 2 ^ more≤t1 * 2 ^ more / d:=by rw [← e1]; exact Nat.le_add_right _ _
 have l2:t1 % d * 2 ^ more≤t1 * 2 ^ more:=Nat.mul_le_mul_right _ (Nat.mod_le _ _)
 have i5:blen t1≤104096:=by have:=(bl_blen t1).le_of b1; omega
 have p0:2 ^ K3 * 2 = 2 ^ (K3+1):=(Nat.pow_succ ..).symm
 have lt9:∀ {v:Nat},v < 2 ^ K3 * 2→¬ Over v:=fun {v} h=>no_over (K:=K3+1) (by rw [← p0]; exact h) (by omega)
 obtain ⟨T,hT⟩:∃ T,2 ^ K3 = T:=⟨_,rfl⟩
 rw [hT] at b3 lt9
 have hT1:1 < T:=by rw [← hT]; exact Nat.one_lt_two_pow (by omega)
 clear p0 hT
 have key:=sfirst_is W p a1 a2 a3 a4 n1 n2 n3 n4 c1 c2 c3 c4 m 1 d 1 (blen m) 1 (blen d) 1 (blen t1) lift more t1 (2 ^ more) (t1 / d) (t1 % d) (t1 % d * 2 ^ more / d) (t1 / d * 2 ^ more) (t1 * 2 ^ more / d) (t1 * 2 ^ more / d) 0 (t1 * 2 ^ more / d * 2) (t1 * 2 ^ more / d * 2+1) 0 ((blen t1:Int) - (blen d:Int)) (!decide (t1 % d * 2 ^ more % d = 0)) (sAns m d) hk h1 h2 h3 h4 (by omega) (by omega) (by omega) (by omega) (by omega)
  (by rw [← hlift]; unfold sLift; omega) (by omega) (by rw [← hmore]; unfold sMore; rw [ht1]; omega) (by omega) (by omega) (by omega) (by omega)
  (hide (by
   rw [e2]
   unfold sAns
   rw [hall]
   by_cases hz:t1 * 2 ^ more % d = 0
   ·right; right
    rw [if_pos hz]
    exact ⟨by simp [hz],rfl,by omega⟩
   ·left
    rw [if_neg hz]
    exact ⟨by simp [hz],by omega⟩))
  (hide (hbits m)) (hide (by have:=hbits 1; rw [blen_one] at this; exact this)) (hide (hbits d)) (hide (by have:=hbits 1; rw [blen_one] at this; exact this)) (hide (hbits t1))
  (hide (by have:=hup (m:=m) (k:=lift) (by omega) (by rw [← hlift]; exact no_over (K:=K1) (by have:=b1; rw [← ht1] at this; exact this) (by omega)); rw [show m * 2 ^ lift = t1 from by rw [← ht1,← hlift]; rfl] at this; exact this))
  (hide (by have:=hup (m:=1) (k:=more) (by omega) (by rw [Nat.one_mul]; exact no_over (K:=K2+1) (Nat.lt_of_le_of_lt b2 (Nat.pow_lt_pow_right (by omega) (by omega))) (by omega)); rw [Nat.one_mul] at this; exact this))
  (hide (hdiv hd))
  (hide fun W a n c b k l d9 m9 e9 q1 q2 q3 q4=>sshare_is W p a b d9 n c k l m9 e9 (t1 % d) (2 ^ more) d (t1 % d * 2 ^ more) _ _ q1 q2 q3 q4 (hide (hmul (lt9 (by omega)))) (hide (hdiv hd)))
  (hide (hmul (lt9 (by omega)))) (hide (by have:=hadd (x:=t1 / d * 2 ^ more) (y:=t1 % d * 2 ^ more / d) (lt9 (by omega)); rw [e1] at this; exact this))
  (hide (by have:=hdiv (x:=t1 * 2 ^ more / d) (d:=1) (by omega); rw [Nat.div_one,Nat.mod_one] at this; exact this))
  (hide (by have:=hup (m:=t1 * 2 ^ more / d) (k:=1) (by omega) (lt9 (by rw [Nat.pow_one]; omega)); rw [Nat.pow_one] at this; exact this))
  (hide (hadd (lt9 (by omega))))
 have ee:(0:Int) - (lift:Int) - (more:Int) - 1 = sExp m d:=by unfold sExp; rw [hlift,hmore]; omega
 rw [ee] at key
 exact key
theorem sratio_is {E F S I B md:Nat} (h:Fm E F S I) (hB:B = 2 ^ (E - 1) - 1) (hm:md≤4) (ng s:Bool) (a b:Option Addr) (n c k l m d:Nat) (w:World) (hT:Tb w) (h1:Num w a n m) (h2:Num w b k d) (h0:m≠0) (hd:0 < d) (bm:blen m≤100000) (bd:blen d≤100000) (hr1:blen d≤blen m+4096) (hr2:blen m≤blen d+4096)
  (HC:Hid (∀ W:World,Num W a n m→Num W b k d→Calls Tryz.prog 69 #[.agg #[.bool s,.slice a n c,.slice b k l]] W fun e W'=>e = .returned (.int .i64 0)∧Below W.heap.size W W')) (z M K:Nat) (X:Int) (hz:Tz (sAns m d) z) (hz2:z≤300000) (hM:sAns m d / 2 ^ z = M) (hX:sExp m d+(z:Int) = X) (hK:Bl M K) :
  Calls Tryz.prog 10 #[.agg #[.int .i64 E,.int .i64 F],.agg #[.bool s,.slice a n c,.slice b k l],.bool ng,.int .u8 (md:Int)] w fun e w'=>e = .returned (.tuple #[.int .u64 (bitsR S I md s (rowR B F md s M K X):Int),.int .u8 (flagR B F I md s M K X:Int),.int .i64 0])∧Below w.heap.size w w':=by
 obtain ⟨q,hq⟩:=hz
 have hMq:M = 2 * q+1:=by rw [← hM,hq,Nat.mul_div_cancel_left _ (Nat.pow_pos (by omega))]
 have hX2:-204200≤sExp m d∧sExp m d≤0:=by unfold sExp sLift sMore; omega
 refine sratio_w w E F md s ng a b n c k l m d _ _ h1 h2 (hide fun W hb q1 q2=>?_)
 refine sscaled_is W E F md s ng a b n c k l m d X M _ _ h.fo hm (hT.kept hb) q1 q2 HC (hide fun W t9 r1 r2=>?_) (hide fun W B9 A N C g=>?_)
 ·refine sstand_is W s a b n c k l m d (blen m) (blen d) ((blen m:Int) - (blen d:Int)) (sExp m d) X (sAns m d) M t9 r1 r2 h0 (by omega) (by omega) rfl (by omega) (by omega) (hide (hbits m)) (hide (hbits d)) (hide hpow0) (hide fun W p A N C A' N' C' x1 x2 x3 x4 x5=>sfirst_any W p a A b A' n N k N' c C l C' m d x1 x2 x3 x4 x5 hd bm bd hr1) (hide fun W B9 A N C t8 g=>?_)
  obtain ⟨g1,g2⟩:=mine_caps g
  have:=make_ok s A N C (sAns m d) z (sExp m d) W g.num (by rw [hq]; exact Nat.mul_pos (Nat.pow_pos (by omega)) (by omega)) t8 ⟨q,hq⟩ (by omega) g1 g2 (by omega)
  rw [hM,hX] at this
  exact this
 ·exact rounded_any h hB hm ng s A N C M K X W B9 g ⟨by omega,by omega,by omega⟩ hK
def hlf (r w:Nat):Int:=if 2 * r < w then -1 else if 2 * r = w then 0 else 1
def rnd (md:Nat) (s:Bool) (p w:Nat):Nat:=p / w+(if p % w = 0 then 0 else if fth md s (decide (p / w % 2 = 1)) (hlf (p % w) w) then 1 else 0)
theorem fth_mono {md:Nat} {s o:Bool} {h h':Int} (hle:h≤h') (hf:fth md s o h = true):fth md s o h' = true:=by
 match md with
 | 0=>
  simp only [fth,Bool.or_eq_true,Bool.and_eq_true,decide_eq_true_eq] at hf ⊢
  rcases hf with hf|⟨hf,ho⟩
  ·left; omega
  ·by_cases h0:h' = 0
   ·exact Or.inr ⟨h0,ho⟩
   ·left; omega
 | 1=>simp only [fth,decide_eq_true_eq] at hf ⊢; omega
 | 2=>simp [fth] at hf
 | 3=>simpa [fth] using hf
 | n+4=>simpa [fth] using hf
theorem hlf_mono {r w r' w':Nat} (hw:0 < w) (hw':0 < w') (h:r * w'≤r' * w):hlf r w≤hlf r' w':=by
 have k1:2 * r' < w'→2 * r < w:=fun h1=>by
  refine Nat.lt_of_not_le fun h2=>?_
  have a1:=Nat.mul_le_mul_right w' h2
  have a2:=Nat.mul_lt_mul_of_pos_right h1 hw
  have a3:2 * r * w' = 2 * (r * w'):=Nat.mul_assoc ..
  have a4:2 * r' * w = 2 * (r' * w):=Nat.mul_assoc ..
  have a5:=Nat.mul_comm w w'
  omega
 have k2:2 * r' = w'→2 * r≤w:=fun h1=>by
  refine Nat.le_of_not_lt fun h2=>?_
  have a1:=Nat.mul_lt_mul_of_pos_right h2 hw'
  have a3:2 * r * w' = 2 * (r * w'):=Nat.mul_assoc ..
  have a4:2 * r' * w = 2 * (r' * w):=Nat.mul_assoc ..
  have a5:=Nat.mul_comm w w'
  rw [h1] at a4
  omega
 unfold hlf
 split <;> split <;> (try split) <;> (try split) <;> omega
theorem rnd_mono {md:Nat} {s:Bool} {p w p' w':Nat} (hw:0 < w) (hw':0 < w') (h:p * w'≤p' * w):rnd md s p w≤rnd md s p' w':=by
 have hq:p / w≤p' / w':=by
  rw [Nat.le_div_iff_mul_le hw']
  have h1:p / w * w≤p:=Nat.div_mul_le_self p w
  have h2:=Nat.mul_le_mul_right w' h1
  refine Nat.le_of_mul_le_mul_right (c:=w) ?_ hw
  have a1:p / w * w' * w = p / w * w * w':=Nat.mul_right_comm ..
  omega
 have i1:rnd md s p w≤p / w+1:=by unfold rnd; split <;> (try split) <;> omega
 have i2:p' / w'≤rnd md s p' w':=by unfold rnd; omega
 rcases Nat.lt_or_ge (p / w) (p' / w') with h1|h1
 ·omega
 ·have e:p / w = p' / w':=by omega
  have hr:p % w * w'≤p' % w' * w:=by
   have d1:=Nat.div_add_mod p w
   have d2:=Nat.div_add_mod p' w'
   rw [← d1,← d2,Nat.add_mul,Nat.add_mul,← e] at h
   have a1:w * (p / w) * w' = w' * (p / w) * w:=by rw [Nat.mul_comm w (p / w),Nat.mul_comm w' (p / w),Nat.mul_right_comm]
   omega
  unfold rnd
  rw [← e]
  by_cases h0:p % w = 0
  ·rw [if_pos h0]; omega
  ·rw [if_neg h0]
   have h0':p' % w'≠0:=fun hc=>by
    rw [hc,Nat.zero_mul] at hr
    have:=Nat.mul_pos (Nat.pos_of_ne_zero h0) hw'
    omega
   rw [if_neg h0']
   have hm:=hlf_mono hw hw' hr
   by_cases hf:fth md s (decide (p / w % 2 = 1)) (hlf (p % w) w) = true
   ·rw [if_pos hf,if_pos (fth_mono hm hf)]; exact Nat.le_refl _
   ·rw [if_neg hf]; omega
theorem ahf_hlf {M dr:Nat} (ho:M % 2 = 1) (h1:1≤dr):ahf M dr = hlf (M % 2 ^ dr) (2 ^ dr):=by
 obtain ⟨k,rfl⟩:∃ k,dr = k+1:=⟨dr - 1,by omega⟩
 have hp:2 ^ (k+1) = 2 * 2 ^ k:=by rw [Nat.pow_succ,Nat.mul_comm]
 have hpk:=Nat.pow_pos (n:=k) (show 0 < 2 by omega)
 have hm:M % 2 ^ (k+1) = M % 2 ^ k+2 ^ k * (M / 2 ^ k % 2):=by rw [Nat.pow_succ,Nat.mod_mul]
 have hl:=Nat.mod_lt M hpk
 unfold ahf hlf
 rw [show k+1 - 1 = k from by omega,hm,hp]
 by_cases hb:M / 2 ^ k % 2 = 1
 ·rw [if_pos hb,hb,Nat.mul_one]
  by_cases hk:k = 0
  ·subst hk
   simp [Nat.mod_one]
  ·have hodd:M % 2 ^ k % 2 = 1:=by
    rw [Nat.mod_mod_of_dvd _ (Nat.dvd_of_mod_eq_zero (by rw [show k = (k - 1)+1 from by omega,Nat.pow_succ]; exact Nat.mul_mod_left ..))]; exact ho
   rw [if_neg (by omega),if_neg (by omega),if_neg (by omega)]
 ·have h0:M / 2 ^ k % 2 = 0:=by omega
  rw [if_neg hb,h0,Nat.mul_zero,if_pos (by omega)]
theorem hlf_scale {r w c:Nat} (hc:0 < c):hlf (c * r) (c * w) = hlf r w:=by
 have a1:2 * (c * r) = c * (2 * r):=Nat.mul_left_comm ..
 unfold hlf
 rw [a1]
 have e1:(c * (2 * r) < c * w) = (2 * r < w):=propext (Nat.mul_lt_mul_left hc)
 have e2:(c * (2 * r) = c * w) = (2 * r = w):=propext (Nat.mul_right_inj (by omega))
 simp only [e1,e2]
theorem cut_std {md:Nat} {s:Bool} {n d D A z M:Nat} {X t:Int} (hd:0 < d) (hA:A = if n % d = 0 then 2 * (n / d) else 2 * (n / d)+1) (hz:A = M * 2 ^ z) (ho:M % 2 = 1) (hD:2≤D) (hXt:(D:Int) = t - X+(z:Int)):cutR md s M X t = rnd md s n (d * 2 ^ (D - 1)):=by
 have p2:∀ k,0 < 2 ^ k:=fun k=>Nat.pow_pos (by omega)
 obtain ⟨e,rfl⟩:∃ e,D = e+2:=⟨D - 2,by omega⟩
 rw [show e+2 - 1 = e+1 from by omega]
 have hdm:=Nat.div_add_mod n d
 have hml:=Nat.mod_lt n hd
 obtain ⟨Q,hQ⟩:∃ Q,n / d = Q:=⟨_,rfl⟩
 obtain ⟨ρ,hρ⟩:∃ ρ,n % d = ρ:=⟨_,rfl⟩
 rw [hQ,hρ] at hdm hA
 rw [hρ] at hml
 have hpe:2 ^ (e+2) = 2 * 2 ^ (e+1):=by rw [Nat.pow_succ,Nat.mul_comm]
 have hpe1:2 ^ (e+1) = 2 * 2 ^ e:=by rw [Nat.pow_succ,Nat.mul_comm]
 have hdiv:n / (d * 2 ^ (e+1)) = Q / 2 ^ (e+1):=by rw [← Nat.div_div_eq_div_mul,hQ]
 obtain ⟨c,hc⟩:∃ c,Q / 2 ^ (e+1) = c:=⟨_,rfl⟩
 obtain ⟨q',hq'⟩:∃ q',Q % 2 ^ (e+1) = q':=⟨_,rfl⟩
 have hQd:=Nat.div_add_mod Q (2 ^ (e+1))
 have hql:=Nat.mod_lt Q (p2 (e+1))
 rw [hc,hq'] at hQd
 rw [hq'] at hql
 have hrem:n % (d * 2 ^ (e+1)) = d * q'+ρ:=by
  rw [Nat.mod_mul,hρ,hQ,hq']; omega
 have hA2:A / 2 ^ (e+2) = c∧A % 2 ^ (e+2) = 2 * q'+(if ρ = 0 then 0 else 1):=by
  have e1:A = 2 ^ (e+2) * c+(2 * q'+(if ρ = 0 then 0 else 1)):=by
   rw [hA,hpe,← hQd,Nat.mul_assoc]; split <;> omega
  have e2:2 * q'+(if ρ = 0 then 0 else 1) < 2 ^ (e+2):=by rw [hpe]; split <;> omega
  rw [e1]
  exact ⟨by rw [Nat.mul_add_div (p2 _),Nat.div_eq_of_lt e2]; omega,by rw [Nat.mul_add_mod,Nat.mod_eq_of_lt e2]⟩
 unfold cutR rnd
 rw [hdiv,hc,hrem]
 by_cases htX:t≤X
 ·rw [if_pos htX]
  obtain ⟨y,hy⟩:∃ y:Nat,(X - t).toNat = y:=⟨_,rfl⟩
  have hzy:z = (e+2)+y:=by omega
  have h1:A = 2 ^ (e+2) * (M * 2 ^ y):=by rw [hz,hzy,Nat.pow_add,Nat.mul_left_comm]
  have h2:A % 2 ^ (e+2) = 0:=by rw [h1]; exact Nat.mul_mod_right ..
  have h3:A / 2 ^ (e+2) = M * 2 ^ y:=by rw [h1]; exact Nat.mul_div_cancel_left _ (p2 _)
  rw [h2] at hA2
  have h4:q' = 0∧ρ = 0:=by
   have:=hA2.2
   split at this <;> omega
  rw [hy,← h3,hA2.1,h4.1,h4.2]
  simp
 ·rw [if_neg htX]
  obtain ⟨dr,hdr⟩:∃ dr:Nat,(t - X).toNat = dr:=⟨_,rfl⟩
  have hzd:e+2 = z+dr:=by omega
  have hdr1:1≤dr:=by omega
  have h1:M / 2 ^ dr = c:=by
   rw [← hA2.1,hz,hzd,Nat.pow_add,Nat.mul_comm M,Nat.mul_div_mul_left _ _ (p2 z)]
  have h2:2 ^ z * (M % 2 ^ dr) = 2 * q'+(if ρ = 0 then 0 else 1):=by
   rw [← hA2.2,hz,hzd,Nat.pow_add,Nat.mul_comm M,Nat.mul_mod_mul_left]
  have h3:M % 2 ^ dr≠0:=fun hc0=>by
   have:M % 2 ^ dr % 2 = 1:=by
    rw [Nat.mod_mod_of_dvd _ (Nat.dvd_of_mod_eq_zero (by rw [show dr = (dr - 1)+1 from by omega,Nat.pow_succ]; exact Nat.mul_mod_left ..))]; exact ho
   rw [hc0] at this; cases this
  have h4:d * q'+ρ≠0:=fun hc0=>by
   have hr0:ρ = 0:=by omega
   have hq0:d * q' = 0:=by omega
   have hq1:q' = 0:=by rcases Nat.mul_eq_zero.1 hq0 with h|h <;> omega
   rw [hr0,hq1] at h2
   rcases Nat.mul_eq_zero.1 (h2.trans (by simp)) with h|h
   ·have:=p2 z; omega
   ·exact h3 h
  rw [if_neg h4]
  unfold cutN
  rw [hdr,h1,ahf_hlf ho hdr1,← hlf_scale (p2 z),h2,← Nat.pow_add,← hzd]
  have hh:hlf (2 * q'+(if ρ = 0 then 0 else 1)) (2 ^ (e+2)) = hlf (d * q'+ρ) (d * 2 ^ (e+1)):=by
   rw [hpe,hpe1]
   obtain ⟨H,hH⟩:∃ H,2 ^ e = H:=⟨_,rfl⟩
   rw [hH]
   have m1:d * (2 * H) = 2 * (d * H):=Nat.mul_left_comm ..
   rw [m1]
   unfold hlf
   rcases Nat.lt_trichotomy q' H with hlt|heq|hgt
   ·have g1:d * q'+d≤d * H:=by rw [← Nat.mul_succ]; exact Nat.mul_le_mul_left d hlt
    rw [if_pos (by split <;> omega),if_pos (by omega)]
   ·subst heq
    by_cases hr:ρ = 0
    ·subst hr
     simp only [if_true]
     rw [if_neg (by omega),if_pos (by omega),if_neg (by omega),if_pos (by omega)]
    ·simp only [hr,if_false]
     rw [if_neg (by omega),if_neg (by omega),if_neg (by omega),if_neg (by omega)]
   ·have g1:d * H+d≤d * q':=by rw [← Nat.mul_succ]; exact Nat.mul_le_mul_left d hgt
    rw [if_neg (by split <;> omega),if_neg (by split <;> omega),if_neg (by omega),if_neg (by omega)]
  rw [hh]
theorem Bl.two {m k z:Nat} (h:Bl m k) (h0:0 < m):Bl (2 ^ z * m) (k+z):=by
 have hk:k≠0:=fun e=>by have:=h.1; rw [e] at this; simp at this; omega
 have hp:0 < 2 ^ z:=Nat.pow_pos (by omega)
 refine ⟨?_,Or.inr ?_⟩
 ·rw [Nat.add_comm k z,Nat.pow_add]; exact Nat.mul_lt_mul_of_pos_left h.1 hp
 ·rcases h.2 with h2|h2
  ·exact absurd h2 hk
  ·rw [show k+z - 1 = z+(k - 1) from by omega,Nat.pow_add]; exact Nat.mul_le_mul_left _ h2
theorem Bl.odd {m k:Nat} (h:Bl m k) (h0:0 < m):Bl (2 * m+1) (k+1):=by
 have h1:=(h.two (z:=1) h0)
 rw [Nat.pow_one] at h1
 have hk:k≠0:=fun e=>by have:=h.1; rw [e] at this; simp at this; omega
 have e1:2 ^ (k+1) = 2 * 2 ^ k:=by rw [Nat.pow_succ,Nat.mul_comm]
 refine ⟨?_,Or.inr ?_⟩
 ·have:=h.1; omega
 ·rcases h1.2 with h2|h2
  ·omega
  ·omega
structure Std (m d j n b z M K:Nat) (X:Int):Prop where
 hn:n = m * 2 ^ j
 hd:0 < d
 hA:(if n % d = 0 then 2 * (n / d) else 2 * (n / d)+1) = M * 2 ^ z
 ho:M % 2 = 1
 hK:Bl M K
 hb:Bl (n / d) b
 b65:65≤b
 hX:X = -(j:Int) - 1+(z:Int)
theorem Std.e {m d j n b z M K:Nat} {X:Int} (h:Std m d j n b z M K X):X+(K:Int) - 1 = (b:Int) - 1 - (j:Int):=by
 have hM:0 < M:=by have:=h.ho; omega
 have hQ:0 < n / d:=by
  refine Nat.pos_of_ne_zero fun e=>?_
  have h2:=h.hb.2
  rw [e] at h2
  have:=Nat.pow_pos (n:=b - 1) (show 0 < 2 by omega)
  have:=h.b65
  omega
 have h1:=h.hK.two (z:=z) hM
 rw [Nat.mul_comm,← h.hA] at h1
 have h2:Bl (if n % d = 0 then 2 * (n / d) else 2 * (n / d)+1) (b+1):=by
  split
  ·have:=h.hb.two (z:=1) hQ; rw [Nat.pow_one] at this; exact this
  ·exact h.hb.odd hQ
 have h3:=h1.uniq h2
 rw [h.hX]; omega
theorem Std.row {m d j n b z M K:Nat} {X:Int} (h:Std m d j n b z M K X) {B F md:Nat} {s:Bool} (hF:F≤52):∃ D:Nat,(D:Int) = lastP B F K X+(j:Int)+1∧2≤D∧cutR md s M X (lastP B F K X) = rnd md s n (d * 2 ^ (D - 1)):=by
 have he:=h.e
 have hb:=h.b65
 have hX:=h.hX
 have hl:(b:Int) - 1 - (j:Int) - (F:Int)≤lastP B F K X:=by unfold lastP; omega
 obtain ⟨D,hD⟩:∃ D:Nat,(D:Int) = lastP B F K X+(j:Int)+1:=⟨(lastP B F K X+(j:Int)+1).toNat,by omega⟩
 exact ⟨D,hD,by omega,cut_std (z:=z) h.hd rfl h.hA h.ho (by omega) (by omega)⟩
theorem rowR_mono {B F md:Nat} {s:Bool} {m d j n b z M K:Nat} {X:Int} {m' d' j' n' b' z' M' K':Nat} {X':Int} (h:Std m d j n b z M K X) (h':Std m' d' j' n' b' z' M' K' X') (hF:F≤52) (hle:m * d'≤m' * d):rowR B F md s M K X≤rowR B F md s M' K' X':=by
 have he:=h.e
 have he':=h'.e
 have hpos:∀ k,0 < 2 ^ k:=fun k=>Nat.pow_pos (by omega)
 have hee:(b:Int) - 1 - (j:Int)≤(b':Int) - 1 - (j':Int):=by
  refine Int.not_lt.1 fun hc=>?_
  have k1:b'+j≤b - 1+j':=by omega
  have l1:2 ^ (b - 1) * d≤m * 2 ^ j:=by
   rw [← h.hn]
   have h2:2 ^ (b - 1)≤n / d:=by
    rcases h.hb.2 with q|q
    ·have:=h.b65; omega
    ·exact q
   exact (Nat.le_div_iff_mul_le h.hd).1 h2
  have l2:m' * 2 ^ j' < 2 ^ b' * d':=by
   rw [← h'.hn]
   exact (Nat.div_lt_iff_lt_mul h'.hd).1 h'.hb.1
  have a1:2 ^ (b'+j) * (d * d')≤2 ^ (b - 1+j') * (d * d'):=Nat.mul_le_mul_right _ (Nat.pow_le_pow_right (by omega) k1)
  have a2:2 ^ (b - 1+j') * (d * d') = 2 ^ (b - 1) * d * (2 ^ j' * d'):=by rw [Nat.pow_add]; ac_rfl
  have a3:2 ^ (b'+j) * (d * d') = 2 ^ b' * d' * (2 ^ j * d):=by rw [Nat.pow_add]; ac_rfl
  have a4:=Nat.mul_le_mul_right (2 ^ j' * d') l1
  have a5:=Nat.mul_lt_mul_of_pos_right l2 (Nat.mul_pos (hpos j) h.hd)
  have a6:m * 2 ^ j * (2 ^ j' * d') = m * d' * (2 ^ j * 2 ^ j'):=by ac_rfl
  have a7:m' * 2 ^ j' * (2 ^ j * d) = m' * d * (2 ^ j * 2 ^ j'):=by ac_rfl
  have a8:=Nat.mul_le_mul_right (2 ^ j * 2 ^ j') hle
  omega
 obtain ⟨D,hD,hD2,hr⟩:=h.row (B:=B) (md:=md) (s:=s) hF
 obtain ⟨D',hD',hD2',hr'⟩:=h'.row (B:=B) (md:=md) (s:=s) hF
 have hM:0 < M:=by have:=h.ho; omega
 have hM':0 < M':=by have:=h'.ho; omega
 unfold rowR
 have ht:lastP B F K X≤lastP B F K' X':=by unfold lastP; omega
 rcases Int.lt_or_eq_of_le ht with hlt|heq
 ·have g1:cutR md s M X (lastP B F K X)≤2 ^ (F+1):=cutR_le h.hK hM (by unfold lastP; omega)
  have g2:2 ^ F≤cutR md s M' X' (lastP B F K' X'):=by
   have:lastP B F K' X' = X'+(K':Int) - 1 - (F:Int):=by unfold lastP at hlt ⊢; omega
   rw [this]
   exact cutR_ge h'.hK hM' rfl
  have p1:2 ^ (F+1) = 2 * 2 ^ F:=by rw [Nat.pow_succ,Nat.mul_comm]
  obtain ⟨u,hu⟩:∃ u:Nat,(lastP B F K X - (1 - (B:Int) - (F:Int))).toNat = u:=⟨_,rfl⟩
  obtain ⟨v,hv⟩:∃ v:Nat,(lastP B F K' X' - (1 - (B:Int) - (F:Int))).toNat = v:=⟨_,rfl⟩
  have huv:u+1≤v:=by unfold lastP at hlt hu hv; omega
  have g3:=Nat.mul_le_mul_right (2 ^ F) huv
  rw [Nat.add_mul,Nat.one_mul] at g3
  rw [hu,hv]
  omega
 ·rw [hr,hr',heq]
  refine Nat.add_le_add_left (rnd_mono (Nat.mul_pos h.hd (hpos _)) (Nat.mul_pos h'.hd (hpos _)) ?_) _
  rw [h.hn,h'.hn]
  have x1:m * 2 ^ j * (d' * 2 ^ (D' - 1)) = m * d' * 2 ^ (j+(D' - 1)):=by rw [Nat.pow_add]; ac_rfl
  have x2:m' * 2 ^ j' * (d * 2 ^ (D - 1)) = m' * d * 2 ^ (j+(D' - 1)):=by rw [show j+(D' - 1) = j'+(D - 1) from by omega,Nat.pow_add]; ac_rfl
  rw [x1,x2]
  exact Nat.mul_le_mul_right _ hle
theorem std_of {m d z q:Nat} (h0:0 < m) (hd:0 < d) (hz:sAns m d = 2 ^ z * (2 * q+1)) {K:Nat} (hK:Bl (2 * q+1) K):Std m d (sLift m d+sMore m d) (sAll m d) (blen (sAll m d / d)) z (2 * q+1) K (sExp m d+(z:Int)):=by
 have hn:sAll m d = m * 2 ^ (sLift m d+sMore m d):=by unfold sAll sOne; rw [Nat.pow_add,Nat.mul_assoc]
 refine ⟨hn,hd,by unfold sAns at hz; rw [hz,Nat.mul_comm],by omega,hK,bl_blen _,?_,by unfold sExp; omega⟩
 have h1:0 < sOne m d:=Nat.mul_pos h0 (Nat.pow_pos (by omega))
 have bt:=bl_blen (sOne m d)
 have bd:=bl_blen d
 have ht:2 ^ (blen (sOne m d) - 1)≤sOne m d:=by
  rcases bt.2 with e|e
  ·have:=bt.1; rw [e] at this; simp at this; omega
  ·exact e
 have ht0:blen (sOne m d)≠0:=fun e=>by have:=bt.1; rw [e] at this; simp at this; omega
 have h2:2 ^ (64+blen d)≤sAll m d:=by
  unfold sAll
  refine Nat.le_trans ?_ (Nat.mul_le_mul_right _ ht)
  rw [← Nat.pow_add]
  exact Nat.pow_le_pow_right (by omega) (by unfold sMore; omega)
 have h3:2 ^ 64≤sAll m d / d:=by
  rw [Nat.le_div_iff_mul_le hd]
  refine Nat.le_trans ?_ h2
  rw [Nat.pow_add]
  exact Nat.mul_le_mul_left _ (Nat.le_of_lt bd.1)
 exact (bl_blen _).gt_of h3
structure Sti (m q d i j n b z M K:Nat) (X:Int):Prop where
 hn:n * q * 2 ^ i = m * d * 2 ^ j
 hq:0 < q
 hd:0 < d
 hA:(if n % d = 0 then 2 * (n / d) else 2 * (n / d)+1) = M * 2 ^ z
 ho:M % 2 = 1
 hK:Bl M K
 hb:Bl (n / d) b
 b60:60≤b
 hX:X = (i:Int) - (j:Int) - 1+(z:Int)
theorem Std.sti {m d j n b z M K:Nat} {X:Int} (h:Std m d j n b z M K X):Sti m d d 0 j n b z M K X:=
 ⟨by rw [Nat.pow_zero,Nat.mul_one,h.hn]; ac_rfl,h.hd,h.hd,h.hA,h.ho,h.hK,h.hb,by have:=h.b65; omega,by rw [h.hX]; omega⟩
theorem Sti.e {m q d i j n b z M K:Nat} {X:Int} (h:Sti m q d i j n b z M K X):X+(K:Int) - 1 = (b:Int) - 1 - (j:Int)+(i:Int):=by
 have hM:0 < M:=by have:=h.ho; omega
 have hQ:0 < n / d:=by
  refine Nat.pos_of_ne_zero fun e=>?_
  have h2:=h.hb.2
  rw [e] at h2
  have:=Nat.pow_pos (n:=b - 1) (show 0 < 2 by omega)
  have:=h.b60
  omega
 have h1:=h.hK.two (z:=z) hM
 rw [Nat.mul_comm,← h.hA] at h1
 have h2:Bl (if n % d = 0 then 2 * (n / d) else 2 * (n / d)+1) (b+1):=by
  split
  ·have:=h.hb.two (z:=1) hQ; rw [Nat.pow_one] at this; exact this
  ·exact h.hb.odd hQ
 have h3:=h1.uniq h2
 rw [h.hX]; omega
theorem Sti.cut {m q d i j n b z M K:Nat} {X t:Int} (h:Sti m q d i j n b z M K X) (md:Nat) (s:Bool) (ht:X+(K:Int) - 1 - 52≤t):∃ D:Nat,(D:Int) = t+(j:Int) - (i:Int)+1∧2≤D∧cutR md s M X t = rnd md s n (d * 2 ^ (D - 1)):=by
 have he:=h.e
 have hb:=h.b60
 have hX:=h.hX
 obtain ⟨D,hD⟩:∃ D:Nat,(D:Int) = t+(j:Int) - (i:Int)+1:=⟨(t+(j:Int) - (i:Int)+1).toNat,by omega⟩
 exact ⟨D,hD,by omega,cut_std (z:=z) h.hd rfl h.hA h.ho (by omega) (by omega)⟩
theorem cross_pow {n m q d i j n' m' q' d' i' j' D D':Nat} (h1:n * q * 2 ^ i = m * d * 2 ^ j) (h2:n' * q' * 2 ^ i' = m' * d' * 2 ^ j') (hq:0 < q) (hq':0 < q') (hle:m * q'≤m' * q) (hD:D+j'+i = D'+j+i'):n * (d' * 2 ^ D')≤n' * (d * 2 ^ D):=by
 have hp2:0 < q * q' * 2 ^ (i+i'):=Nat.mul_pos (Nat.mul_pos hq hq') (Nat.pow_pos (by omega))
 have a1:n * (d' * 2 ^ D') * (q * q' * 2 ^ (i+i')) = m * q' * (d * d' * 2 ^ (j+D'+i')):=by
  have:n * (d' * 2 ^ D') * (q * q' * 2 ^ (i+i')) = n * q * 2 ^ i * (d' * q' * (2 ^ D' * 2 ^ i')):=by rw [Nat.pow_add]; ac_rfl
  rw [this,h1,Nat.pow_add,Nat.pow_add]; ac_rfl
 have a2:n' * (d * 2 ^ D) * (q * q' * 2 ^ (i+i')) = m' * q * (d * d' * 2 ^ (j'+D+i)):=by
  have:n' * (d * 2 ^ D) * (q * q' * 2 ^ (i+i')) = n' * q' * 2 ^ i' * (d * q * (2 ^ D * 2 ^ i)):=by rw [Nat.pow_add]; ac_rfl
  rw [this,h2,Nat.pow_add,Nat.pow_add]; ac_rfl
 refine Nat.le_of_mul_le_mul_right ?_ hp2
 rw [a1,a2,show j'+D+i = j+D'+i' from by omega]
 exact Nat.mul_le_mul_right _ hle
theorem Sti.le {m q d i j n b z M K:Nat} {X:Int} {m' q' d' i' j' n' b' z' M' K':Nat} {X':Int} (h:Sti m q d i j n b z M K X) (h':Sti m' q' d' i' j' n' b' z' M' K' X') (hle:m * q'≤m' * q):X+(K:Int) - 1≤X'+(K':Int) - 1:=by
 have he:=h.e
 have he':=h'.e
 have hpos:∀ k,0 < 2 ^ k:=fun k=>Nat.pow_pos (by omega)
 refine Int.not_lt.1 fun hc=>?_
 have k1:b'+j+i'+1≤b+j'+i:=by omega
 have l1:2 ^ (b - 1) * d≤n:=by
  have h2:2 ^ (b - 1)≤n / d:=by
   rcases h.hb.2 with q9|q9
   ·have:=h.b60; omega
   ·exact q9
  exact (Nat.le_div_iff_mul_le h.hd).1 h2
 have l2:n' < 2 ^ b' * d':=(Nat.div_lt_iff_lt_mul h'.hd).1 h'.hb.1
 obtain ⟨D,hD⟩:∃ D,D = j+i':=⟨_,rfl⟩
 obtain ⟨D',hD'⟩:∃ D',D' = j'+i:=⟨_,rfl⟩
 have x:=cross_pow h.hn h'.hn h.hq h'.hq hle (D:=D) (D':=D') (by omega)
 have y1:2 ^ (b - 1) * d * (d' * 2 ^ D')≤n * (d' * 2 ^ D'):=Nat.mul_le_mul_right _ l1
 have y2:n' * (d * 2 ^ D) < 2 ^ b' * d' * (d * 2 ^ D):=Nat.mul_lt_mul_of_pos_right l2 (Nat.mul_pos h.hd (hpos _))
 have y3:2 ^ (b - 1) * d * (d' * 2 ^ D') = 2 ^ (b - 1+D') * (d * d'):=by rw [Nat.pow_add]; ac_rfl
 have y4:2 ^ b' * d' * (d * 2 ^ D) = 2 ^ (b'+D) * (d * d'):=by rw [Nat.pow_add]; ac_rfl
 have hb:=h.b60
 have y5:2 ^ (b'+D) * (d * d')≤2 ^ (b - 1+D') * (d * d'):=Nat.mul_le_mul_right _ (Nat.pow_le_pow_right (by omega) (by omega))
 omega
theorem Sti.cut_le {m q d i j n b z M K:Nat} {X:Int} {m' q' d' i' j' n' b' z' M' K':Nat} {X' t:Int} (h:Sti m q d i j n b z M K X) (h':Sti m' q' d' i' j' n' b' z' M' K' X') (md:Nat) (s:Bool) (ht:X+(K:Int) - 1 - 52≤t) (ht':X'+(K':Int) - 1 - 52≤t) (hle:m * q'≤m' * q):cutR md s M X t≤cutR md s M' X' t:=by
 have hpos:∀ k,0 < 2 ^ k:=fun k=>Nat.pow_pos (by omega)
 obtain ⟨D,hD,hD2,hr⟩:=h.cut md s ht
 obtain ⟨D',hD',hD2',hr'⟩:=h'.cut md s ht'
 rw [hr,hr']
 exact rnd_mono (Nat.mul_pos h.hd (hpos _)) (Nat.mul_pos h'.hd (hpos _)) (cross_pow h.hn h'.hn h.hq h'.hq hle (by omega))
theorem Sti.whole {m q d i j n b z M K:Nat} {X t:Int} (h:Sti m q d i j n b z M K X) {D:Nat} (hD:(D:Int) = t+(j:Int) - (i:Int)+1) (hD2:2≤D):t≤X↔d * 2 ^ (D - 1) ∣ n:=by
 have hX:=h.hX
 have hA:=h.hA
 have hpos:∀ k,0 < 2 ^ k:=fun k=>Nat.pow_pos (by omega)
 have hdm:=Nat.div_add_mod n d
 constructor
 ·intro ht
  obtain ⟨y,rfl⟩:∃ y,z = y+D:=⟨z - D,by omega⟩
  obtain ⟨D1,rfl⟩:∃ D1,D = D1+1:=⟨D - 1,by omega⟩
  have e:M * 2 ^ (y+(D1+1)) = 2 * (2 ^ D1 * (M * 2 ^ y)):=by rw [Nat.pow_add,Nat.pow_succ]; ac_rfl
  rw [e] at hA
  by_cases hz:n % d = 0
  ·rw [if_pos hz] at hA
   refine ⟨M * 2 ^ y,?_⟩
   rw [show D1+1 - 1 = D1 from by omega,Nat.mul_assoc,← Nat.eq_of_mul_eq_mul_left (show 0 < 2 by omega) hA]
   omega
  ·rw [if_neg hz] at hA; omega
 ·intro ⟨c,hc⟩
  obtain ⟨D1,rfl⟩:∃ D1,D = D1+1:=⟨D - 1,by omega⟩
  rw [show D1+1 - 1 = D1 from by omega,Nat.mul_assoc] at hc
  rw [hc,Nat.mul_mod_right,if_pos rfl,Nat.mul_div_cancel_left _ h.hd] at hA
  refine Int.not_lt.1 fun hlt=>?_
  obtain ⟨y,hy⟩:∃ y,D1+1 = z+(y+1):=⟨D1 - z,by omega⟩
  have e:2 * (2 ^ D1 * c) = 2 * (2 ^ y * c) * 2 ^ z:=by
   have e0:2 ^ D1 * 2 = 2 ^ z * (2 ^ y * 2):=by rw [← Nat.pow_succ,← Nat.pow_succ,← Nat.pow_add]; exact congrArg (2 ^ ·) hy
   have e1:2 * (2 ^ D1 * c) = 2 ^ D1 * 2 * c:=by ac_rfl
   rw [e1,e0]; ac_rfl
  rw [e] at hA
  have:=Nat.eq_of_mul_eq_mul_right (hpos z) hA
  have:=h.ho
  omega
theorem dvd_cross {a N a' N':Nat} (hN:0 < N) (h:a * N' = a' * N) (hd:N ∣ a):N' ∣ a':=by
 obtain ⟨c,rfl⟩:=hd
 refine ⟨c,Nat.eq_of_mul_eq_mul_right hN ?_⟩
 rw [← h]; ac_rfl
theorem Sti.same {m q d i j n b z M K:Nat} {X:Int} {m' q' d' i' j' n' b' z' M' K':Nat} {X':Int} (h:Sti m q d i j n b z M K X) (h':Sti m' q' d' i' j' n' b' z' M' K' X') (B F I md:Nat) (s:Bool) (hF:F≤52) (he:m * q' = m' * q):rowR B F md s M K X = rowR B F md s M' K' X'∧flagR B F I md s M K X = flagR B F I md s M' K' X':=by
 have hpos:∀ k,0 < 2 ^ k:=fun k=>Nat.pow_pos (by omega)
 have ee:X+(K:Int) - 1 = X'+(K':Int) - 1:=Int.le_antisymm (h.le h' (Nat.le_of_eq he)) (h'.le h (Nat.le_of_eq he.symm))
 have cc:∀ t:Int,X+(K:Int) - 1 - 52≤t→cutR md s M X t = cutR md s M' X' t:=fun t ht=>Nat.le_antisymm (h.cut_le h' md s ht (by omega) (Nat.le_of_eq he)) (h'.cut_le h md s (by omega) ht (Nat.le_of_eq he.symm))
 have hl:lastP B F K X = lastP B F K' X':=by unfold lastP; omega
 have hlt:X+(K:Int) - 1 - 52≤lastP B F K X:=by unfold lastP; omega
 have hrow:rowR B F md s M K X = rowR B F md s M' K' X':=by unfold rowR; rw [cc _ hlt,hl]
 have hfree:freeR F md s M K X = freeR F md s M' K' X':=by unfold freeR; rw [cc _ (by omega),ee]
 have hw:lastP B F K X≤X↔lastP B F K' X'≤X':=by
  obtain ⟨D,hD,hD2,-⟩:=h.cut md s hlt
  obtain ⟨D',hD',hD2',-⟩:=h'.cut md s (t:=lastP B F K X) (by omega)
  rw [← hl,h.whole hD hD2,h'.whole hD' hD2']
  have x1:=cross_pow h.hn h'.hn h.hq h'.hq (Nat.le_of_eq he) (D:=D - 1) (D':=D' - 1) (by omega)
  have x2:=cross_pow h'.hn h.hn h'.hq h.hq (Nat.le_of_eq he.symm) (D:=D' - 1) (D':=D - 1) (by omega)
  have x:=Nat.le_antisymm x1 x2
  exact ⟨dvd_cross (Nat.mul_pos h.hd (hpos _)) x,dvd_cross (Nat.mul_pos h'.hd (hpos _)) x.symm⟩
 refine ⟨hrow,?_⟩
 unfold flagR
 rw [hrow,hfree]
 by_cases h1:lastP B F K X≤X
 ·rw [if_pos h1,if_pos (hw.1 h1)]
 ·rw [if_neg h1,if_neg (fun q=>h1 (hw.2 q))]
theorem rnd_cross {md:Nat} {s:Bool} {p w p' w':Nat} (hw:0 < w) (hw':0 < w') (h:p * w' = p' * w):rnd md s p w = rnd md s p' w':=
 Nat.le_antisymm (rnd_mono hw hw' (Nat.le_of_eq h)) (rnd_mono hw' hw (Nat.le_of_eq h.symm))
theorem two_pos (k:Nat):0 < 2 ^ k:=Nat.pow_pos (by omega)
theorem rnd_more (s:Bool) (n w:Nat) (hw:0 < w):rnd 0 s n w = n / w+(decide (w < 2 * (n % w)) || (w == 2 * (n % w) && n / w % 2 == 1)).toNat:=by
 unfold rnd hlf fth
 congr 1
 by_cases h1:n % w = 0
 ·rw [if_pos h1,h1,decide_eq_false (by omega),beq_false_of_ne (by omega)]; rfl
 ·rw [if_neg h1]
  by_cases h2:2 * (n % w) < w
  ·rw [if_pos h2,decide_eq_false (p:=w < _) (by omega),beq_false_of_ne (by omega)]; simp
  ·rw [if_neg h2]
   by_cases h3:2 * (n % w) = w
   ·rw [if_pos h3,decide_eq_false (p:=w < _) (by omega),beq_iff_eq.2 h3.symm]
    by_cases h4:n / w % 2 = 1
    ·simp [h4]
    ·rw [decide_eq_false h4,beq_false_of_ne h4]; rfl
   ·rw [if_neg h3,decide_eq_true (p:=w < _) (by omega)]; simp
theorem cut_even (s:Bool) (n drop:Nat):Toward.even.cut s n drop = rnd 0 s n (2 ^ drop):=by
 have e:∀ g,Nat.shiftLeft 1 g = 2 ^ g:=fun g=>by rw [Nat.shiftLeft_eq',Nat.shiftLeft_eq,Nat.one_mul]
 by_cases h:drop≤n.log2+2
 ·rw [rnd_more s n _ (two_pos drop)]
  unfold Toward.cut
  simp only [Nat.min_eq_left h,Nat.shiftLeft_eq,Nat.one_mul]
 ·have hlt:n < 2 ^ (n.log2+1):=Nat.lt_log2_self
  have e2:2 ^ (n.log2+2) = 2 * 2 ^ (n.log2+1):=by rw [Nat.pow_succ]; omega
  have e3:2 ^ (n.log2+2)≤2 ^ drop:=Nat.pow_le_pow_right (by omega) (by omega)
  have small:∀ w,2 ^ (n.log2+2)≤w→n / w = 0∧n % w = n:=fun w hw=>⟨Nat.div_eq_of_lt (by omega),Nat.mod_eq_of_lt (by omega)⟩
  rw [rnd_more s n _ (two_pos drop)]
  unfold Toward.cut
  simp only [Nat.min_eq_right (show n.log2+2≤drop by omega),Nat.shiftLeft_eq,Nat.one_mul]
  rw [(small _ (Nat.le_refl _)).1,(small _ (Nat.le_refl _)).2,(small _ e3).1,(small _ e3).2,decide_eq_false (p:=2 ^ (n.log2+2) < _) (by omega),decide_eq_false (p:=2 ^ drop < _) (by omega),beq_false_of_ne (a:=2 ^ (n.log2+2)) (by omega),beq_false_of_ne (a:=2 ^ drop) (by omega)]
theorem near_rnd (f:Format) (s:Bool) (mag:Nat) (place t:Int) (h0:mag≠0) (ht:t = max (place+mag.log2 - f.fractionBits) f.leastPlace) :
  f.nearest s mag place = f.word s (min ((t - f.leastPlace).toNat * f.binade+rnd 0 s (mag * 2 ^ (place - t).toNat) (2 ^ (t - place).toNat)) f.infRung):=by
 unfold Format.nearest
 rw [if_neg h0]
 simp only [← ht,cut_even,Nat.shiftLeft_eq]
structure Fmt (f:Format) (B F S I:Nat):Prop where
 fr:f.fractionBits = F
 le:f.leastPlace = 1 - (B:Int) - (F:Int)
 sg:f.signWeight = S
 inf:f.infRung = I
theorem near_of {f:Format} {B F S I:Nat} (hf:Fmt f B F S I) (s:Bool) (mag:Nat) (place:Int) {M K:Nat} {X:Int} (h0:mag≠0) (hl:place+(mag.log2:Int) = X+(K:Int) - 1)
  (hR:∀ t:Int,X+(K:Int) - 1 - (F:Int)≤t→rnd 0 s (mag * 2 ^ (place - t).toNat) (2 ^ (t - place).toNat) = cutR 0 s M X t) :
  f.nearest s mag place = bitsR S I 0 s (rowR B F 0 s M K X):=by
 have hb:f.binade = 2 ^ F:=by unfold Format.binade; rw [hf.fr]
 have ht:lastP B F K X = max (place+mag.log2 - f.fractionBits) f.leastPlace:=by
  unfold lastP; rw [hf.fr,hf.le]; omega
 rw [near_rnd f s mag place _ h0 ht,hR _ (by unfold lastP; omega),hb,hf.le,hf.inf]
 obtain ⟨r,hr⟩:∃ r,r = rowR B F 0 s M K X:=⟨_,rfl⟩
 have hr2:(lastP B F K X - (1 - (B:Int) - (F:Int))).toNat * 2 ^ F+cutR 0 s M X (lastP B F K X) = r:=by rw [hr]; rfl
 rw [hr2,← hr]
 unfold Format.word bitsR
 rw [hf.sg]
 have hc:min r I = if r < I then r else if fth 0 s false 1 then I else I - 1:=by
  by_cases h:r < I
  ·rw [if_pos h,Nat.min_eq_left (by omega)]
  ·rw [if_neg h,Nat.min_eq_right (by omega),show fth 0 s false 1 = true from rfl,if_pos rfl]
 rw [hc]
 cases s <;> simp
theorem sti_star {p q d i j n b z M K N e a c:Nat} {X:Int} (h:Sti p q d i j n b z M K X) (hN:N * q * 2 ^ a = p * e * 2 ^ c):n * e * 2 ^ (i+c) = N * d * 2 ^ (a+j):=by
 refine Nat.eq_of_mul_eq_mul_right h.hq ?_
 have e1:n * e * 2 ^ (i+c) * q = (n * q * 2 ^ i) * (e * 2 ^ c):=by rw [Nat.pow_add]; ac_rfl
 have e2:N * d * 2 ^ (a+j) * q = (N * q * 2 ^ a) * (d * 2 ^ j):=by rw [Nat.pow_add]; ac_rfl
 rw [e1,e2,h.hn,hN]
 ac_rfl
theorem pow_lt_of {x y m:Nat} (h:2 ^ x * m < 2 ^ y * m):x < y:=by
 refine Nat.lt_of_not_le fun hle=>?_
 have:=Nat.mul_le_mul_right m (Nat.pow_le_pow_right (n:=2) (by omega) hle)
 omega
theorem Bl.div {n d b:Nat} (hd:0 < d) (h:Bl (n / d) b) (h0:n / d≠0):2 ^ (b - 1) * d≤n∧n < 2 ^ b * d∧0 < b:=by
 have h1:=h.1
 have hb:0 < b:=by
  rcases Nat.eq_zero_or_pos b with hb|hb
  ·rw [hb,Nat.pow_zero] at h1
   exact absurd (Nat.lt_one_iff.1 h1) h0
  ·exact hb
 have h2:2 ^ (b - 1)≤n / d:=by
  rcases h.2 with h2|h2
  ·exact absurd h2 (by omega)
  ·exact h2
 refine ⟨Nat.le_trans (Nat.mul_le_mul_right _ h2) (Nat.div_mul_le_self n d),(Nat.div_lt_iff_lt_mul hd).1 h1,hb⟩
theorem sti_log {p q d i j n b z M K N e a c y:Nat} {X:Int} (h:Sti p q d i j n b z M K X) (hN:N * q * 2 ^ a = p * e * 2 ^ c) (he:0 < e) (hy:Bl (N / e) y) (h0:N / e≠0):(y:Int) - 1+((a:Int) - (c:Int)) = X+(K:Int) - 1:=by
 have hs:=sti_star h hN
 have hb60:=h.b60
 have hnd:n / d≠0:=fun e0=>by
  have:=h.hb.2; have h1:=h.hb.1
  rw [e0] at this
  rcases this with q|q
  ·omega
  ·have:=two_pos (b - 1); omega
 obtain ⟨a1,a2,a3⟩:=h.hb.div h.hd hnd
 obtain ⟨c1,c2,c3⟩:=hy.div he h0
 have w:∀ (u v x m m':Nat),2 ^ u * m * m' * 2 ^ x = 2 ^ (u+x) * (m * m'):=fun u v x m m'=>by rw [Nat.pow_add]; ac_rfl
 have l1:b - 1+(i+c) < y+(a+j):=by
  refine pow_lt_of (m:=d * e) ?_
  have q1:2 ^ (b - 1) * d * e * 2 ^ (i+c)≤n * e * 2 ^ (i+c):=Nat.mul_le_mul_right _ (Nat.mul_le_mul_right _ a1)
  have q2:N * d * 2 ^ (a+j) < 2 ^ y * e * d * 2 ^ (a+j):=Nat.mul_lt_mul_of_pos_right (Nat.mul_lt_mul_of_pos_right c2 h.hd) (two_pos _)
  rw [w _ 0] at q1
  rw [w _ 0,Nat.mul_comm e d] at q2
  omega
 have l2:y - 1+(a+j) < b+(i+c):=by
  refine pow_lt_of (m:=d * e) ?_
  have q1:2 ^ (y - 1) * e * d * 2 ^ (a+j)≤N * d * 2 ^ (a+j):=Nat.mul_le_mul_right _ (Nat.mul_le_mul_right _ c1)
  have q2:n * e * 2 ^ (i+c) < 2 ^ b * d * e * 2 ^ (i+c):=Nat.mul_lt_mul_of_pos_right (Nat.mul_lt_mul_of_pos_right a2 he) (two_pos _)
  rw [w _ 0,Nat.mul_comm e d] at q1
  rw [w _ 0] at q2
  omega
 have:=h.e
 omega
theorem sti_cut {p q d i j n b z M K N e a c:Nat} {X:Int} (h:Sti p q d i j n b z M K X) (hN:N * q * 2 ^ a = p * e * 2 ^ c) (he:0 < e) (s:Bool) (t:Int) (ht:X+(K:Int) - 1 - 52≤t) (u v:Nat) (huv:(u:Int) - (v:Int) = (a:Int) - (c:Int) - t):rnd 0 s (N * 2 ^ u) (e * 2 ^ v) = cutR 0 s M X t:=by
 obtain ⟨D,hD,hD2,hc⟩:=h.cut 0 s ht
 rw [hc]
 have hs:=sti_star h hN
 refine rnd_cross (Nat.mul_pos he (two_pos _)) (Nat.mul_pos h.hd (two_pos _)) ?_
 refine Nat.eq_of_mul_eq_mul_right (two_pos (i+c)) ?_
 have e1:N * 2 ^ u * (d * 2 ^ (D - 1)) * 2 ^ (i+c) = N * d * 2 ^ (u+(D - 1)+(i+c)):=by rw [Nat.pow_add 2 (u+(D - 1)),Nat.pow_add 2 u]; ac_rfl
 have e2:n * (e * 2 ^ v) * 2 ^ (i+c) = (n * e * 2 ^ (i+c)) * 2 ^ v:=by ac_rfl
 have e3:N * d * 2 ^ (a+j) * 2 ^ v = N * d * 2 ^ (a+j+v):=by rw [Nat.pow_add 2 (a+j) v]; ac_rfl
 rw [e1,e2,hs,e3]
 congr 2
 omega
theorem near_exact {f:Format} {B F S I:Nat} (hf:Fmt f B F S I) (hF:F≤52) {p q d i j n b z M K mag a c:Nat} {X:Int} (h:Sti p q d i j n b z M K X) (s:Bool) (place:Int) (h0:mag≠0) (hm:mag * q * 2 ^ a = p * 2 ^ c) (hp:place = (a:Int) - (c:Int)) :
  f.nearest s mag place = bitsR S I 0 s (rowR B F 0 s M K X):=by
 have hN:mag * q * 2 ^ a = p * 1 * 2 ^ c:=by rw [Nat.mul_one]; exact hm
 have hy:=bl_blen mag
 have hyl:blen mag = mag.log2+1:=by unfold blen; rw [if_neg h0]
 have hl:=sti_log h hN (by omega) (y:=blen mag) (by rw [Nat.div_one]; exact hy) (by rw [Nat.div_one]; exact h0)
 refine near_of hf s mag place h0 (by omega) fun t ht=>?_
 have:=sti_cut h hN (by omega) s t (by omega) (place - t).toNat (t - place).toNat (by omega)
 rw [Nat.one_mul] at this
 exact this
end Go.Proofs.YtdekhacomggpgaaGreatDoor
