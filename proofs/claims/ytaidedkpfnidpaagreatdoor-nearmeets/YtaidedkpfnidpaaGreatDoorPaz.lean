/- Of what NearMeetsRow stands on: RFrac ExOf NrRdy RdAny SNat TnWhole SRdC SMono SMono2 SMono3 RsMath SNames RsWorth RyChk. -/
import Derived.Test.YtaidedkpfnidpaaGreatDoorPaq
import Derived.Test.YtaidedkpfnidpaaGreatDoorPau
import Derived.Test.YtaidedkpfnidpaaGreatDoorPax
import Derived.Test.YtaidedkpfnidpaaGreatDoorPar
import Derived.Test.YtaidedkpfnidpaaGreatDoorPay
import Derived.Test.YtaidedkpfnidpaaGreatDoorPat
import Derived.Test.YtaidedkpfnidpaaGreatDoorPae
import Derived.Test.YtaidedkpfnidpaaGreatDoorPag
import Derived.Test.YtaidedkpfnidpaaGreatDoorPaw
namespace Go.Proofs.YtaidedkpfnidpaaGreatDoor
open Go.RowKit
set_option maxHeartbeats 2000000
theorem nought_any (a:Option Addr) (n cap:Nat) (w:World) :
  Calls Tryz.prog 32 #[.agg #[.slice a n cap]] w fun en w'=>en = .returned (.bool (decide (n = 0)))∧Below w.heap.size w w':=by
 go_enter Tryz.func32,Tryz.ntmps32
 go_wp2
 go_ret
 refine ⟨ret_bool ?_,gr_alloc _ _⟩
 by_cases h:n = 0 <;> simp [h] <;> omega
theorem isOne_any (a:Option Addr) (n cap m:Nat) (w:World) (h:Num w a n m) :
  Calls Tryz.prog 42 #[.agg #[.slice a n cap]] w fun en w'=>en = .returned (.bool (decide (m = 1)))∧Below w.heap.size w w':=by
 have hS:=((Rs.begin w).num h).alloc #[.slice a n cap] 27
 by_cases h2:n≤2
 ·go_enter Tryz.func42,Tryz.ntmps42
  go_wp2_with fail
  refine (low_small a n cap m _ (hS.nm (a,n,m) (by simp)) h2).mono ?_
  rintro en w1 ⟨rfl,hb1⟩
  go_wp2
  go_ret
  refine ⟨ret_bool ?_,(hS.kept hb1).fr⟩
  by_cases h:m = 1 <;> simp [h] <;> omega
 ·go_enter Tryz.func42,Tryz.ntmps42
  go_wp2_with fail
  refine (low_big a n cap m _ (hS.nm (a,n,m) (by simp)) (by omega)).mono ?_
  rintro en w1 ⟨rfl,hb1⟩
  go_wp2
  go_ret
  refine ⟨ret_bool ?_,(hS.kept hb1).fr⟩
  have:m≠1:=by
   rintro rfl
   obtain ⟨xs,hn,_,hw,hN,hv,hb⟩:=h
   have:=Pl.val_le_len hw hN 1
   omega
  simp [this]
theorem rno_no (a:Option Addr) (n cap:Nat) (w:World) (hn:0 < n):Calls Tryz.prog 32 #[.agg #[.slice a n cap]] w fun en w'=>en = .returned (.bool false)∧Below w.heap.size w w':=by
 have:=nought_any a n cap w
 rw [decide_eq_false (by omega)] at this
 exact this
theorem one_yes (a:Option Addr) (n cap m:Nat) (w:World) (h:Num w a n m) (hm:m = 1):Calls Tryz.prog 42 #[.agg #[.slice a n cap]] w fun en w'=>en = .returned (.bool true)∧Below w.heap.size w w':=by
 have:=isOne_any a n cap m w h
 rw [decide_eq_true hm] at this
 exact this
theorem rk_ok_f (a:Option Addr) (n cap m:Nat) (a':Option Addr) (n' cap' m':Nat) (w:World) (hn':0 < n')  (h:Num w a n m) (h':Num w a' n' m') (hg:Nat.gcd m m' = 1) :
  Calls Tryz.prog 12 #[.agg #[.bool false,.slice a n cap,.slice a' n' cap']] w fun e w'=>e = .returned (.int .i64 0)∧Below w.heap.size w w':=by
 have H:=hide h
 have H':=hide h'
 have HG:=hide hg
 clear h h' hg
 go_enter Tryz.func12,Tryz.ntmps12
 go_wp2_with fail
 refine (rno_no a' n' cap' _ hn').mono ?_
 rintro e w1 ⟨rfl,hb1⟩
 have hS:=(Fs.one w _ _).kept hb1
 obtain ⟨⟨ya,yb,yc,-⟩,-⟩:=hS.cells
 go_wp2_with fail
 refine (gcd_any a a' n n' cap cap' m m' _ ((unhide H).kept hS.fr) ((unhide H').kept hS.fr)).mono ?_
 rintro e w2 ⟨⟨A1,N1,C1,rfl,f1⟩,hb2⟩
 replace hS:=hS.kept hb2
 clear ya yb yc
 obtain ⟨⟨yd,ye,yf,-⟩,-⟩:=hS.cells
 have G1:=hide f1.num
 clear f1
 have hltw2_0:w.heap.size < w2.heap.size:=hS.lt 0 rfl
 replace hS:=hS.alloc #[.slice A1 N1 C1] 27
 replace G1:=hide ((unhide G1).alloc (.cells #[.slice A1 N1 C1] 27))
 go_wp2_with fail
 refine (one_yes A1 N1 C1 _ _ (unhide G1) (unhide HG)).mono ?_
 rintro e w3 ⟨rfl,hb3⟩
 replace hS:=hS.kept hb3
 clear yd ye yf
 obtain ⟨⟨yg,-⟩,⟨yh,yi,yj,-⟩,-⟩:=hS.cells
 go_wp2
 go_ret
 exact ⟨rfl,hS.fr⟩
theorem rk_ok_t (a:Option Addr) (n cap m:Nat) (a':Option Addr) (n' cap' m':Nat) (w:World) (hn':0 < n')  (hn:0 < n) (h:Num w a n m) (h':Num w a' n' m') (hg:Nat.gcd m m' = 1) :
  Calls Tryz.prog 12 #[.agg #[.bool true,.slice a n cap,.slice a' n' cap']] w fun e w'=>e = .returned (.int .i64 0)∧Below w.heap.size w w':=by
 have H:=hide h
 have H':=hide h'
 have HG:=hide hg
 clear h h' hg
 go_enter Tryz.func12,Tryz.ntmps12
 go_wp2_with fail
 refine (rno_no a' n' cap' _ hn').mono ?_
 rintro e w1 ⟨rfl,hb1⟩
 have hS:=(Fs.one w _ _).kept hb1
 obtain ⟨⟨ya,yb,yc,-⟩,-⟩:=hS.cells
 go_wp2_with fail
 refine (rno_no a n cap _ hn).mono ?_
 rintro e w2 ⟨rfl,hb2⟩
 replace hS:=hS.kept hb2
 clear ya yb yc
 obtain ⟨⟨yd,ye,yf,-⟩,-⟩:=hS.cells
 go_wp2_with fail
 refine (gcd_any a a' n n' cap cap' m m' _ ((unhide H).kept hS.fr) ((unhide H').kept hS.fr)).mono ?_
 rintro e w3 ⟨⟨A1,N1,C1,rfl,f1⟩,hb3⟩
 replace hS:=hS.kept hb3
 clear yd ye yf
 obtain ⟨⟨yg,yh,yi,-⟩,-⟩:=hS.cells
 have G1:=hide f1.num
 clear f1
 have hltw3_0:w.heap.size < w3.heap.size:=hS.lt 0 rfl
 replace hS:=hS.alloc #[.slice A1 N1 C1] 27
 replace G1:=hide ((unhide G1).alloc (.cells #[.slice A1 N1 C1] 27))
 go_wp2_with fail
 refine (one_yes A1 N1 C1 _ _ (unhide G1) (unhide HG)).mono ?_
 rintro e w4 ⟨rfl,hb4⟩
 replace hS:=hS.kept hb4
 clear yg yh yi
 obtain ⟨⟨yj,-⟩,⟨yk,yl,ym,-⟩,-⟩:=hS.cells
 go_wp2
 go_ret
 exact ⟨rfl,hS.fr⟩
theorem rdyadic_is (E F mode:Nat) (h0:Fo E F) (hm:mode≤4) (s:Bool) (a:Option Addr) (n cap m:Nat) (x:Int) (ng:Bool) (gb fl:Int) (w:World) (B:Nat) (h:Mine w B a n cap m) (HC:Hid (∀ W:World,Num W a n m→Calls Tryz.prog 62 #[.agg #[.bool s,.slice a n cap,.int .i64 x]] W fun e w'=>e = .returned (.int .i64 0)∧Below W.heap.size W w')) (HR:Hid (∀ W:World,Mine W B a n cap m→Calls Tryz.prog 108 #[.agg #[.int .i64 E,.int .i64 F],.agg #[.bool s,.slice a n cap,.int .i64 x],.bool ng,.int .u8 (mode:Int)] W fun e w'=>e = .returned (.tuple #[.int .u64 gb,.int .u8 fl,.int .i64 0])∧Below W.heap.size W w')) :
  Calls Tryz.prog 65 #[.agg #[.int .i64 E,.int .i64 F],.agg #[.bool s,.slice a n cap,.int .i64 x],.bool ng,.int .u8 (mode:Int)] w fun e w'=>e = .returned (.tuple #[.int .u64 gb,.int .u8 fl,.int .i64 0])∧Below w.heap.size w w':=by
 have H:=hide h
 clear h
 go_enter Tryz.func65,Tryz.ntmps65
 go_wp2_with fail
 refine (check_ok _ _ _ h0).mono ?_
 rintro e w1 ⟨rfl,hb1⟩
 have hS:=(Fs.two w _ _ _ _).kept hb1
 obtain ⟨⟨ya,yb,-⟩,⟨yc,yd,ye,-⟩,-⟩:=hS.cells
 go_wp2_with fail
 refine (unhide HC _ ((unhide H).kept hS.fr).num).mono ?_
 rintro e w2 ⟨rfl,hb2⟩
 replace hS:=hS.kept hb2
 clear ya yb yc yd ye
 obtain ⟨⟨yf,yg,-⟩,⟨yh,yi,yj,-⟩,-⟩:=hS.cells
 go_wp2_with fail
 refine (mode_ok mode hm _).mono ?_
 rintro e w3 ⟨rfl,hb3⟩
 replace hS:=hS.kept hb3
 clear yf yg yh yi yj
 obtain ⟨⟨yk,yl,-⟩,⟨ym,yn,yo,-⟩,-⟩:=hS.cells
 go_wp2_with fail
 refine (unhide HR _ ((unhide H).kept hS.fr)).mono ?_
 rintro e w4 ⟨rfl,hb4⟩
 replace hS:=hS.kept hb4
 clear yk yl ym yn yo
 obtain ⟨⟨yp,yq,-⟩,⟨yr,ys,yt,-⟩,-⟩:=hS.cells
 go_wp2
 go_ret3
 exact ⟨rfl,hS.fr⟩
def blen (m:Nat):Nat:=if m = 0 then 0 else m.log2+1
theorem bl_blen (m:Nat):Bl m (blen m):=by
 unfold blen
 by_cases h:m = 0
 ·rw [if_pos h,h]; exact ⟨by decide,Or.inl rfl⟩
 ·rw [if_neg h]
  refine ⟨Nat.lt_log2_self,Or.inr ?_⟩
  rw [Nat.add_sub_cancel]
  exact Nat.log2_self_le h
theorem Bl.le_of {m k n:Nat} (h:Bl m k) (hm:m < 2 ^ n):k≤n:=by
 rcases h.2 with h0|h1
 ·omega
 ·exact Nat.le_of_not_lt fun hlt=>by
   have:2 ^ n≤2 ^ (k - 1):=pow_bound (by omega)
   omega
theorem Bl.gt_of {m k n:Nat} (h:Bl m k) (hm:2 ^ n≤m):n < k:=by
 refine Nat.lt_of_not_le fun hle=>?_
 have:=pow_bound hle
 have:=h.1
 omega
def cutR (md:Nat) (s:Bool) (m:Nat) (x t:Int):Nat:=if t≤x then m * 2 ^ (x - t).toNat else cutN md s m (t - x).toNat
def lastP (B F k:Nat) (x:Int):Int:=max (1 - (B:Int) - (F:Int)) (x+(k:Int) - 1 - (F:Int))
def rowR (B F md:Nat) (s:Bool) (m k:Nat) (x:Int):Nat:=(lastP B F k x - (1 - (B:Int) - (F:Int))).toNat * 2 ^ F+cutR md s m x (lastP B F k x)
def freeR (F md:Nat) (s:Bool) (m k:Nat) (x:Int):Int:=(blen (cutR md s m x (x+(k:Int) - 1 - (F:Int))):Int) - 1+(x+(k:Int) - 1 - (F:Int))
def flagR (B F I md:Nat) (s:Bool) (m k:Nat) (x:Int):Nat:=if I≤rowR B F md s m k x then 3 else if lastP B F k x≤x then 0 else if freeR F md s m k x < 1 - (B:Int) then 5 else 1
def bitsR (S I md:Nat) (s:Bool) (r:Nat):Nat:=(if s then S else 0)+(if r < I then r else if fth md s false 1 then I else I - 1)
theorem cut_le {md:Nat} {s:Bool} {m dr n:Nat} (h:m / 2 ^ dr < 2 ^ n):cutN md s m dr≤2 ^ n:=by
 unfold cutN; split <;> omega
theorem cut_ge {md:Nat} {s:Bool} {m dr n:Nat} (h:2 ^ n≤m / 2 ^ dr):2 ^ n≤cutN md s m dr:=by
 unfold cutN; omega
theorem cutR_le {md:Nat} {s:Bool} {m k F:Nat} {x t:Int} (hk:Bl m k) (h0:0 < m) (ht:x+(k:Int) - 1 - (F:Int)≤t):cutR md s m x t≤2 ^ (F+1):=by
 have hk1:=hk.1
 have hkp:0 < k:=by
  rcases Nat.eq_zero_or_pos k with h|h
  ·rw [h] at hk1; simp at hk1; omega
  ·exact h
 unfold cutR
 by_cases hx:t≤x
 ·rw [if_pos hx]
  obtain ⟨j,hj⟩:∃ j,(x - t).toNat = j:=⟨_,rfl⟩
  rw [hj]
  have hle:k+j≤F+1:=by omega
  have h1:m * 2 ^ j≤2 ^ k * 2 ^ j:=Nat.mul_le_mul_right _ (by omega)
  rw [← Nat.pow_add] at h1
  exact Nat.le_trans h1 (pow_bound hle)
 ·rw [if_neg hx]
  obtain ⟨j,hj⟩:∃ j,(t - x).toNat = j:=⟨_,rfl⟩
  rw [hj]
  refine cut_le ?_
  rw [Nat.div_lt_iff_lt_mul (pow_pos2 _),← Nat.pow_add]
  exact Nat.lt_of_lt_of_le hk1 (pow_bound (by omega))
theorem cutR_ge {md:Nat} {s:Bool} {m k F:Nat} {x t:Int} (hk:Bl m k) (h0:0 < m) (ht:x+(k:Int) - 1 - (F:Int) = t):2 ^ F≤cutR md s m x t:=by
 have hk1:=hk.1
 have hkp:0 < k:=by
  rcases Nat.eq_zero_or_pos k with h|h
  ·rw [h] at hk1; simp at hk1; omega
  ·exact h
 have hge:2 ^ (k - 1)≤m:=by rcases hk.2 with h|h; omega; exact h
 unfold cutR
 by_cases hx:t≤x
 ·rw [if_pos hx]
  obtain ⟨j,hj⟩:∃ j,(x - t).toNat = j:=⟨_,rfl⟩
  rw [hj]
  have h1:2 ^ (k - 1) * 2 ^ j≤m * 2 ^ j:=Nat.mul_le_mul_right _ hge
  rw [← Nat.pow_add] at h1
  exact Nat.le_trans (pow_bound (by omega)) h1
 ·rw [if_neg hx]
  obtain ⟨j,hj⟩:∃ j,(t - x).toNat = j:=⟨_,rfl⟩
  rw [hj]
  refine cut_ge ?_
  rw [Nat.le_div_iff_mul_le (pow_pos2 _),← Nat.pow_add]
  exact Nat.le_trans (pow_bound (by omega)) hge
theorem cut_any (s:Bool) (a:Option Addr) (n cap m md F k:Nat) (x t:Int) (w:World) (h:Num w a n m) (hcap:n≤cap) (hcap2:cap≤9223372036854775807) (hm:md≤4) (hk:Bl m k) (h0:0 < m) (hF:F≤52) (hx:-2147483648≤x∧x≤2147483648) (ht2:-2147483648≤t∧t≤2147483648) (ht:x+(k:Int) - 1 - (F:Int)≤t) :
  Calls Tryz.prog 137 #[.agg #[.bool s,.slice a n cap,.int .i64 x],.int .i64 t,.int .u8 (md:Int)] w fun e w'=>e = .returned (.tuple #[.int .u64 (cutR md s m x t:Int),.bool (decide (t≤x))])∧Below w.heap.size w w':=by
 have hk1:=hk.1
 have hkp:0 < k:=by
  rcases Nat.eq_zero_or_pos k with h|h
  ·rw [h] at hk1; simp at hk1; omega
  ·exact h
 have hle:=cutR_le (md:=md) (s:=s) hk h0 ht
 have hp53:2 ^ (F+1)≤2 ^ 53:=pow_bound (by omega)
 have e53:(2:Nat) ^ 53 = 9007199254740992:=by decide
 unfold cutR at *
 by_cases hxt:t≤x
 ·rw [if_pos hxt] at hle ⊢
  rw [decide_eq_true hxt]
  obtain ⟨j,hj⟩:∃ j,(x - t).toNat = j:=⟨_,rfl⟩
  rw [hj] at hle ⊢
  have hk53:m < 2 ^ 53:=Nat.lt_of_lt_of_le hk1 (pow_bound (by omega))
  have:=cut_whole s a n cap m j md x w h (by omega) (by omega) (by omega)
  rw [show x - (j:Int) = t from by omega] at this
  exact this
 ·rw [if_neg hxt] at hle ⊢
  rw [decide_eq_false hxt]
  obtain ⟨j,hj⟩:∃ j,(t - x).toNat = j:=⟨_,rfl⟩
  rw [hj] at hle ⊢
  have hq:m / 2 ^ j < 9223372036854775808:=by
   have:m / 2 ^ j≤cutN md s m j:=by unfold cutN; omega
   omega
  have:=cut_drop s a n cap m j md x w h hcap hcap2 hm (by omega) (by omega) hq
  rw [show x+(j:Int) = t from by omega] at this
  exact this
theorem bias2 {E B:Nat} (hE:2≤E) (HB:B = 2 ^ (E - 1) - 1):2 * B+1 = 2 ^ E - 1∧1≤B:=by
 obtain ⟨e,rfl⟩:∃ e,E = e+2:=⟨E - 2,by omega⟩
 rw [show e+2 - 1 = e+1 from by omega] at HB
 have h1:2 ^ (e+2) = 2 * 2 ^ (e+1):=by rw [Nat.pow_succ,Nat.mul_comm]
 have h2:2 ^ (e+1) = 2 * 2 ^ e:=by rw [Nat.pow_succ,Nat.mul_comm]
 have:=pow_pos2 e
 omega
theorem over_iff {B F N kN I:Nat} {t:Int} (hkN:Bl N kN) (hN:N≤2 ^ (F+1)) (hlo:t = 1 - (B:Int) - (F:Int)∨(1 - (B:Int) - (F:Int) < t∧2 ^ F≤N)) (hB:1≤B) (hI:I = (2 * B+1) * 2 ^ F) :
  (B:Int) < (kN:Int) - 1+t↔I≤(t - (1 - (B:Int) - (F:Int))).toNat * 2 ^ F+N:=by
 obtain ⟨st,hst⟩:∃ st,(t - (1 - (B:Int) - (F:Int))).toNat = st:=⟨_,rfl⟩
 rw [hst]
 have hts:t = (st:Int)+(1 - (B:Int) - (F:Int)):=by omega
 have p0:=pow_pos2 F
 have p1:2 ^ (F+1) = 2 * 2 ^ F:=by rw [Nat.pow_succ,Nat.mul_comm]
 have kle:kN≤F+2:=hkN.le_of (by rw [show F+2 = F+1+1 from rfl,Nat.pow_succ]; have:=pow_pos2 (F+1); omega)
 obtain ⟨P,hP⟩:∃ P,P = 2 ^ F:=⟨_,rfl⟩
 rw [p1] at hN
 rw [← hP] at hN hlo p0 hI ⊢
 by_cases c0:N < P
 ·have hz:st = 0:=by rcases hlo with h|h <;> omega
  have k0:kN≤F:=hkN.le_of (by rw [← hP]; exact c0)
  subst hz
  constructor
  ·intro h; omega
  ·intro h
   exfalso
   have:P≤(2 * B+1) * P:=Nat.le_mul_of_pos_left _ (by omega)
   omega
 ·have k1:F < kN:=hkN.gt_of (by rw [← hP]; omega)
  by_cases c1:N < 2 * P
  ·have k2:kN = F+1:=by
    have:=hkN.le_of (n:=F+1) (by rw [p1,← hP]; exact c1)
    omega
   constructor
   ·intro h
    have hs:2 * B≤st:=by omega
    have:=Nat.mul_le_mul_right P hs
    rw [hI,Nat.add_mul,Nat.one_mul]
    omega
   ·intro h
    have hs:2 * B≤st:=by
     refine Nat.le_of_not_lt fun hc=>?_
     have:=Nat.mul_le_mul_right P (show st+1≤2 * B from hc)
     rw [Nat.add_mul,Nat.one_mul] at this
     rw [hI,Nat.add_mul,Nat.one_mul] at h
     omega
    omega
  ·have k2:kN = F+2:=by
    have:=hkN.gt_of (n:=F+1) (by rw [p1,← hP]; omega)
    omega
   obtain ⟨Bm,rfl⟩:∃ Bm,B = Bm+1:=⟨B - 1,by omega⟩
   constructor
   ·intro h
    have hs:2 * Bm+1≤st:=by omega
    have h2:=Nat.mul_le_mul_right P hs
    rw [show 2 * (Bm+1)+1 = 2 * Bm+1+2 from by omega,Nat.add_mul] at hI
    omega
   ·intro h
    have hs:2 * Bm+1≤st:=by
     refine Nat.le_of_not_lt fun hc=>?_
     have h2:=Nat.mul_le_mul_right P (show st+1≤2 * Bm+1 from hc)
     rw [Nat.add_mul,Nat.one_mul] at h2
     rw [show 2 * (Bm+1)+1 = 2 * Bm+1+2 from by omega,Nat.add_mul] at hI
     omega
    omega
theorem Num.bl {w:World} {a:Option Addr} {n m k:Nat} (h:Num w a n m) (hk:Bl m k):k≤524288:=by
 have h1:=h.lt
 rw [show (4294967296:Nat) ^ Pl.top = 2 ^ (32 * Pl.top) from by rw [Nat.pow_mul]] at h1
 have:=hk.le_of h1
 have:=Pl.top_eq
 omega
theorem rounded_any {E F S I B md:Nat} (h:Fm E F S I) (hB:B = 2 ^ (E - 1) - 1) (hm:md≤4) (ng s:Bool) (a:Option Addr) (n cap m k:Nat) (x:Int) (W:World) (Bs:Nat) (g:Mine W Bs a n cap m) (hA:m % 2 = 1∧-1073741824≤x∧x≤1073741824) (hk:Bl m k) :
  Calls Tryz.prog 108 #[.agg #[.int .i64 E,.int .i64 F],.agg #[.bool s,.slice a n cap,.int .i64 x],.bool ng,.int .u8 (md:Int)] W fun e w'=>e = .returned (.tuple #[.int .u64 (bitsR S I md s (rowR B F md s m k x):Int),.int .u8 (flagR B F I md s m k x:Int),.int .i64 0])∧Below W.heap.size W w':=by
 obtain ⟨hc1,hc2⟩:=mine_caps g
 have h0:0 < m:=by omega
 have hn:0 < n:=by have:=g.num.zero; omega
 have hk2:=g.num.bl hk
 have hF:=h.fo.f52
 have hF1:=h.fo.f1
 have hE:=h.fo.e2
 obtain ⟨b2,b1⟩:=bias2 hE hB
 have hI:I = (2 * B+1) * 2 ^ F:=by rw [b2]; exact h.hI
 have hB10:B≤1023:=by
  have:=pow_bound (n:=E - 1) (k:=10) (by have:=h.fo.e11; omega)
  have e10:(2:Nat) ^ 10 = 1024:=by decide
  omega
 obtain ⟨t,ht⟩:∃ t,lastP B F k x = t:=⟨_,rfl⟩
 have htd:=ht
 unfold lastP at htd
 obtain ⟨N,hN⟩:∃ N,cutR md s m x t = N:=⟨_,rfl⟩
 have hNle:N≤2 ^ (F+1):=by rw [← hN]; exact cutR_le hk h0 (by omega)
 have hlo:t = 1 - (B:Int) - (F:Int)∨(1 - (B:Int) - (F:Int) < t∧2 ^ F≤N):=by
  by_cases c:t = 1 - (B:Int) - (F:Int)
  ·exact Or.inl c
  ·exact Or.inr ⟨by omega,by rw [← hN]; exact cutR_ge hk h0 (by omega)⟩
 have hkN:=bl_blen N
 have hiff:=over_iff hkN hNle hlo b1 hI
 have hp53:2 ^ (F+1)≤2 ^ 53:=pow_bound (by omega)
 have e53:(2:Nat) ^ 53 = 9007199254740992:=by decide
 have hkN2:blen N≤64:=hkN.le_of (Nat.lt_of_le_of_lt hNle (Nat.lt_of_le_of_lt hp53 (by decide)))
 have HC:∀ W:World,Num W a n m→Calls Tryz.prog 137 #[.agg #[.bool s,.slice a n cap,.int .i64 x],.int .i64 t,.int .u8 (md:Int)] W fun e w'=>e = .returned (.tuple #[.int .u64 N,.bool (decide (t≤x))])∧Below W.heap.size W w':=fun W g=>by
  have:=cut_any s a n cap m md F k x t W g hc1 hc2 hm hk h0 hF (by omega) (by omega) (by omega)
  rw [hN] at this
  exact this
 have hr:rowR B F md s m k x = (t - (1 - (B:Int) - (F:Int))).toNat * 2 ^ F+N:=by unfold rowR; rw [ht,hN]
 obtain ⟨st,hst⟩:∃ st,(t - (1 - (B:Int) - (F:Int))).toNat = st:=⟨_,rfl⟩
 rw [hst] at hr hiff
 unfold bitsR flagR
 rw [hr,ht]
 by_cases hov:I≤st * 2 ^ F+N
 ·rw [if_neg (show ¬ st * 2 ^ F+N < I by omega),if_pos hov]
  have hov2:=hiff.2 hov
  have hlt:=h.lt
  have hfar:=farther_any md s false 1 hm (Or.inr (Or.inr rfl))
  by_cases hf:fth md s false 1 = true
  ·rw [if_pos hf]
   have hbt:Bt E F ((if s then S else 0)+I) s (2 ^ E - 1) 0:=⟨pow_pos2 _,by have:=pow_pos2 E; omega,by rw [← h.hS,← h.hI]; cases s <;> simp⟩
   refine rounded_over E F B md ng s a n cap m k x t N (blen N) (decide (t≤x)) _ W h.fo (hide hB) g.num hn hk hk2 hA.2 htd (hide HC) (by omega) hkN hkN2 hov2 (hide fun W=>?_)
   exact over_inf E F _ (2 ^ E - 1) md s h.fo W hbt (hide rfl) (hide fun W=>by have:=hfar W; rw [hf] at this; exact this)
  ·rw [if_neg hf]
   have hf':fth md s false 1 = false:=by simpa using hf
   have hp:=pow_pos2 F
   have hE4:2 ^ 2≤2 ^ E:=pow_bound hE
   have hbt:Bt E F ((if s then S else 0)+(I - 1)) s (2 ^ E - 2) (2 ^ F - 1):=by
    refine ⟨by omega,by omega,?_⟩
    have e1:(2 ^ E - 2) * 2 ^ F+(2 ^ F - 1) = I - 1:=by
     rw [h.hI]
     obtain ⟨q,hq⟩:∃ q,2 ^ E = q+2:=⟨2 ^ E - 2,by omega⟩
     rw [hq,show q+2 - 2 = q from by omega,show q+2 - 1 = q+1 from by omega,Nat.add_mul,Nat.one_mul]
     omega
    rw [← h.hS,e1]; cases s <;> simp
   refine rounded_over E F B md ng s a n cap m k x t N (blen N) (decide (t≤x)) _ W h.fo (hide hB) g.num hn hk hk2 hA.2 htd (hide HC) (by omega) hkN hkN2 hov2 (hide fun W=>?_)
   exact over_top E F _ (2 ^ E - 2) (2 ^ F - 1) md s h.fo W hbt (hide (by omega)) (hide rfl) (hide fun W=>by have:=hfar W; rw [hf'] at this; exact this)
 ·rw [if_pos (show st * 2 ^ F+N < I by omega),if_neg hov]
  have hov2:(blen N:Int) - 1+t≤(B:Int):=by
   refine Int.not_lt.1 fun hc=>hov (hiff.1 hc)
  have hp:=pow_pos2 F
  have p1:2 ^ (F+1) = 2 * 2 ^ F:=by rw [Nat.pow_succ,Nat.mul_comm]
  obtain ⟨hd,hhd⟩:∃ hd,hd = N / 2 ^ F:=⟨_,rfl⟩
  have hdm:=Nat.div_add_mod N (2 ^ F)
  have hml:=Nat.mod_lt N hp
  rw [← hhd,Nat.mul_comm] at hdm
  have hd2:hd≤2:=by
   rw [hhd]
   exact Nat.le_of_lt_succ ((Nat.div_lt_iff_lt_mul hp).2 (by omega))
  have hsum:(st+hd) * 2 ^ F+N % 2 ^ F = st * 2 ^ F+N:=by rw [Nat.add_mul]; omega
  have hlt2:st+hd < 2 ^ E - 1:=by
   refine Nat.lt_of_not_le fun hc=>?_
   have:=Nat.mul_le_mul_right (2 ^ F) hc
   rw [← h.hI] at this
   omega
  have hE11:2 ^ E≤2 ^ 11:=pow_bound h.fo.e11
  have e11:(2:Nat) ^ 11 = 2048:=by decide
  have hfr:N % 2 ^ F = N - hd * 2 ^ F:=by omega
  have hbt:Bt E F ((if s then S else 0)+(st * 2 ^ F+N)) s (st+hd) (N % 2 ^ F):=⟨hml,by omega,by rw [hsum,← h.hS]; cases s <;> simp⟩
  have HS9:Hid (t - (1 - (B:Int) - (F:Int)) = (st:Int)):=hide (by omega)
  by_cases hw:t≤x
  ·rw [if_pos hw]
   rw [decide_eq_true hw] at HC
   exact rounded_whole E F B md ng s a n cap m k x t N (blen N) _ st hd (N % 2 ^ F) W h.fo (hide hB) g.num hn hk hk2 hA.2 htd (hide HC) (by omega) hkN hkN2 hov2 HS9 (by omega) hhd hd2 hfr hbt
  ·rw [if_neg hw]
   rw [decide_eq_false hw] at HC
   obtain ⟨N2,hN2⟩:∃ N2,cutR md s m x (x+(k:Int) - 1 - (F:Int)) = N2:=⟨_,rfl⟩
   have hN2le:N2≤2 ^ (F+1):=by rw [← hN2]; exact cutR_le hk h0 (Int.le_refl _)
   have HM:∀ W:World,Num W a n m→Calls Tryz.prog 140 #[.agg #[.bool s,.slice a n cap,.int .i64 x],.int .i64 (x+(k:Int) - 1 - (F:Int)),.int .i64 (1 - (B:Int)),.int .u8 (md:Int)] W fun e w'=>e = .returned (.bool (decide ((blen N2:Int) - 1+(x+(k:Int) - 1 - (F:Int)) < 1 - (B:Int))))∧Below W.heap.size W w':=fun W g=>by
    refine small_is s a n cap x _ _ md N2 (blen N2) (decide (x+(k:Int) - 1 - (F:Int)≤x)) W (hide fun W' hb=>?_) (by omega) (bl_blen N2) ((bl_blen N2).le_of (Nat.lt_of_le_of_lt hN2le (Nat.lt_of_le_of_lt hp53 (by decide)))) (by omega)
    have:=cut_any s a n cap m md F k x (x+(k:Int) - 1 - (F:Int)) W' (g.kept hb) hc1 hc2 hm hk h0 hF (by omega) (by omega) (Int.le_refl _)
    rw [hN2] at this
    exact this
   have hfree:freeR F md s m k x = (blen N2:Int) - 1+(x+(k:Int) - 1 - (F:Int)):=by unfold freeR; rw [hN2]
   rw [hfree]
   by_cases hs:(blen N2:Int) - 1+(x+(k:Int) - 1 - (F:Int)) < 1 - (B:Int)
   ·rw [if_pos hs]
    rw [decide_eq_true hs] at HM
    exact rounded_small E F B md ng s a n cap m k x t N (blen N) _ st hd (N % 2 ^ F) W h.fo (hide hB) g.num hn hk hk2 hA.2 htd (hide HC) (by omega) hkN hkN2 hov2 HS9 (by omega) hhd hd2 hfr hbt (hide HM)
   ·rw [if_neg hs]
    rw [decide_eq_false hs] at HM
    exact rounded_plain E F B md ng s a n cap m k x t N (blen N) _ st hd (N % 2 ^ F) W h.fo (hide hB) g.num hn hk hk2 hA.2 htd (hide HC) (by omega) hkN hkN2 hov2 HS9 (by omega) hhd hd2 hfr hbt (hide HM)
theorem rdyadic_any {E F S I B md:Nat} (h:Fm E F S I) (hB:B = 2 ^ (E - 1) - 1) (hm:md≤4) (ng s:Bool) (a:Option Addr) (n cap m k:Nat) (x:Int) (W:World) (Bs:Nat) (g:Mine W Bs a n cap m) (hA:m % 2 = 1∧-1073741824≤x∧x≤1073741824) (hk:Bl m k) :
  Calls Tryz.prog 65 #[.agg #[.int .i64 E,.int .i64 F],.agg #[.bool s,.slice a n cap,.int .i64 x],.bool ng,.int .u8 (md:Int)] W fun e w'=>e = .returned (.tuple #[.int .u64 (bitsR S I md s (rowR B F md s m k x):Int),.int .u8 (flagR B F I md s m k x:Int),.int .i64 0])∧Below W.heap.size W w':=
 rdyadic_is E F md h.fo hm s a n cap m x ng _ _ W Bs g (hide fun W g=>dcheck_dy s a n cap m x W ⟨g,Or.inr hA⟩) (hide fun W g=>rounded_any h hB hm ng s a n cap m k x W Bs g hA hk)
def HUp (m:Nat) (s:Int) (v:Nat):Prop:=∀ (W:World) (A:Option Addr) (N C:Nat),Num W A N m→Calls Tryz.prog 63 #[.agg #[.slice A N C],.int .i64 s] W fun en W'=>(∃ a n c,en = .returned (.tuple #[.agg #[.slice a n c],.int .i64 0])∧Mine W' W.heap.size a n c v)∧Below W.heap.size W W'
def HTwo (f:FuncId) (x y v:Nat):Prop:=∀ (W:World) (a:Option Addr) (n c:Nat) (a':Option Addr) (n' c':Nat),Num W a n x→Num W a' n' y→Calls Tryz.prog f #[.agg #[.slice a n c],.agg #[.slice a' n' c']] W fun en W'=>(∃ a n c,en = .returned (.tuple #[.agg #[.slice a n c],.int .i64 0])∧Mine W' W.heap.size a n c v)∧Below W.heap.size W W'
def HDiv (x y q r:Nat):Prop:=∀ (W:World) (a:Option Addr) (n c:Nat) (a':Option Addr) (n' c':Nat),Num W a n x→Num W a' n' y→Calls Tryz.prog 154 #[.agg #[.slice a n c],.agg #[.slice a' n' c']] W fun en W'=>(∃ a n c a' n' c',en = .returned (.tuple #[.agg #[.slice a n c],.agg #[.slice a' n' c'],.int .i64 0])∧Mine W' W.heap.size a n c q∧Mine W' W.heap.size a' n' c' r)∧Below W.heap.size W W'
theorem div_pos (a a':Option Addr) (n n' cap cap' m d:Nat) (w:World) (h:Num w a n m) (h':Num w a' n' d) (hd:0 < d) :
  Calls Tryz.prog 154 #[.agg #[.slice a n cap],.agg #[.slice a' n' cap']] w fun e w'=>(∃ aq nq cq ar nr cr,e = .returned (.tuple #[.agg #[.slice aq nq cq],.agg #[.slice ar nr cr],.int .i64 0])∧Mine w' w.heap.size aq nq cq (m / d)∧Mine w' w.heap.size ar nr cr (m % d))∧Below w.heap.size w w':=by
 refine (div_any a a' n n' cap cap' m d w h h').mono ?_
 rintro e w' ⟨h1,hb⟩
 rcases h1 with ⟨h0,_⟩|⟨_,h1⟩
 ·omega
 ·exact ⟨h1,hb⟩
theorem ans_ok {w:World} {base:Nat} {e:Ending} {m:Nat} (h:Ans w base e m) (hn:¬ Over m):∃ a n cap,e = .returned (.tuple #[.agg #[.slice a n cap],.int .i64 0])∧Mine w base a n cap m:=by
 rcases h with h|⟨_,h⟩
 ·exact h
 ·exact absurd h hn
theorem hup {m k:Nat} (hk:k < 9223372036854775808) (ho:¬ Over (m * 2 ^ k)):HUp m k (m * 2 ^ k):=fun W A N C h=>(up_any A N C m k W h hk).mono fun _ _ ⟨h1,hb⟩=>⟨ans_ok h1 ho,hb⟩
theorem hmul {x y:Nat} (ho:¬ Over (x * y)):HTwo 118 x y (x * y):=fun W a n c a' n' c' h h'=>(mul_any a a' n n' c c' x y W h h').mono fun _ _ ⟨h1,hb⟩=>⟨ans_ok h1 ho,hb⟩
theorem hdiv {x d:Nat} (hd:0 < d):HDiv x d (x / d) (x % d):=fun W a n c a' n' c' h h'=>div_pos a a' n n' c c' x d W h h' hd
def hlf (r w:Nat):Int:=if 2 * r < w then -1 else if 2 * r = w then 0 else 1
def rnd (md:Nat) (s:Bool) (p w:Nat):Nat:=p / w+(if p % w = 0 then 0 else if fth md s (decide (p / w % 2 = 1)) (hlf (p % w) w) then 1 else 0)
theorem fth_mono {md:Nat} {s o:Bool} {h h':Int} (hle:h≤h') (hf:fth md s o h = true):fth md s o h' = true:=by
 match md with
 | 0=>
  simp only [fth,Bool.or_eq_true,Bool.and_eq_true,decide_eq_true_eq] at hf ⊢
  rcases hf with hf|⟨hf,ho⟩
  ·left; omega
  ·by_cases h0:h' = 0
   ·exact Or.inr ⟨h0,ho⟩
   ·left; omega
 | 1=>simp only [fth,decide_eq_true_eq] at hf ⊢; omega
 | 2=>simp [fth] at hf
 | 3=>simpa [fth] using hf
 | n+4=>simpa [fth] using hf
theorem hlf_mono {r w r' w':Nat} (hw:0 < w) (hw':0 < w') (h:r * w'≤r' * w):hlf r w≤hlf r' w':=by
 have k1:2 * r' < w'→2 * r < w:=fun h1=>by
  refine Nat.lt_of_not_le fun h2=>?_
  have a1:=Nat.mul_le_mul_right w' h2
  have a2:=Nat.mul_lt_mul_of_pos_right h1 hw
  have a3:2 * r * w' = 2 * (r * w'):=Nat.mul_assoc ..
  have a4:2 * r' * w = 2 * (r' * w):=Nat.mul_assoc ..
  have a5:=Nat.mul_comm w w'
  omega
 have k2:2 * r' = w'→2 * r≤w:=fun h1=>by
  refine Nat.le_of_not_lt fun h2=>?_
  have a1:=Nat.mul_lt_mul_of_pos_right h2 hw'
  have a3:2 * r * w' = 2 * (r * w'):=Nat.mul_assoc ..
  have a4:2 * r' * w = 2 * (r' * w):=Nat.mul_assoc ..
  have a5:=Nat.mul_comm w w'
  rw [h1] at a4
  omega
 unfold hlf
 split <;> split <;> (try split) <;> (try split) <;> omega
theorem rnd_mono {md:Nat} {s:Bool} {p w p' w':Nat} (hw:0 < w) (hw':0 < w') (h:p * w'≤p' * w):rnd md s p w≤rnd md s p' w':=by
 have hq:p / w≤p' / w':=by
  rw [Nat.le_div_iff_mul_le hw']
  have h1:p / w * w≤p:=Nat.div_mul_le_self p w
  have h2:=Nat.mul_le_mul_right w' h1
  refine Nat.le_of_mul_le_mul_right (c:=w) ?_ hw
  have a1:p / w * w' * w = p / w * w * w':=Nat.mul_right_comm ..
  omega
 have i1:rnd md s p w≤p / w+1:=by unfold rnd; split <;> (try split) <;> omega
 have i2:p' / w'≤rnd md s p' w':=by unfold rnd; omega
 rcases Nat.lt_or_ge (p / w) (p' / w') with h1|h1
 ·omega
 ·have e:p / w = p' / w':=by omega
  have hr:p % w * w'≤p' % w' * w:=by
   have d1:=Nat.div_add_mod p w
   have d2:=Nat.div_add_mod p' w'
   rw [← d1,← d2,Nat.add_mul,Nat.add_mul,← e] at h
   have a1:w * (p / w) * w' = w' * (p / w) * w:=by rw [Nat.mul_comm w (p / w),Nat.mul_comm w' (p / w),Nat.mul_right_comm]
   omega
  unfold rnd
  rw [← e]
  by_cases h0:p % w = 0
  ·rw [if_pos h0]; omega
  ·rw [if_neg h0]
   have h0':p' % w'≠0:=fun hc=>by
    rw [hc,Nat.zero_mul] at hr
    have:=Nat.mul_pos (Nat.pos_of_ne_zero h0) hw'
    omega
   rw [if_neg h0']
   have hm:=hlf_mono hw hw' hr
   by_cases hf:fth md s (decide (p / w % 2 = 1)) (hlf (p % w) w) = true
   ·rw [if_pos hf,if_pos (fth_mono hm hf)]; exact Nat.le_refl _
   ·rw [if_neg hf]; omega
theorem ahf_hlf {M dr:Nat} (ho:M % 2 = 1) (h1:1≤dr):ahf M dr = hlf (M % 2 ^ dr) (2 ^ dr):=by
 obtain ⟨k,rfl⟩:∃ k,dr = k+1:=⟨dr - 1,by omega⟩
 have hp:2 ^ (k+1) = 2 * 2 ^ k:=by rw [Nat.pow_succ,Nat.mul_comm]
 have hpk:=Nat.pow_pos (n:=k) (show 0 < 2 by omega)
 have hm:M % 2 ^ (k+1) = M % 2 ^ k+2 ^ k * (M / 2 ^ k % 2):=by rw [Nat.pow_succ,Nat.mod_mul]
 have hl:=Nat.mod_lt M hpk
 unfold ahf hlf
 rw [show k+1 - 1 = k from by omega,hm,hp]
 by_cases hb:M / 2 ^ k % 2 = 1
 ·rw [if_pos hb,hb,Nat.mul_one]
  by_cases hk:k = 0
  ·subst hk
   simp [Nat.mod_one]
  ·have hodd:M % 2 ^ k % 2 = 1:=by
    rw [Nat.mod_mod_of_dvd _ (Nat.dvd_of_mod_eq_zero (by rw [show k = (k - 1)+1 from by omega,Nat.pow_succ]; exact Nat.mul_mod_left ..))]; exact ho
   rw [if_neg (by omega),if_neg (by omega),if_neg (by omega)]
 ·have h0:M / 2 ^ k % 2 = 0:=by omega
  rw [if_neg hb,h0,Nat.mul_zero,if_pos (by omega)]
theorem hlf_scale {r w c:Nat} (hc:0 < c):hlf (c * r) (c * w) = hlf r w:=by
 have a1:2 * (c * r) = c * (2 * r):=Nat.mul_left_comm ..
 unfold hlf
 rw [a1]
 have e1:(c * (2 * r) < c * w) = (2 * r < w):=propext (Nat.mul_lt_mul_left hc)
 have e2:(c * (2 * r) = c * w) = (2 * r = w):=propext (Nat.mul_right_inj (by omega))
 simp only [e1,e2]
theorem cut_std {md:Nat} {s:Bool} {n d D A z M:Nat} {X t:Int} (hd:0 < d) (hA:A = if n % d = 0 then 2 * (n / d) else 2 * (n / d)+1) (hz:A = M * 2 ^ z) (ho:M % 2 = 1) (hD:2≤D) (hXt:(D:Int) = t - X+(z:Int)):cutR md s M X t = rnd md s n (d * 2 ^ (D - 1)):=by
 have p2:∀ k,0 < 2 ^ k:=fun k=>Nat.pow_pos (by omega)
 obtain ⟨e,rfl⟩:∃ e,D = e+2:=⟨D - 2,by omega⟩
 rw [show e+2 - 1 = e+1 from by omega]
 have hdm:=Nat.div_add_mod n d
 have hml:=Nat.mod_lt n hd
 obtain ⟨Q,hQ⟩:∃ Q,n / d = Q:=⟨_,rfl⟩
 obtain ⟨ρ,hρ⟩:∃ ρ,n % d = ρ:=⟨_,rfl⟩
 rw [hQ,hρ] at hdm hA
 rw [hρ] at hml
 have hpe:2 ^ (e+2) = 2 * 2 ^ (e+1):=by rw [Nat.pow_succ,Nat.mul_comm]
 have hpe1:2 ^ (e+1) = 2 * 2 ^ e:=by rw [Nat.pow_succ,Nat.mul_comm]
 have hdiv:n / (d * 2 ^ (e+1)) = Q / 2 ^ (e+1):=by rw [← Nat.div_div_eq_div_mul,hQ]
 obtain ⟨c,hc⟩:∃ c,Q / 2 ^ (e+1) = c:=⟨_,rfl⟩
 obtain ⟨q',hq'⟩:∃ q',Q % 2 ^ (e+1) = q':=⟨_,rfl⟩
 have hQd:=Nat.div_add_mod Q (2 ^ (e+1))
 have hql:=Nat.mod_lt Q (p2 (e+1))
 rw [hc,hq'] at hQd
 rw [hq'] at hql
 have hrem:n % (d * 2 ^ (e+1)) = d * q'+ρ:=by
  rw [Nat.mod_mul,hρ,hQ,hq']; omega
 have hA2:A / 2 ^ (e+2) = c∧A % 2 ^ (e+2) = 2 * q'+(if ρ = 0 then 0 else 1):=by
  have e1:A = 2 ^ (e+2) * c+(2 * q'+(if ρ = 0 then 0 else 1)):=by
   rw [hA,hpe,← hQd,Nat.mul_assoc]; split <;> omega
  have e2:2 * q'+(if ρ = 0 then 0 else 1) < 2 ^ (e+2):=by rw [hpe]; split <;> omega
  rw [e1]
  exact ⟨by rw [Nat.mul_add_div (p2 _),Nat.div_eq_of_lt e2]; omega,by rw [Nat.mul_add_mod,Nat.mod_eq_of_lt e2]⟩
 unfold cutR rnd
 rw [hdiv,hc,hrem]
 by_cases htX:t≤X
 ·rw [if_pos htX]
  obtain ⟨y,hy⟩:∃ y:Nat,(X - t).toNat = y:=⟨_,rfl⟩
  have hzy:z = (e+2)+y:=by omega
  have h1:A = 2 ^ (e+2) * (M * 2 ^ y):=by rw [hz,hzy,Nat.pow_add,Nat.mul_left_comm]
  have h2:A % 2 ^ (e+2) = 0:=by rw [h1]; exact Nat.mul_mod_right ..
  have h3:A / 2 ^ (e+2) = M * 2 ^ y:=by rw [h1]; exact Nat.mul_div_cancel_left _ (p2 _)
  rw [h2] at hA2
  have h4:q' = 0∧ρ = 0:=by
   have:=hA2.2
   split at this <;> omega
  rw [hy,← h3,hA2.1,h4.1,h4.2]
  simp
 ·rw [if_neg htX]
  obtain ⟨dr,hdr⟩:∃ dr:Nat,(t - X).toNat = dr:=⟨_,rfl⟩
  have hzd:e+2 = z+dr:=by omega
  have hdr1:1≤dr:=by omega
  have h1:M / 2 ^ dr = c:=by
   rw [← hA2.1,hz,hzd,Nat.pow_add,Nat.mul_comm M,Nat.mul_div_mul_left _ _ (p2 z)]
  have h2:2 ^ z * (M % 2 ^ dr) = 2 * q'+(if ρ = 0 then 0 else 1):=by
   rw [← hA2.2,hz,hzd,Nat.pow_add,Nat.mul_comm M,Nat.mul_mod_mul_left]
  have h3:M % 2 ^ dr≠0:=fun hc0=>by
   have:M % 2 ^ dr % 2 = 1:=by
    rw [Nat.mod_mod_of_dvd _ (Nat.dvd_of_mod_eq_zero (by rw [show dr = (dr - 1)+1 from by omega,Nat.pow_succ]; exact Nat.mul_mod_left ..))]; exact ho
   rw [hc0] at this; cases this
  have h4:d * q'+ρ≠0:=fun hc0=>by
   have hr0:ρ = 0:=by omega
   have hq0:d * q' = 0:=by omega
   have hq1:q' = 0:=by rcases Nat.mul_eq_zero.1 hq0 with h|h <;> omega
   rw [hr0,hq1] at h2
   rcases Nat.mul_eq_zero.1 (h2.trans (by simp)) with h|h
   ·have:=p2 z; omega
   ·exact h3 h
  rw [if_neg h4]
  unfold cutN
  rw [hdr,h1,ahf_hlf ho hdr1,← hlf_scale (p2 z),h2,← Nat.pow_add,← hzd]
  have hh:hlf (2 * q'+(if ρ = 0 then 0 else 1)) (2 ^ (e+2)) = hlf (d * q'+ρ) (d * 2 ^ (e+1)):=by
   rw [hpe,hpe1]
   obtain ⟨H,hH⟩:∃ H,2 ^ e = H:=⟨_,rfl⟩
   rw [hH]
   have m1:d * (2 * H) = 2 * (d * H):=Nat.mul_left_comm ..
   rw [m1]
   unfold hlf
   rcases Nat.lt_trichotomy q' H with hlt|heq|hgt
   ·have g1:d * q'+d≤d * H:=by rw [← Nat.mul_succ]; exact Nat.mul_le_mul_left d hlt
    rw [if_pos (by split <;> omega),if_pos (by omega)]
   ·subst heq
    by_cases hr:ρ = 0
    ·subst hr
     simp only [if_true]
     rw [if_neg (by omega),if_pos (by omega),if_neg (by omega),if_pos (by omega)]
    ·simp only [hr,if_false]
     rw [if_neg (by omega),if_neg (by omega),if_neg (by omega),if_neg (by omega)]
   ·have g1:d * H+d≤d * q':=by rw [← Nat.mul_succ]; exact Nat.mul_le_mul_left d hgt
    rw [if_neg (by split <;> omega),if_neg (by split <;> omega),if_neg (by omega),if_neg (by omega)]
  rw [hh]
theorem Bl.two {m k z:Nat} (h:Bl m k) (h0:0 < m):Bl (2 ^ z * m) (k+z):=by
 have hk:k≠0:=fun e=>by have:=h.1; rw [e] at this; simp at this; omega
 have hp:0 < 2 ^ z:=Nat.pow_pos (by omega)
 refine ⟨?_,Or.inr ?_⟩
 ·rw [Nat.add_comm k z,Nat.pow_add]; exact Nat.mul_lt_mul_of_pos_left h.1 hp
 ·rcases h.2 with h2|h2
  ·exact absurd h2 hk
  ·rw [show k+z - 1 = z+(k - 1) from by omega,Nat.pow_add]; exact Nat.mul_le_mul_left _ h2
theorem Bl.odd {m k:Nat} (h:Bl m k) (h0:0 < m):Bl (2 * m+1) (k+1):=by
 have h1:=(h.two (z:=1) h0)
 rw [Nat.pow_one] at h1
 have hk:k≠0:=fun e=>by have:=h.1; rw [e] at this; simp at this; omega
 have e1:2 ^ (k+1) = 2 * 2 ^ k:=by rw [Nat.pow_succ,Nat.mul_comm]
 refine ⟨?_,Or.inr ?_⟩
 ·have:=h.1; omega
 ·rcases h1.2 with h2|h2
  ·omega
  ·omega
structure Std (m d j n b z M K:Nat) (X:Int):Prop where
 hn:n = m * 2 ^ j
 hd:0 < d
 hA:(if n % d = 0 then 2 * (n / d) else 2 * (n / d)+1) = M * 2 ^ z
 ho:M % 2 = 1
 hK:Bl M K
 hb:Bl (n / d) b
 b65:65≤b
 hX:X = -(j:Int) - 1+(z:Int)
theorem Std.e {m d j n b z M K:Nat} {X:Int} (h:Std m d j n b z M K X):X+(K:Int) - 1 = (b:Int) - 1 - (j:Int):=by
 have hM:0 < M:=by have:=h.ho; omega
 have hQ:0 < n / d:=by
  refine Nat.pos_of_ne_zero fun e=>?_
  have h2:=h.hb.2
  rw [e] at h2
  have:=Nat.pow_pos (n:=b - 1) (show 0 < 2 by omega)
  have:=h.b65
  omega
 have h1:=h.hK.two (z:=z) hM
 rw [Nat.mul_comm,← h.hA] at h1
 have h2:Bl (if n % d = 0 then 2 * (n / d) else 2 * (n / d)+1) (b+1):=by
  split
  ·have:=h.hb.two (z:=1) hQ; rw [Nat.pow_one] at this; exact this
  ·exact h.hb.odd hQ
 have h3:=h1.uniq h2
 rw [h.hX]; omega
theorem Std.row {m d j n b z M K:Nat} {X:Int} (h:Std m d j n b z M K X) {B F md:Nat} {s:Bool} (hF:F≤52):∃ D:Nat,(D:Int) = lastP B F K X+(j:Int)+1∧2≤D∧cutR md s M X (lastP B F K X) = rnd md s n (d * 2 ^ (D - 1)):=by
 have he:=h.e
 have hb:=h.b65
 have hX:=h.hX
 have hl:(b:Int) - 1 - (j:Int) - (F:Int)≤lastP B F K X:=by unfold lastP; omega
 obtain ⟨D,hD⟩:∃ D:Nat,(D:Int) = lastP B F K X+(j:Int)+1:=⟨(lastP B F K X+(j:Int)+1).toNat,by omega⟩
 exact ⟨D,hD,by omega,cut_std (z:=z) h.hd rfl h.hA h.ho (by omega) (by omega)⟩
structure Sti (m q d i j n b z M K:Nat) (X:Int):Prop where
 hn:n * q * 2 ^ i = m * d * 2 ^ j
 hq:0 < q
 hd:0 < d
 hA:(if n % d = 0 then 2 * (n / d) else 2 * (n / d)+1) = M * 2 ^ z
 ho:M % 2 = 1
 hK:Bl M K
 hb:Bl (n / d) b
 b60:60≤b
 hX:X = (i:Int) - (j:Int) - 1+(z:Int)
theorem Std.sti {m d j n b z M K:Nat} {X:Int} (h:Std m d j n b z M K X):Sti m d d 0 j n b z M K X:=
 ⟨by rw [Nat.pow_zero,Nat.mul_one,h.hn]; ac_rfl,h.hd,h.hd,h.hA,h.ho,h.hK,h.hb,by have:=h.b65; omega,by rw [h.hX]; omega⟩
theorem Sti.e {m q d i j n b z M K:Nat} {X:Int} (h:Sti m q d i j n b z M K X):X+(K:Int) - 1 = (b:Int) - 1 - (j:Int)+(i:Int):=by
 have hM:0 < M:=by have:=h.ho; omega
 have hQ:0 < n / d:=by
  refine Nat.pos_of_ne_zero fun e=>?_
  have h2:=h.hb.2
  rw [e] at h2
  have:=Nat.pow_pos (n:=b - 1) (show 0 < 2 by omega)
  have:=h.b60
  omega
 have h1:=h.hK.two (z:=z) hM
 rw [Nat.mul_comm,← h.hA] at h1
 have h2:Bl (if n % d = 0 then 2 * (n / d) else 2 * (n / d)+1) (b+1):=by
  split
  ·have:=h.hb.two (z:=1) hQ; rw [Nat.pow_one] at this; exact this
  ·exact h.hb.odd hQ
 have h3:=h1.uniq h2
 rw [h.hX]; omega
theorem Sti.cut {m q d i j n b z M K:Nat} {X t:Int} (h:Sti m q d i j n b z M K X) (md:Nat) (s:Bool) (ht:X+(K:Int) - 1 - 52≤t):∃ D:Nat,(D:Int) = t+(j:Int) - (i:Int)+1∧2≤D∧cutR md s M X t = rnd md s n (d * 2 ^ (D - 1)):=by
 have he:=h.e
 have hb:=h.b60
 have hX:=h.hX
 obtain ⟨D,hD⟩:∃ D:Nat,(D:Int) = t+(j:Int) - (i:Int)+1:=⟨(t+(j:Int) - (i:Int)+1).toNat,by omega⟩
 exact ⟨D,hD,by omega,cut_std (z:=z) h.hd rfl h.hA h.ho (by omega) (by omega)⟩
theorem cross_pow {n m q d i j n' m' q' d' i' j' D D':Nat} (h1:n * q * 2 ^ i = m * d * 2 ^ j) (h2:n' * q' * 2 ^ i' = m' * d' * 2 ^ j') (hq:0 < q) (hq':0 < q') (hle:m * q'≤m' * q) (hD:D+j'+i = D'+j+i'):n * (d' * 2 ^ D')≤n' * (d * 2 ^ D):=by
 have hp2:0 < q * q' * 2 ^ (i+i'):=Nat.mul_pos (Nat.mul_pos hq hq') (Nat.pow_pos (by omega))
 have a1:n * (d' * 2 ^ D') * (q * q' * 2 ^ (i+i')) = m * q' * (d * d' * 2 ^ (j+D'+i')):=by
  have:n * (d' * 2 ^ D') * (q * q' * 2 ^ (i+i')) = n * q * 2 ^ i * (d' * q' * (2 ^ D' * 2 ^ i')):=by rw [Nat.pow_add]; ac_rfl
  rw [this,h1,Nat.pow_add,Nat.pow_add]; ac_rfl
 have a2:n' * (d * 2 ^ D) * (q * q' * 2 ^ (i+i')) = m' * q * (d * d' * 2 ^ (j'+D+i)):=by
  have:n' * (d * 2 ^ D) * (q * q' * 2 ^ (i+i')) = n' * q' * 2 ^ i' * (d * q * (2 ^ D * 2 ^ i)):=by rw [Nat.pow_add]; ac_rfl
  rw [this,h2,Nat.pow_add,Nat.pow_add]; ac_rfl
 refine Nat.le_of_mul_le_mul_right ?_ hp2
 rw [a1,a2,show j'+D+i = j+D'+i' from by omega]
 exact Nat.mul_le_mul_right _ hle
theorem Sti.le {m q d i j n b z M K:Nat} {X:Int} {m' q' d' i' j' n' b' z' M' K':Nat} {X':Int} (h:Sti m q d i j n b z M K X) (h':Sti m' q' d' i' j' n' b' z' M' K' X') (hle:m * q'≤m' * q):X+(K:Int) - 1≤X'+(K':Int) - 1:=by
 have he:=h.e
 have he':=h'.e
 have hpos:∀ k,0 < 2 ^ k:=fun k=>Nat.pow_pos (by omega)
 refine Int.not_lt.1 fun hc=>?_
 have k1:b'+j+i'+1≤b+j'+i:=by omega
 have l1:2 ^ (b - 1) * d≤n:=by
  have h2:2 ^ (b - 1)≤n / d:=by
   rcases h.hb.2 with q9|q9
   ·have:=h.b60; omega
   ·exact q9
  exact (Nat.le_div_iff_mul_le h.hd).1 h2
 have l2:n' < 2 ^ b' * d':=(Nat.div_lt_iff_lt_mul h'.hd).1 h'.hb.1
 obtain ⟨D,hD⟩:∃ D,D = j+i':=⟨_,rfl⟩
 obtain ⟨D',hD'⟩:∃ D',D' = j'+i:=⟨_,rfl⟩
 have x:=cross_pow h.hn h'.hn h.hq h'.hq hle (D:=D) (D':=D') (by omega)
 have y1:2 ^ (b - 1) * d * (d' * 2 ^ D')≤n * (d' * 2 ^ D'):=Nat.mul_le_mul_right _ l1
 have y2:n' * (d * 2 ^ D) < 2 ^ b' * d' * (d * 2 ^ D):=Nat.mul_lt_mul_of_pos_right l2 (Nat.mul_pos h.hd (hpos _))
 have y3:2 ^ (b - 1) * d * (d' * 2 ^ D') = 2 ^ (b - 1+D') * (d * d'):=by rw [Nat.pow_add]; ac_rfl
 have y4:2 ^ b' * d' * (d * 2 ^ D) = 2 ^ (b'+D) * (d * d'):=by rw [Nat.pow_add]; ac_rfl
 have hb:=h.b60
 have y5:2 ^ (b'+D) * (d * d')≤2 ^ (b - 1+D') * (d * d'):=Nat.mul_le_mul_right _ (Nat.pow_le_pow_right (by omega) (by omega))
 omega
theorem Sti.cut_le {m q d i j n b z M K:Nat} {X:Int} {m' q' d' i' j' n' b' z' M' K':Nat} {X' t:Int} (h:Sti m q d i j n b z M K X) (h':Sti m' q' d' i' j' n' b' z' M' K' X') (md:Nat) (s:Bool) (ht:X+(K:Int) - 1 - 52≤t) (ht':X'+(K':Int) - 1 - 52≤t) (hle:m * q'≤m' * q):cutR md s M X t≤cutR md s M' X' t:=by
 have hpos:∀ k,0 < 2 ^ k:=fun k=>Nat.pow_pos (by omega)
 obtain ⟨D,hD,hD2,hr⟩:=h.cut md s ht
 obtain ⟨D',hD',hD2',hr'⟩:=h'.cut md s ht'
 rw [hr,hr']
 exact rnd_mono (Nat.mul_pos h.hd (hpos _)) (Nat.mul_pos h'.hd (hpos _)) (cross_pow h.hn h'.hn h.hq h'.hq hle (by omega))
theorem Sti.whole {m q d i j n b z M K:Nat} {X t:Int} (h:Sti m q d i j n b z M K X) {D:Nat} (hD:(D:Int) = t+(j:Int) - (i:Int)+1) (hD2:2≤D):t≤X↔d * 2 ^ (D - 1) ∣ n:=by
 have hX:=h.hX
 have hA:=h.hA
 have hpos:∀ k,0 < 2 ^ k:=fun k=>Nat.pow_pos (by omega)
 have hdm:=Nat.div_add_mod n d
 constructor
 ·intro ht
  obtain ⟨y,rfl⟩:∃ y,z = y+D:=⟨z - D,by omega⟩
  obtain ⟨D1,rfl⟩:∃ D1,D = D1+1:=⟨D - 1,by omega⟩
  have e:M * 2 ^ (y+(D1+1)) = 2 * (2 ^ D1 * (M * 2 ^ y)):=by rw [Nat.pow_add,Nat.pow_succ]; ac_rfl
  rw [e] at hA
  by_cases hz:n % d = 0
  ·rw [if_pos hz] at hA
   refine ⟨M * 2 ^ y,?_⟩
   rw [show D1+1 - 1 = D1 from by omega,Nat.mul_assoc,← Nat.eq_of_mul_eq_mul_left (show 0 < 2 by omega) hA]
   omega
  ·rw [if_neg hz] at hA; omega
 ·intro ⟨c,hc⟩
  obtain ⟨D1,rfl⟩:∃ D1,D = D1+1:=⟨D - 1,by omega⟩
  rw [show D1+1 - 1 = D1 from by omega,Nat.mul_assoc] at hc
  rw [hc,Nat.mul_mod_right,if_pos rfl,Nat.mul_div_cancel_left _ h.hd] at hA
  refine Int.not_lt.1 fun hlt=>?_
  obtain ⟨y,hy⟩:∃ y,D1+1 = z+(y+1):=⟨D1 - z,by omega⟩
  have e:2 * (2 ^ D1 * c) = 2 * (2 ^ y * c) * 2 ^ z:=by
   have e0:2 ^ D1 * 2 = 2 ^ z * (2 ^ y * 2):=by rw [← Nat.pow_succ,← Nat.pow_succ,← Nat.pow_add]; exact congrArg (2 ^ ·) hy
   have e1:2 * (2 ^ D1 * c) = 2 ^ D1 * 2 * c:=by ac_rfl
   rw [e1,e0]; ac_rfl
  rw [e] at hA
  have:=Nat.eq_of_mul_eq_mul_right (hpos z) hA
  have:=h.ho
  omega
theorem dvd_cross {a N a' N':Nat} (hN:0 < N) (h:a * N' = a' * N) (hd:N ∣ a):N' ∣ a':=by
 obtain ⟨c,rfl⟩:=hd
 refine ⟨c,Nat.eq_of_mul_eq_mul_right hN ?_⟩
 rw [← h]; ac_rfl
theorem Sti.same {m q d i j n b z M K:Nat} {X:Int} {m' q' d' i' j' n' b' z' M' K':Nat} {X':Int} (h:Sti m q d i j n b z M K X) (h':Sti m' q' d' i' j' n' b' z' M' K' X') (B F I md:Nat) (s:Bool) (hF:F≤52) (he:m * q' = m' * q):rowR B F md s M K X = rowR B F md s M' K' X'∧flagR B F I md s M K X = flagR B F I md s M' K' X':=by
 have hpos:∀ k,0 < 2 ^ k:=fun k=>Nat.pow_pos (by omega)
 have ee:X+(K:Int) - 1 = X'+(K':Int) - 1:=Int.le_antisymm (h.le h' (Nat.le_of_eq he)) (h'.le h (Nat.le_of_eq he.symm))
 have cc:∀ t:Int,X+(K:Int) - 1 - 52≤t→cutR md s M X t = cutR md s M' X' t:=fun t ht=>Nat.le_antisymm (h.cut_le h' md s ht (by omega) (Nat.le_of_eq he)) (h'.cut_le h md s (by omega) ht (Nat.le_of_eq he.symm))
 have hl:lastP B F K X = lastP B F K' X':=by unfold lastP; omega
 have hlt:X+(K:Int) - 1 - 52≤lastP B F K X:=by unfold lastP; omega
 have hrow:rowR B F md s M K X = rowR B F md s M' K' X':=by unfold rowR; rw [cc _ hlt,hl]
 have hfree:freeR F md s M K X = freeR F md s M' K' X':=by unfold freeR; rw [cc _ (by omega),ee]
 have hw:lastP B F K X≤X↔lastP B F K' X'≤X':=by
  obtain ⟨D,hD,hD2,-⟩:=h.cut md s hlt
  obtain ⟨D',hD',hD2',-⟩:=h'.cut md s (t:=lastP B F K X) (by omega)
  rw [← hl,h.whole hD hD2,h'.whole hD' hD2']
  have x1:=cross_pow h.hn h'.hn h.hq h'.hq (Nat.le_of_eq he) (D:=D - 1) (D':=D' - 1) (by omega)
  have x2:=cross_pow h'.hn h.hn h'.hq h.hq (Nat.le_of_eq he.symm) (D:=D' - 1) (D':=D - 1) (by omega)
  have x:=Nat.le_antisymm x1 x2
  exact ⟨dvd_cross (Nat.mul_pos h.hd (hpos _)) x,dvd_cross (Nat.mul_pos h'.hd (hpos _)) x.symm⟩
 refine ⟨hrow,?_⟩
 unfold flagR
 rw [hrow,hfree]
 by_cases h1:lastP B F K X≤X
 ·rw [if_pos h1,if_pos (hw.1 h1)]
 ·rw [if_neg h1,if_neg (fun q=>h1 (hw.2 q))]
def pv (F r:Nat):Nat:=if r < 2 ^ F then r else (2 ^ F+r % 2 ^ F) * 2 ^ (r / 2 ^ F - 1)
theorem pv_row {F k c:Nat} (hc:c≤2 ^ (F+1)) (hk:k = 0∨2 ^ F≤c):pv F (k * 2 ^ F+c) = c * 2 ^ k:=by
 have hP:0 < 2 ^ F:=Nat.pow_pos (by omega)
 rw [Nat.pow_succ] at hc
 generalize hPd:2 ^ F = P at *
 unfold pv
 rw [hPd]
 have key:∀ q f:Nat,f < P→k * P+c = q * P+f→1≤q→(if k * P+c < P then k * P+c else (P+(k * P+c) % P) * 2 ^ ((k * P+c) / P - 1)) = (P+f) * 2 ^ (q - 1):=fun q f hf e hq=>by
  have h1:1 * P≤q * P:=Nat.mul_le_mul_right _ hq
  rw [e,if_neg (by omega),Nat.mul_comm q P,Nat.mul_add_mod,Nat.mod_eq_of_lt hf,Nat.mul_add_div hP,Nat.div_eq_of_lt hf,Nat.add_zero]
 rcases Nat.lt_or_ge c P with h1|h1
 ·have:k = 0:=by omega
  subst this
  rw [Nat.zero_mul,Nat.zero_add,if_pos h1,Nat.pow_zero,Nat.mul_one]
 ·rcases Nat.lt_or_ge c (P * 2) with h2|h2
  ·rw [key (k+1) (c - P) (by omega) (by rw [Nat.add_mul]; omega) (by omega),show P+(c - P) = c by omega,Nat.add_sub_cancel]
  ·have h3:c = P * 2:=by omega
   rw [key (k+2) 0 hP (by rw [Nat.add_mul]; omega) (by omega),Nat.add_zero,show k+2 - 1 = k+1 by omega,Nat.pow_succ,h3]
   ac_rfl
theorem pv_parts (F r:Nat):∃ k c,r = k * 2 ^ F+c∧c < 2 ^ (F+1)∧(k = 0∨2 ^ F≤c):=by
 have hP:0 < 2 ^ F:=Nat.pow_pos (by omega)
 rw [Nat.pow_succ]
 generalize 2 ^ F = P at *
 by_cases h:r < P
 ·exact ⟨0,r,by omega,by omega,Or.inl rfl⟩
 ·have h1:=Nat.div_add_mod r P
  have h2:=Nat.mod_lt r hP
  have h3:1≤r / P:=(Nat.le_div_iff_mul_le hP).2 (by omega)
  refine ⟨r / P - 1,P+r % P,?_,by omega,Or.inr (by omega)⟩
  rw [Nat.sub_mul,Nat.one_mul,Nat.mul_comm]
  have:=Nat.mul_le_mul_left P h3
  omega
theorem pv_lt_succ (F r:Nat):pv F r < pv F (r+1):=by
 obtain ⟨k,c,rfl,h1,h2⟩:=pv_parts F r
 rw [pv_row (by omega) h2,Nat.add_assoc,pv_row (by omega) (by omega),Nat.add_mul,Nat.one_mul]
 exact Nat.lt_add_of_pos_right (Nat.pow_pos (by omega))
theorem pv_lt {F r r':Nat} (h:r < r'):pv F r < pv F r':=by
 induction r' with
 | zero=>omega
 | succ n ih=>
  rcases Nat.lt_succ_iff_lt_or_eq.1 h with h|rfl
  ·exact Nat.lt_trans (ih h) (pv_lt_succ F n)
  ·exact pv_lt_succ F r
theorem pv_le {F r r':Nat} (h:r≤r'):pv F r≤pv F r':=by
 rcases Nat.lt_or_eq_of_le h with h|rfl
 ·exact Nat.le_of_lt (pv_lt h)
 ·exact Nat.le_refl _
theorem pv_zero (F:Nat):pv F 0 = 0:=by
 unfold pv; rw [if_pos (Nat.pow_pos (by omega))]
def s3 (a b:Nat):Int:=if a < b then -1 else if a = b then 0 else 1
theorem hlf_s3 (r w:Nat):hlf r w = s3 (2 * r) w:=rfl
theorem s3_scale {a b c:Nat} (hc:0 < c):s3 (a * c) (b * c) = s3 a b:=by
 unfold s3
 have e1:(a * c < b * c) = (a < b):=propext (Nat.mul_lt_mul_right hc)
 have e2:(a * c = b * c) = (a = b):=propext ⟨fun h=>Nat.eq_of_mul_eq_mul_right hc h,fun h=>by rw [h]⟩
 simp only [e1,e2]
structure Plc (p d B F G M K:Nat) (X:Int) (r0 ρ w:Nat):Prop where
 hρ:ρ < w
 row:∀ md s,rowR B F md s M K X = r0+(if ρ = 0 then 0 else if fth md s (decide (r0 % 2 = 1)) (hlf ρ w) then 1 else 0)
 ex:lastP B F K X≤X↔ρ = 0
 le:pv F r0 * d≤p * 2 ^ G
 eq:ρ = 0↔pv F r0 * d = p * 2 ^ G
 lt:p * 2 ^ G < pv F (r0+1) * d
 half:hlf ρ w = s3 (2 * (p * 2 ^ G)) ((pv F r0+pv F (r0+1)) * d)
theorem std_place {p d j n b z M K:Nat} {X:Int} (h:Std p d j n b z M K X) {B F G:Nat} (hF:F≤52) (hF1:1≤F) (hG:(G:Int) = (B:Int)+(F:Int) - 1):∃ r0 ρ w,Plc p d B F G M K X r0 ρ w:=by
 have hpos:∀ k,0 < 2 ^ k:=fun k=>Nat.pow_pos (by omega)
 have hM:0 < M:=by have:=h.ho; omega
 obtain ⟨D,hD,hD2,-⟩:=h.row (B:=B) (md:=2) (s:=false) hF
 have hrow:∀ md s,cutR md s M X (lastP B F K X) = rnd md s n (d * 2 ^ (D - 1)):=fun md s=>by
  obtain ⟨D',hD',_,hr⟩:=h.row (B:=B) (md:=md) (s:=s) hF
  rw [hr,show D' = D by omega]
 obtain ⟨k,hk⟩:∃ k:Nat,(k:Int) = lastP B F K X - (1 - (B:Int) - (F:Int)):=⟨(lastP B F K X - (1 - (B:Int) - (F:Int))).toNat,by unfold lastP; omega⟩
 obtain ⟨w,hw⟩:∃ w,d * 2 ^ (D - 1) = w:=⟨_,rfl⟩
 have hw0:0 < w:=by rw [← hw]; exact Nat.mul_pos h.hd (hpos _)
 rw [hw] at hrow
 have hdm:=Nat.div_add_mod n w
 have hml:=Nat.mod_lt n hw0
 obtain ⟨c,hc⟩:∃ c,n / w = c:=⟨_,rfl⟩
 obtain ⟨ρ,hρ⟩:∃ ρ,n % w = ρ:=⟨_,rfl⟩
 have hrnd:∀ md s,rnd md s n w = c+(if ρ = 0 then 0 else if fth md s (decide (c % 2 = 1)) (hlf ρ w) then 1 else 0):=fun md s=>by unfold rnd; rw [hc,hρ]
 rw [hc,hρ] at hdm
 rw [hρ] at hml
 have hple:X+(K:Int) - 1 - (F:Int)≤lastP B F K X:=by unfold lastP; omega
 have c1:c≤2 ^ (F+1):=by
  have:=cutR_le (md:=2) (s:=false) (F:=F) h.hK hM hple
  rw [hrow,hrnd] at this; omega
 have c2:ρ≠0→c+1≤2 ^ (F+1):=fun hne=>by
  have:=cutR_le (md:=3) (s:=false) (F:=F) h.hK hM hple
  rw [hrow,hrnd,if_neg hne,if_pos (show fth 3 false (decide (c % 2 = 1)) (hlf ρ w) = true from rfl)] at this; exact this
 have c3:k = 0∨2 ^ F≤c:=by
  by_cases h0:k = 0
  ·exact Or.inl h0
  ·have:=cutR_ge (md:=2) (s:=false) (F:=F) (x:=X) (t:=lastP B F K X) h.hK hM (by unfold lastP at hk ⊢; omega)
   rw [hrow,hrnd] at this
   have e:(if ρ = 0 then 0 else if fth 2 false (decide (c % 2 = 1)) (hlf ρ w) = true then 1 else 0) = 0:=by split <;> rfl
   rw [e] at this
   exact Or.inr (by omega)
 have hpar:∀ c',(k * 2 ^ F+c') % 2 = c' % 2:=fun c'=>by
  obtain ⟨f,rfl⟩:∃ f,F = f+1:=⟨F - 1,by omega⟩
  rw [Nat.pow_succ,← Nat.mul_assoc]
  omega
 have hexp:D - 1+G = k+j:=by omega
 have e1:p * 2 ^ G * 2 ^ j = c * 2 ^ k * d * 2 ^ j+ρ * 2 ^ G:=by
  have a1:p * 2 ^ G * 2 ^ j = n * 2 ^ G:=by rw [h.hn]; ac_rfl
  have a2:c * 2 ^ k * d * 2 ^ j = w * c * 2 ^ G:=by
   rw [← hw]
   have a3:c * 2 ^ k * d * 2 ^ j = c * d * 2 ^ (k+j):=by rw [Nat.pow_add]; ac_rfl
   rw [a3,← hexp,Nat.pow_add]; ac_rfl
  rw [a1,a2,← Nat.add_mul,hdm]
 have e2:2 ^ k * d * 2 ^ j = w * 2 ^ G:=by
  rw [← hw]
  have a3:2 ^ k * d * 2 ^ j = d * 2 ^ (k+j):=by rw [Nat.pow_add]; ac_rfl
  rw [a3,← hexp,Nat.pow_add]; ac_rfl
 have v0:pv F (k * 2 ^ F+c) = c * 2 ^ k:=pv_row c1 c3
 have hlt0:ρ * 2 ^ G < w * 2 ^ G:=Nat.mul_lt_mul_of_pos_right hml (hpos G)
 have hnext:p * 2 ^ G < pv F (k * 2 ^ F+c+1) * d:=by
  rcases Nat.eq_zero_or_pos ρ with h0|h0
  ·rw [h0,Nat.zero_mul,Nat.add_zero] at e1
   have e3:=Nat.eq_of_mul_eq_mul_right (hpos j) e1
   rw [e3,← v0]
   exact Nat.mul_lt_mul_of_pos_right (pv_lt_succ F _) h.hd
  ·rw [Nat.add_assoc,pv_row (c2 (by omega)) (by omega)]
   refine Nat.lt_of_mul_lt_mul_right (a:=2 ^ j) ?_
   rw [e1,Nat.add_mul,Nat.one_mul,Nat.add_mul,Nat.add_mul,e2]
   omega
 refine ⟨k * 2 ^ F+c,ρ,w,hml,fun md s=>?_,?_,?_,?_,hnext,?_⟩
 ·unfold rowR
  rw [hrow,hrnd,hpar,← hk,Int.toNat_natCast,Nat.add_assoc]
 ·have:=h.sti.whole (t:=lastP B F K X) (D:=D) (by omega) hD2
  rw [this,hw,← hρ]
  exact Nat.dvd_iff_mod_eq_zero
 ·rw [v0]
  refine Nat.le_of_mul_le_mul_right ?_ (hpos j)
  omega
 ·rw [v0]
  constructor
  ·intro h0
   rw [h0,Nat.zero_mul,Nat.add_zero] at e1
   exact (Nat.eq_of_mul_eq_mul_right (hpos j) e1).symm
  ·intro h0
   rw [h0] at e1
   rcases Nat.eq_zero_or_pos ρ with q|q
   ·exact q
   ·have:=Nat.mul_pos q (hpos G); omega
 ·have hstep:∀ v',v' = pv F (k * 2 ^ F+c+1)→(ρ≠0→v' = (c+1) * 2 ^ k):=fun v' hv hne=>by rw [hv,Nat.add_assoc,pv_row (c2 hne) (by omega)]
  rcases Nat.eq_zero_or_pos ρ with h0|h0
  ·
   rw [h0,Nat.zero_mul,Nat.add_zero] at e1
   have e3:=Nat.eq_of_mul_eq_mul_right (hpos j) e1
   have hs:=Nat.mul_lt_mul_of_pos_right (pv_lt_succ F (k * 2 ^ F+c)) h.hd
   rw [v0] at hs ⊢
   rw [h0,hlf_s3,Nat.add_mul]
   unfold s3
   rw [if_pos (by omega),if_pos (by omega)]
  ·rw [hstep _ rfl (by omega),v0,hlf_s3,← s3_scale (hpos G),← s3_scale (a:=2 * (p * 2 ^ G)) (hpos j)]
   have f1:2 * (p * 2 ^ G) * 2 ^ j = 2 * (c * 2 ^ k * d * 2 ^ j)+2 * ρ * 2 ^ G:=by
    rw [Nat.mul_assoc 2 (p * 2 ^ G),e1,Nat.mul_add,Nat.mul_assoc 2 ρ]
   have f2:(c * 2 ^ k+(c+1) * 2 ^ k) * d * 2 ^ j = 2 * (c * 2 ^ k * d * 2 ^ j)+w * 2 ^ G:=by
    rw [← e2,Nat.add_mul c 1,Nat.one_mul,Nat.add_mul,Nat.add_mul,Nat.add_mul,Nat.add_mul]
    omega
   rw [f1,f2]
   unfold s3
   split <;> split <;> (try split) <;> (try split) <;> omega
def nmL (j:Nat):List UInt8:=match j with
 | 0=>[101,118,101,110]
 | 1=>[97,119,97,121]
 | 2=>[122,101,114,111]
 | 3=>[117,112]
 | _=>[100,111,119,110]
structure Nb5 (w:World):Prop where
 lt:0 < w.heap.size
 c0:w.cell? ⟨0,0,none⟩ = some (.string ⟨#[101,118,101,110]⟩)
 c1:w.cell? ⟨0,1,none⟩ = some (.string ⟨#[97,119,97,121]⟩)
 c2:w.cell? ⟨0,2,none⟩ = some (.string ⟨#[122,101,114,111]⟩)
 c3:w.cell? ⟨0,3,none⟩ = some (.string ⟨#[117,112]⟩)
 c4:w.cell? ⟨0,4,none⟩ = some (.string ⟨#[100,111,119,110]⟩)
theorem Nb5.kept {w w':World} (h:Nb5 w) (hb:Below w.heap.size w w'):Nb5 w':=
 ⟨Nat.lt_of_lt_of_le h.lt hb.size,(hb.cell (p:=⟨0,0,none⟩) h.lt).trans h.c0,(hb.cell (p:=⟨0,1,none⟩) h.lt).trans h.c1,(hb.cell (p:=⟨0,2,none⟩) h.lt).trans h.c2,(hb.cell (p:=⟨0,3,none⟩) h.lt).trans h.c3,(hb.cell (p:=⟨0,4,none⟩) h.lt).trans h.c4⟩
theorem rdname_0 (w:World) (h:Nb5 w):Calls Tryz.prog 21 #[.int .u8 0] w fun e w'=>e = .returned (.tuple #[.string ⟨#[101,118,101,110]⟩,.int .i64 0])∧Below w.heap.size w w':=by
 go_enter Tryz.func21,Tryz.ntmps21
 go_wp2_with fail
 refine (mode_ok 0 (by decide) _).mono ?_
 rintro e w1 ⟨rfl,hb1⟩
 have hc:=(h.kept hb1).c0
 clear h
 go_wp2
 go_ret2
 exact ⟨rfl,hb1⟩
theorem rdname_1 (w:World) (h:Nb5 w):Calls Tryz.prog 21 #[.int .u8 1] w fun e w'=>e = .returned (.tuple #[.string ⟨#[97,119,97,121]⟩,.int .i64 0])∧Below w.heap.size w w':=by
 go_enter Tryz.func21,Tryz.ntmps21
 go_wp2_with fail
 refine (mode_ok 1 (by decide) _).mono ?_
 rintro e w1 ⟨rfl,hb1⟩
 have hc:=(h.kept hb1).c1
 clear h
 go_wp2
 go_ret2
 exact ⟨rfl,hb1⟩
theorem rdname_2 (w:World) (h:Nb5 w):Calls Tryz.prog 21 #[.int .u8 2] w fun e w'=>e = .returned (.tuple #[.string ⟨#[122,101,114,111]⟩,.int .i64 0])∧Below w.heap.size w w':=by
 go_enter Tryz.func21,Tryz.ntmps21
 go_wp2_with fail
 refine (mode_ok 2 (by decide) _).mono ?_
 rintro e w1 ⟨rfl,hb1⟩
 have hc:=(h.kept hb1).c2
 clear h
 go_wp2
 go_ret2
 exact ⟨rfl,hb1⟩
theorem rdname_3 (w:World) (h:Nb5 w):Calls Tryz.prog 21 #[.int .u8 3] w fun e w'=>e = .returned (.tuple #[.string ⟨#[117,112]⟩,.int .i64 0])∧Below w.heap.size w w':=by
 go_enter Tryz.func21,Tryz.ntmps21
 go_wp2_with fail
 refine (mode_ok 3 (by decide) _).mono ?_
 rintro e w1 ⟨rfl,hb1⟩
 have hc:=(h.kept hb1).c3
 clear h
 go_wp2
 go_ret2
 exact ⟨rfl,hb1⟩
theorem rdname_4 (w:World) (h:Nb5 w):Calls Tryz.prog 21 #[.int .u8 4] w fun e w'=>e = .returned (.tuple #[.string ⟨#[100,111,119,110]⟩,.int .i64 0])∧Below w.heap.size w w':=by
 go_enter Tryz.func21,Tryz.ntmps21
 go_wp2_with fail
 refine (mode_ok 4 (by decide) _).mono ?_
 rintro e w1 ⟨rfl,hb1⟩
 have hc:=(h.kept hb1).c4
 clear h
 go_wp2
 go_ret2
 exact ⟨rfl,hb1⟩
theorem rdname_no (md:Nat) (hm:4 < md) (w:World):Calls Tryz.prog 21 #[.int .u8 (md:Int)] w fun e w'=>e = .returned (.tuple #[.string ⟨#[]⟩,.int .i64 7])∧Below w.heap.size w w':=by
 go_enter Tryz.func21,Tryz.ntmps21
 go_wp2_with fail
 refine (mode_bad md hm _).mono ?_
 rintro e w1 ⟨rfl,hb1⟩
 clear hm
 go_wp2
 go_ret2
 exact ⟨rfl,hb1⟩
theorem bt_place {E F S I:Nat} (h:Fm E F S I) (s:Bool) {r:Nat} (hr:r < S):Bt E F ((if s then S else 0)+r) s (r / 2 ^ F) (r % 2 ^ F):=by
 have hP:=pow_pos2 F
 refine ⟨Nat.mod_lt _ hP,?_,?_⟩
 ·rw [Nat.div_lt_iff_lt_mul hP,← Nat.pow_add,Nat.add_comm E F,← h.hS]; exact hr
 ·rw [← h.hS,Nat.mul_comm (r / 2 ^ F),Nat.div_add_mod]
  cases s <;> simp
def wqA:Nat:=1300
def wqB:Nat:=2100
structure WrQ (F G:Nat) (s:Bool) (r:Nat) (sa:Bool) (va da:Nat):Prop where
 eq:va * 2 ^ G = pv F r * da
 sg:Rm.sgn sa va = Rm.sgn s va
 hd:0 < da
 hg:Nat.gcd va da = 1
 h0:sa = true→0 < va
 bv:va < 2 ^ wqA
 bd:da < 2 ^ wqB
theorem pow_lt {a b:Nat} (h:a < b):2 ^ a < 2 ^ b:=Nat.pow_lt_pow_right (by omega) h
theorem two_coprime {m j:Nat} (h:m % 2 = 1):Nat.gcd m (2 ^ j) = 1:=by
 have h2:Nat.Coprime m 2:=by
  rw [Nat.coprime_comm]
  show Nat.gcd 2 m = 1
  rw [Nat.gcd_rec,h]; decide
 exact Nat.Coprime.pow_right j h2
theorem value_place {E F S I B G:Nat} (h:Fm E F S I) (hB:B = 2 ^ (E - 1) - 1) (hG:(G:Int) = (B:Int)+(F:Int) - 1) (s:Bool) {r:Nat} (hr:r < I) :
  ∃ (sa:Bool) (m:Nat) (x:Int) (i j:Nat),Vals E F (((if s then S else 0)+r:Nat):Int) sa m x∧OkD sa m x∧max x 0 = (i:Int)∧max (-x) 0 = (j:Int)∧WrQ F G s r sa (m * 2 ^ i) (1 * 2 ^ j):=by
 have hP:=pow_pos2 F
 have hBt:=bt_place h s (Nat.lt_trans hr h.lt)
 have hfin:r / 2 ^ F+1 < 2 ^ E:=by
  have:r / 2 ^ F < 2 ^ E - 1:=by rw [Nat.div_lt_iff_lt_mul hP,← h.hI]; exact hr
  have:=pow_pos2 E
  omega
 have hdm:=Nat.div_add_mod r (2 ^ F)
 have hfl:=Nat.mod_lt r hP
 have hpvd:pv F r = if r < 2 ^ F then r else (2 ^ F+r % 2 ^ F) * 2 ^ (r / 2 ^ F - 1):=rfl
 by_cases h0:r = 0
 ·subst h0
  rw [Nat.zero_div,Nat.zero_mod] at hBt
  refine ⟨false,0,0,0,0,vals_zero h.fo (hide hB) hBt,Or.inl ⟨rfl,rfl,rfl⟩,rfl,rfl,?_,?_,by decide,by decide,by simp,?_,?_⟩
  ·rw [pv_zero]; simp
  ·cases s <;> simp [Rm.sgn]
  ·rw [Nat.zero_mul]; exact Nat.pow_pos (by omega)
  ·exact Nat.lt_of_lt_of_le (show 1 * 2 ^ 0 < 2 ^ 1 by decide) (Nat.pow_le_pow_right (by omega) (by unfold wqB; omega))
 ·obtain ⟨M,z,xe,hW⟩:=Wo.ex (B:=B) hfin hfl (fun ⟨a,b⟩=>h0 (by rw [a,b] at hdm; omega))
  have hr1:=hW.range h.fo (hide hB)
  have hz:=hW.zle
  have hF:=h.fo.f52
  have ho:=hW.odd
  have hlt:=hW.lt
  obtain ⟨k,hk,hpv⟩:∃ k:Nat,xe = 1 - (B:Int) - (F:Int)+(k:Int)∧pv F r = M * 2 ^ k:=by
   rcases hW.part with ⟨a1,a2,a3,a4⟩|⟨a1,a2,a3⟩
   ·refine ⟨0,by omega,?_⟩
    rw [a1,Nat.mul_zero,Nat.zero_add] at hdm
    rw [hpvd,if_pos (by omega),a2,hdm,Nat.pow_zero,Nat.mul_one]
   ·refine ⟨r / 2 ^ F - 1,by omega,?_⟩
    have:¬ r < 2 ^ F:=fun hc=>by rw [Nat.div_eq_of_lt hc] at a1; omega
    rw [hpvd,if_neg this,a2,Nat.add_comm]
  obtain ⟨i,hi⟩:∃ i:Nat,max (xe+(z:Int)) 0 = (i:Int):=⟨(max (xe+(z:Int)) 0).toNat,by omega⟩
  obtain ⟨j,hj⟩:∃ j:Nat,max (-(xe+(z:Int))) 0 = (j:Int):=⟨(max (-(xe+(z:Int))) 0).toNat,by omega⟩
  have hm0:0 < M / 2 ^ z:=Nat.pos_of_ne_zero fun e=>by have:=ho.1; rw [e] at this; cases this
  have hml:M / 2 ^ z < 2 ^ 53:=Nat.lt_of_le_of_lt (Nat.div_le_self _ _) (Nat.lt_of_lt_of_le hlt (Nat.pow_le_pow_right (by omega) (by omega)))
  refine ⟨s,M / 2 ^ z,xe+(z:Int),i,j,vals_wo h.fo (hide hB) hBt hW,Or.inr ⟨ho.1,by omega,by omega⟩,hi,hj,?_,rfl,?_,?_,fun _=>Nat.mul_pos hm0 (Nat.pow_pos (by omega)),?_,?_⟩
  ·rw [hpv,Nat.one_mul]
   have e:i+G = z+k+j:=by omega
   have a1:M / 2 ^ z * 2 ^ i * 2 ^ G = M / 2 ^ z * 2 ^ (i+G):=by rw [Nat.pow_add]; ac_rfl
   rw [a1,e,Nat.pow_add,Nat.pow_add,← Nat.mul_assoc,← Nat.mul_assoc,ho.2]
  ·rw [Nat.one_mul]; exact Nat.pow_pos (by omega)
  ·rw [Nat.one_mul]
   rcases Nat.eq_zero_or_pos j with q|q
   ·rw [q,Nat.pow_zero]; exact Nat.gcd_one_right _
   ·have:i = 0:=by omega
    rw [this,Nat.pow_zero,Nat.mul_one]; exact two_coprime ho.1
  ·refine Nat.lt_of_lt_of_le (Nat.mul_lt_mul_of_pos_right hml (Nat.pow_pos (by omega))) ?_
   rw [← Nat.pow_add]; exact Nat.pow_le_pow_right (by omega) (by unfold wqA; omega)
  ·rw [Nat.one_mul]; exact pow_lt (by unfold wqB; omega)
theorem rchk_all (s:Bool) (a b:Option Addr) (n c k l m d:Nat) (hs:s = true→0 < m) (hd:0 < d) (hg:Nat.gcd m d = 1) (W:World) (h1:Num W a n m) (h2:Num W b k d) :
  Calls Tryz.prog 12 #[.agg #[.bool s,.slice a n c,.slice b k l]] W fun e W'=>e = .returned (.int .i64 0)∧Below W.heap.size W W':=by
 have hk:0 < k:=by have:=h2.zero; omega
 cases s
 ·exact rk_ok_f a n c m b k l d W hk h1 h2 hg
 ·exact rk_ok_t a n c m b k l d W hk (by have:=h1.zero; have:=hs rfl; omega) h1 h2 hg
end Go.Proofs.YtaidedkpfnidpaaGreatDoor
