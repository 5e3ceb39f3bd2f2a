/- Of what RatioBackRow stands on: RbNum. -/
import Derived.Test.YtcfccblpcngeaaaGreatPbh
import Derived.Test.YtcfccblpcngeaaaGreatPbj
import Derived.Test.YtcfccblpcngeaaaGreatPas
import Derived.Test.YtcfccblpcngeaaaGreatPaj
import Derived.Lib.IndexLaws
namespace Go.Proofs.YtcfccblpcngeaaaGreat
open Go.RowKit
theorem rb_over {v e:Nat} (h:v < 2 ^ e) (he:e≤524288):¬ Over v:=fun o=>by
 have h1:=o.le
 rw [show 4294967296 ^ Pl.top = 2 ^ (32 * Pl.top) by rw [Nat.pow_mul]] at h1
 have h3:e≤32 * Pl.top:=by have:=Pl.top_eq; omega
 exact absurd (Nat.lt_of_lt_of_le h (Nat.pow_le_pow_right (by decide) h3)) (Nat.not_lt.2 h1)
theorem rb_mul {a b j k:Nat} (ha:a < 2 ^ j) (hb:b < 2 ^ k):a * b < 2 ^ (j+k):=by
 rw [Nat.pow_add]; exact Nat.mul_lt_mul'' ha hb
theorem rb_up {a j k:Nat} (ha:a < 2 ^ j) (h:j≤k):a < 2 ^ k:=Nat.lt_of_lt_of_le ha (Nat.pow_le_pow_right (by decide) h)
theorem bmul_ok {x y:Rat} {s t:Bool} {m1 d1 m2 d2 j k:Nat} (hx:Rm.Q x s m1 d1) (hy:Rm.Q y t m2 d2) (b1:m1 < 2 ^ j) (b2:d1 < 2 ^ j) (b3:m2 < 2 ^ k) (b4:d2 < 2 ^ k) (hk:j+k≤100000) :
  ∃ g z dn,Rm.Q (x * y) g z dn∧z < 2 ^ (j+k)∧dn < 2 ^ (j+k)∧BSum 28 s t m1 d1 m2 d2 z dn g:=by
 have hf:0 < Nat.gcd m1 d2:=Nat.gcd_pos_of_pos_right _ hy.pos
 have hr:0 < Nat.gcd m2 d1:=Nat.gcd_pos_of_pos_right _ hx.pos
 have l1:m1 / Nat.gcd m1 d2 * (m2 / Nat.gcd m2 d1) < 2 ^ (j+k):=Nat.lt_of_le_of_lt (Nat.mul_le_mul (Nat.div_le_self _ _) (Nat.div_le_self _ _)) (rb_mul b1 b3)
 have l2:d1 / Nat.gcd m2 d1 * (d2 / Nat.gcd m1 d2) < 2 ^ (j+k):=Nat.lt_of_le_of_lt (Nat.mul_le_mul (Nat.div_le_self _ _) (Nat.div_le_self _ _)) (rb_mul b2 b4)
 refine ⟨_,_,_,hx.product hy,l1,l2,fun W a1 n1 c1 a2 n2 c2 a3 n3 c3 a4 n4 c4 h1 h2 h3 h4=>?_⟩
 exact zprod_is W a1 a2 a3 a4 n1 n2 n3 n4 c1 c2 c3 c4 m1 d1 m2 d2 s t _ _ _ _ _ _ _ _ _ h1 h2 h3 h4 (fun p=>hide (wgcd_ok p m1 d2)) (fun p=>hide (wgcd_ok p m2 d1)) (fun p=>hide (wover_ok p m1 hf)) (fun p=>hide (wover_ok p m2 hr)) (fun p=>hide (wmul_ok p (rb_over l1 (by omega)))) (fun p=>hide (wover_ok p d1 hr)) (fun p=>hide (wover_ok p d2 hf)) (fun p=>hide (wmul_ok p (rb_over l2 (by omega)))) (fun p=>hide (wfr_ok p _ _ _))
theorem bquo_ok {x y:Rat} {s t:Bool} {m1 d1 m2 d2 j k:Nat} (hx:Rm.Q x s m1 d1) (hy:Rm.Q y t m2 d2) (h0:m2≠0) (b1:m1 < 2 ^ j) (b2:d1 < 2 ^ j) (b3:m2 < 2 ^ k) (b4:d2 < 2 ^ k) (hk:j+k≤100000) :
  ∃ g z dn,Rm.Q (x / y) g z dn∧z < 2 ^ (j+k)∧dn < 2 ^ (j+k)∧BSum 27 s t m1 d1 m2 d2 z dn g:=by
 obtain ⟨g,z,dn,hq,l1,l2,hb⟩:=bmul_ok hx (hy.inv h0) b1 b2 b4 b3 hk
 refine ⟨g,z,dn,by rw [Rat.div_def]; exact hq,l1,l2,fun W a1 n1 c1 a2 n2 c2 a3 n3 c3 a4 n4 c4 h1 h2 h3 h4=>?_⟩
 exact zquot_is W a1 a2 a3 a4 n1 n2 n3 n4 c1 c2 c3 c4 m1 d1 m2 d2 s t g z dn h1 h2 h3 h4 h0 (hide hb)
def sc (x:Rat) (be:Nat) (n:Int):Rat:=if 0≤n then x * ((be ^ n.toNat:Nat):Rat) else x / ((be ^ (-n).toNat:Nat):Rat)
theorem q_nat (N:Nat):Rm.Q ((N:Nat):Rat) false N 1:=⟨by simp [Rm.sgn],by simp,fun _=>rfl⟩
theorem len32_bl {be:Nat} (h1:1≤be) (h2:be < 4294967296):∃ bl:Nat,1≤bl∧bl≤32∧∀ W:World,Calls Tryz.prog 50 #[.int .u32 (be:Int)] W fun e W'=>e = .returned (.int .i64 (bl:Int))∧Below W.heap.size W W':=by
 have hb:=bl_bitLen 32 be h2 (by omega)
 have h32:Lib.bitLen be≤32:=by
  rcases hb.2 with h|h
  ·omega
  ·have h3:=(Nat.pow_lt_pow_iff_right (show 1 < 2 by decide)).1 (Nat.lt_of_le_of_lt h (show be < 2 ^ 32 from h2))
   omega
 refine ⟨Lib.bitLen be,?_,h32,fun W=>(len32_int (be:Int) W (by omega) (by omega)).mono fun e w' ⟨k1,k2⟩=>⟨by rw [k1,Int.toNat_natCast],by rw [← k2]; exact gr_refl _⟩⟩
 rcases Nat.eq_zero_or_pos (Lib.bitLen be) with h|h
 ·have:=hb.1; rw [h] at this; simp at this; omega
 ·exact h
theorem quo_len {bl:Nat} (h1:1≤bl) (h2:bl≤32):script Tryz.prog 0 (binOp .quo 3 (.int .i64 524288) (.int .i64 (bl:Int))) [] = some (.int .i64 ((524288 / bl:Nat):Int),[]):=by
 have e:IntKind.i64.wrap ((524288:Int).tdiv (bl:Int)) = ((524288 / bl:Nat):Int):=by
  have h3:(524288:Int).tdiv (bl:Int) = ((524288 / bl:Nat):Int):=by
   rw [Int.tdiv_eq_ediv_of_nonneg (by decide)]; rfl
  have h4:524288 / bl≤524288:=Nat.div_le_self _ _
  rw [h3,IntKind.wrap_i64]
  generalize 524288 / bl = q at *
  omega
 simp only [binOp,Op.intDiv]
 rw [if_neg (by simp),if_neg (show ¬ (bl:Int) = 0 by omega)]
 show some (Value.int .i64 (IntKind.i64.wrap ((524288:Int).tdiv (bl:Int))),[]) = _
 rw [e]
theorem bscale_ok {P:Nat} (hP1:1920 < P) (hP2:P≤2000) {x:Rat} {s:Bool} {m d K:Nat} (hx:Rm.Q x s m d) {be:Nat} (hb1:1≤be) (hb2:be < 4294967296) {n:Int} (hn1:-60≤n) (hn2:n≤60) (hm:m < 2 ^ K) (hd:d < 2 ^ K) (hK:K≤50000) :
  ∃ g z dn,Rm.Q (sc x be n) g z dn∧z < 2 ^ (K+P)∧dn < 2 ^ (K+P)∧∀ (W:World) (a:Option Addr) (n' c:Nat) (b:Option Addr) (k l:Nat),Num W a n' m→Num W b k d→Calls Tryz.prog 8 #[.agg #[.bool s,.slice a n' c,.slice b k l],.int .u32 (be:Int),.int .i64 n] W fun en W'=>(∃ A N C A' N' C',en = .returned (.tuple #[.agg #[.bool g,.slice A N C,.slice A' N' C'],.int .i64 0])∧Mine W' W.heap.size A N C z∧Mine W' W.heap.size A' N' C' dn)∧Below W.heap.size W W':=by
 have HC:∀ (a:Option Addr) (n' c:Nat) (b:Option Addr) (k l:Nat),Hid (∀ W:World,Num W a n' m→Num W b k d→Calls Tryz.prog 15 #[.agg #[.bool s,.slice a n' c,.slice b k l]] W fun e W'=>e = .returned (.int .i64 0)∧Below W.heap.size W W'):=fun a n' c b k l=>hide fun W h1 h2=>zchk_all s hx.pos hx.co (fun hs=>Nat.pos_of_ne_zero fun h0=>by have:=hx.zero h0; rw [hs] at this; cases this) W a n' c b k l h1 h2
 have hm':=rb_up hm (show K≤K+P by omega)
 have hd':=rb_up hd (show K≤K+P by omega)
 by_cases hbe:be = 1
 ·have e:sc x be n = x:=by
   subst hbe
   unfold sc
   have h1:(1:Rat)⁻¹ = 1:=by have:=Rat.mul_inv_cancel (1:Rat) (by decide); rwa [Rat.one_mul] at this
   split <;> simp [Nat.one_pow,Rat.div_def,h1]
  exact ⟨s,m,d,by rw [e]; exact hx,hm',hd',fun W a n' c b k l h1 h2=>zsca_one W s a b n' c k l m d be n h1 h2 hbe (HC a n' c b k l)⟩
 by_cases hn0:n = 0
 ·have e:sc x be n = x:=by
   subst hn0
   unfold sc
   simp
  exact ⟨s,m,d,by rw [e]; exact hx,hm',hd',fun W a n' c b k l h1 h2=>zsca_nil W s a b n' c k l m d be n h1 h2 (by omega) hn0 (HC a n' c b k l)⟩
 by_cases hm0:m = 0
 ·have hx0:x = 0:=by
   have h1:=hx.num
   rw [hm0,Rm.sgn_zero] at h1
   exact Rat.num_eq_zero.1 h1
  have e:sc x be n = x:=by
   subst hx0
   unfold sc
   split <;> simp [Rat.div_def]
  exact ⟨s,m,d,by rw [e]; exact hx,hm',hd',fun W a n' c b k l h1 h2=>zsca_zer W s a b n' c k l m d be n h1 h2 (by omega) hn0 hm0 (HC a n' c b k l)⟩
 obtain ⟨bl,l1,l2,HL⟩:=len32_bl hb1 hb2
 have hdv:=quo_len l1 l2
 have hL:16384≤524288 / bl:=(Nat.le_div_iff_mul_le (by omega)).2 (by omega)
 have hL2:524288 / bl≤524288:=Nat.div_le_self _ _
 generalize 524288 / bl = L at hdv hL hL2
 have hLu:IntKind.u64.wrap (L:Int) = (L:Int):=by rw [IntKind.wrap_u64]; omega
 have main:∀ q:Nat,q≤60→be ^ q < 2 ^ P∧(∀ W:World,Calls Tryz.prog 51 #[.int .u32 (be:Int),.int .i64 (q:Int)] W fun en W'=>(∃ a n c,en = .returned (.tuple #[.agg #[.slice a n c],.int .i64 0])∧Mine W' W.heap.size a n c (be ^ q))∧Below W.heap.size W W')∧(if (L:Int) < (q:Int) then (L:Int) else (q:Int)) = (q:Int)∧IntKind.i64.wrap (q:Int) = (q:Int)∧IntKind.u64.wrap (q:Int) = (q:Int):=by
  intro q hq
  have hp:be ^ q < 2 ^ P:=by
   have h1:be ^ q≤(2 ^ 32) ^ q:=Nat.pow_le_pow_left (by omega) q
   rw [← Nat.pow_mul] at h1
   exact Nat.lt_of_le_of_lt h1 (Nat.pow_lt_pow_right (by decide) (by omega))
  refine ⟨hp,fun W=>(pow_any be q W hb2 (by omega)).mono fun en W' ⟨k1,k2⟩=>⟨zans k1 (rb_over hp (by omega)),k2⟩,if_neg (by omega),by rw [IntKind.wrap_i64]; omega,by rw [IntKind.wrap_u64]; omega⟩
 rcases Int.lt_or_le 0 n with hp|hp
 ·obtain ⟨q,rfl⟩:∃ q:Nat,n = (q:Int):=⟨n.toNat,by omega⟩
  obtain ⟨k1,HP,k2,k3,k4⟩:=main q (by omega)
  obtain ⟨g,z,dn,hq,z1,z2,hb⟩:=bmul_ok hx (q_nat (be ^ q)) hm hd k1 (Nat.one_lt_two_pow (n:=P) (by omega)) (by omega)
  refine ⟨g,z,dn,?_,z1,z2,fun W a n' c b k l h1 h2=>?_⟩
  ·unfold sc; rw [if_pos (by omega),Int.toNat_natCast]; exact hq
  ·exact zsca_p W s a b n' c k l m d g be q z dn h1 h2 (by omega) hm0 (by omega) k4 (hide fun W h1 h2=>zscl_p W s a b n' c k l m d g be q bl L _ z dn h1 h2 (by omega) (by omega) k2 hLu k3 hdv (hide HL) (hide HP) (hide hb)) (HC a n' c b k l)
 ·obtain ⟨q,rfl⟩:∃ q:Nat,n = -(q:Int):=⟨(-n).toNat,by omega⟩
  obtain ⟨k1,HP,k2,k3,k4⟩:=main q (by omega)
  have hpos:be ^ q≠0:=Nat.ne_of_gt (Nat.pow_pos (by omega))
  obtain ⟨g,z,dn,hq,z1,z2,hb⟩:=bquo_ok hx (q_nat (be ^ q)) hpos hm hd k1 (Nat.one_lt_two_pow (n:=P) (by omega)) (by omega)
  refine ⟨g,z,dn,?_,z1,z2,fun W a n' c b k l h1 h2=>?_⟩
  ·unfold sc; rw [if_neg (by omega),Int.neg_neg,Int.toNat_natCast]; exact hq
  ·exact zsca_m W s a b n' c k l m d g be q (18446744073709551616 - q) z dn h1 h2 (by omega) hm0 (by omega) (by rw [IntKind.wrap_u64]; omega) (by rw [IntKind.wrap_u64]; omega) (hide fun W h1 h2=>zscl_m W s a b n' c k l m d g be q bl L _ z dn h1 h2 (by omega) (by omega) k2 hLu k3 hdv (hide HL) (hide HP) (hide hb)) (HC a n' c b k l)
theorem sc_back (x:Rat) {be:Nat} (hb:1≤be) (n:Int):sc (sc x be n) be (-n) = x:=by
 have hne:∀ q:Nat,((be ^ q:Nat):Rat)≠0:=fun q h=>by
  have h1:(be ^ q:Nat) = 0:=by exact_mod_cast h
  exact absurd h1 (Nat.ne_of_gt (Nat.pow_pos (by omega)))
 unfold sc
 rcases Int.lt_or_le 0 n with h|h
 ·rw [if_pos (by omega:(0:Int)≤n),if_neg (by omega:¬ (0:Int)≤-n),Int.neg_neg,Rat.div_def,Rat.mul_assoc,Rat.mul_inv_cancel _ (hne _),Rat.mul_one]
 ·rcases Int.lt_or_le n 0 with h2|h2
  ·rw [if_neg (by omega:¬ (0:Int)≤n),if_pos (by omega:(0:Int)≤-n),Rat.div_def,Rat.mul_assoc,Rat.inv_mul_cancel _ (hne _),Rat.mul_one]
  ·obtain rfl:n = 0:=by omega
   simp
theorem sc_mul (x:Rat) (be:Nat) (n:Int):x * sc 1 be n = sc x be n:=by
 unfold sc
 split
 ·rw [Rat.one_mul]
 ·rw [Rat.div_def,Rat.div_def,Rat.one_mul]
end Go.Proofs.YtcfccblpcngeaaaGreat
