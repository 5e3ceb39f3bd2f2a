/- Of what PowerDigitsRow stands on: PwDigLaw. -/
import Derived.Test.YteblliofeaahmaaDoorPar
import Derived.Test.YteblliofeaahmaaDoorPas
import Derived.Test.YteblliofeaahmaaDoorPaf
import Derived.Test.YteblliofeaahmaaDoorPam
namespace Go.Proofs.YteblliofeaahmaaDoor
open Go.RowKit
theorem rtext_fix (m d:Nat) (h1:d = 0∨10 ^ d≤m) (h2:m < 10 ^ (d+1)):∃ t:ByteArray,t.size = d+1 ∧
  ∀ (W:World) (a:Option Addr) (n c:Nat),Num W a n m→Calls Tryd.prog 34 #[.agg #[.slice a n c]] W fun en W'=>en = .returned (.tuple #[.string t,.int .i64 0])∧Below W.heap.size W W':=by
 obtain ⟨ds,_,hS,_,_⟩:=says_ex m
 exact ⟨_,says_size hS h1 h2,fun W a n c h=>(rtext_any a n c m W h).mono fun e W' ⟨t,k1,k2,k3⟩=>⟨by rw [k1,says_eq k2 hS],k3⟩⟩
theorem two_over {n:Nat} (hn:n≤65536):¬ Over (1 * 2 ^ n):=by
 obtain ⟨K,hK⟩:∃ K,K = 2049:=⟨_,rfl⟩
 refine over_not (k:=K) (by have:=Pl.top_eq; omega) ?_
 rw [Nat.one_mul,show (4294967296:Nat) = 2 ^ 32 from rfl,← Nat.pow_mul]
 exact (Nat.pow_lt_pow_iff_right (by decide)).2 (by omega)
theorem twoD_any (n:Nat) (hn:n≤65536):∃ q,10 ^ q≤2 ^ n∧2 ^ n < 10 ^ (q+1)∧∀ W:World,Calls Tryd.prog 33 #[.int .i64 (n:Int)] W fun e W'=>e = .returned (.int .i64 ((q+1:Nat):Int))∧Below W.heap.size W W':=by
 obtain ⟨h1,h2⟩:=PwM.digits_two n hn
 have hb:n * 5553023288523357132 / 18446744073709551616≤65536:=by omega
 exact ⟨_,h1,h2,fun W=>twoD_is W n _ _ hn hb rfl rfl⟩
theorem two_both (k:Int):∃ a er:Int,(∀ W:World,Calls Tryd.prog 13 #[.int .i64 k] W fun e W'=>e = .returned (.tuple #[.int .i64 a,.int .i64 er])∧Below W.heap.size W W') ∧
  ∀ W:World,Calls Tryd.prog 14 #[.int .i64 k] W fun e W'=>e = .returned (.tuple #[.int .i64 a,.int .i64 er])∧Below W.heap.size W W':=by
 by_cases h0:k < 0
 ·exact ⟨0,2,fun W=>ptwo_neg W k h0,fun W=>rtwo_neg W k h0⟩
 ·by_cases h1:65536 < k
  ·exact ⟨0,2,fun W=>ptwo_big W k h1,fun W=>rtwo_big W k h1⟩
  ·obtain ⟨n,rfl⟩:∃ n:Nat,k = (n:Int):=⟨k.toNat,by omega⟩
   have hn:n≤65536:=by omega
   obtain ⟨q,q1,q2,hq⟩:=twoD_any n hn
   obtain ⟨t,ht,hX⟩:=rtext_fix (1 * 2 ^ n) q (Or.inr (by rw [Nat.one_mul]; exact q1)) (by rw [Nat.one_mul]; exact q2)
   refine ⟨_,0,fun W=>ptwo_in W n _ hn (hide hq),fun W=>?_⟩
   have:=rtwo_in W n (1 * 2 ^ n) t hn (hide fun W a j c h=>(rup_any a j c 1 n W h (by omega)).mono fun e W' ⟨k1,k2⟩=>⟨k1.ok (two_over hn),k2⟩) (hide hX)
   rw [ht] at this
   exact this
theorem or_one (u:Nat) (hu:u < 18446744073709551616):∃ s:Nat,Go.bits .or .u64 (u:Int) 1 = (s:Int)∧s < 18446744073709551616∧(s = u∨s = u+1∧u % 2 = 0)∧s % 2 = 1:=by
 have hlt:u ||| 1 < 2 ^ 64:=Nat.or_lt_two_pow (by omega) (by decide)
 have e:u ||| 1 = u / 2 * 2+1:=by
  have:=Nat.or_div_two (a:=u) (b:=1)
  have h2:=Nat.or_mod_two_eq_one (a:=u) (b:=1)
  have h3:(u ||| 1) / 2 = u / 2:=by rw [this]; simp
  omega
 refine ⟨u ||| 1,?_,by omega,by omega,by omega⟩
 show IntKind.u64.wrap ((BitVec.ofInt 64 (u:Int) ||| BitVec.ofInt 64 1).toNat:Int) = _
 rw [BitVec.toNat_or,show (1:Int) = ((1:Nat):Int) from rfl,BitVec.ofInt_natCast,BitVec.ofInt_natCast,BitVec.toNat_ofNat,BitVec.toNat_ofNat,Nat.mod_eq_of_lt (by omega),Nat.mod_eq_of_lt (by decide),wpu (by omega) (by omega)]
theorem dig_both (u:Nat) (hu:u < 18446744073709551616):∃ d:Int,(∀ W:World,Fv W→Calls Tryd.prog 15 #[.int .u64 (u:Int)] W fun e W'=>e = .returned (.int .i64 d)∧Below W.heap.size W W') ∧
  ∀ W:World,Calls Tryd.prog 16 #[.int .u64 (u:Int)] W fun e W'=>e = .returned (.int .i64 d)∧Below W.heap.size W W':=by
 obtain ⟨s,ho,hs,hsu,hodd⟩:=or_one u hu
 have hbl:=bl_bitLen 64 s (by omega) (by omega)
 obtain ⟨hb1,hb2⟩:=hbl
 generalize hl:Lib.bitLen s = l at hb1 hb2
 have hl0:l≠0:=by rintro rfl; rw [Nat.pow_zero] at hb1; omega
 obtain ⟨j,rfl⟩:∃ j,l = j+1:=⟨l - 1,by omega⟩
 have hb3:2 ^ j≤s:=by rcases hb2 with h|h; exact absurd h hl0; exact h
 have hj:j < 64:=by
  have:2 ^ j < 2 ^ 64:=by omega
  exact (Nat.pow_lt_pow_iff_right (by decide)).1 this
 obtain ⟨q,q1,q2,hq⟩:=twoD_any j (by omega)
 have hq19:q+1≤19:=by
  have h1:10 ^ q≤2 ^ 63:=Nat.le_trans q1 (Nat.pow_le_pow_right (by decide) (by omega))
  have h2:(2:Nat) ^ 63 < 10 ^ 19:=by decide
  have:=(Nat.pow_lt_pow_iff_right (a:=10) (by decide)).1 (Nat.lt_of_le_of_lt h1 h2)
  omega
 have hup:s < 10 ^ (q+2):=by
  have:2 ^ (j+1) = 2 * 2 ^ j:=by rw [Nat.pow_succ]; omega
  have:10 ^ (q+2) = 10 * 10 ^ (q+1):=by rw [Nat.pow_succ]; omega
  omega
 have hlow:10 ^ q≤s:=Nat.le_trans q1 hb3
 have par:∀ x,u < 10 ^ (x+1)↔s < 10 ^ (x+1):=fun x=>by
  have:10 ^ (x+1) = 2 * (5 * 10 ^ x):=by rw [Nat.pow_succ]; omega
  omega
 have parl:∀ x,10 ^ (x+1)≤u↔10 ^ (x+1)≤s:=fun x=>by have:=par x; omega
 by_cases hc:10 ^ (q+1)≤s
 ·obtain ⟨t,ht,hX⟩:=rtext_fix u (q+1) (Or.inr ((parl q).2 hc)) ((par (q+1)).2 hup)
  refine ⟨_,fun W hF=>pdig_t W u s j (q+1) _ hF hs ho hl hj hq19 rfl hc (hide hq),fun W=>?_⟩
  have:=rdig_is W u t hu (hide hX)
  rw [ht] at this
  exact this
 ·have hlow':q = 0∨10 ^ q≤u:=by
   cases q with
   | zero=>exact Or.inl rfl
   | succ q=>exact Or.inr ((parl q).2 hlow)
  obtain ⟨t,ht,hX⟩:=rtext_fix u q hlow' ((par q).2 (by omega))
  refine ⟨_,fun W hF=>pdig_f W u s j (q+1) _ hF hs ho hl hj hq19 rfl (by omega) (hide hq),fun W=>?_⟩
  have:=rdig_is W u t hu (hide hX)
  rw [ht] at this
  exact this
theorem powerDigits_any (u:Nat) (k:Int) (w:World) (hT:Fv w) (hu:u < 18446744073709551616) :
  Calls Tryd.prog 4 #[.int .u64 (u:Int),.int .i64 k] w fun e w'=>e = .returned (.bool true)∧Below w.heap.size w w':=by
 obtain ⟨a,er,h1,h2⟩:=two_both k
 obtain ⟨d,h3,h4⟩:=dig_both u hu
 exact digits_walk w u k a er d hT (hide h1) (hide h2) (hide h3) (hide h4)
end Go.Proofs.YteblliofeaahmaaDoor
