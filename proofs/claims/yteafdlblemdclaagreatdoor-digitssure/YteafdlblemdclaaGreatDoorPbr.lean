/- Of what DigitsSureRow stands on: DgAny. -/
import Derived.Test.YteafdlblemdclaaGreatDoorPbd
import Derived.Test.YteafdlblemdclaaGreatDoorPbn
import Derived.Test.YteafdlblemdclaaGreatDoorPbq
namespace Go.Proofs.YteafdlblemdclaaGreatDoor
open Go.RowKit
theorem dg_n2 {W:World} {a:Option Addr} {n m:Nat} (h:Num W a n m) (hm:m < 18446744073709551616):n≤2:=by
 obtain ⟨xs,hn,_,hw,hN,hv,_⟩:=h
 have:=(Pl.val_le_len hw hN 2).2 (by rw [hv]; exact hm)
 omega
def Tells (size m:Nat) (t:ByteArray):Prop:=∀ (b r f B:Nat) (W:World) (l:List UInt8) (a:Option Addr) (n c:Nat),Tw B b r f (.func (.func 94) #[] #[.pointer (some ⟨b,0,none⟩),.pointer (some ⟨r,0,none⟩),.pointer (some ⟨f,0,none⟩)]) l W→l.length+t.size≤1000000→Num W a n m→Calls Tryz.prog 94 #[.agg #[.slice a n c],.int .i64 (size:Int),.pointer (some ⟨b,0,none⟩),.pointer (some ⟨r,0,none⟩),.pointer (some ⟨f,0,none⟩)] W fun en W'=>en = .returned (.tuple #[])∧Tw B b r f (.func (.func 94) #[] #[.pointer (some ⟨b,0,none⟩),.pointer (some ⟨r,0,none⟩),.pointer (some ⟨f,0,none⟩)]) (l ++ t.data.toList) W'∧Wr B b W W'
theorem dg_short (size m:Nat) (h1:1≤size) (h19:size≤19) (hm:m < 10 ^ size):∃ t:ByteArray,AllD t t.size∧t.size = size∧valS t = m∧∀ (W:World) (a:Option Addr) (n c:Nat),Tpw W→Num W a n m→Calls Tryz.prog 96 #[.agg #[.slice a n c],.int .i64 (size:Int)] W fun e W'=>e = .returned (.string t)∧Below W.heap.size W W':=by
 have hu:m < 18446744073709551616:=Nat.lt_of_lt_of_le hm (Nat.le_trans (Nat.pow_le_pow_right (by decide) h19) (by decide))
 obtain ⟨t,h2,h3,h4,h5⟩:=dg_fmt m size hu hm h1
 obtain ⟨z,hz⟩:∃ z,t.size+z = size:=⟨size - t.size,by omega⟩
 obtain ⟨n1,n2,n3⟩:=dg_noS z
 obtain ⟨c1,c2,c3⟩:=dg_cat n1 h3
 refine ⟨noS z ++ t,c1,by omega,by rw [c3,n3,h4]; omega,fun W a n c ht h=>?_⟩
 exact dshort_is W a n c m size z t h (dg_n2 h hu) ht hz (by omega) (hide h5)
theorem dg_tell (size:Nat):∀ m,1≤size→size≤5000→m < 10 ^ size→∃ t:ByteArray,AllD t t.size∧t.size = size∧valS t = m∧Tells size m t:=by
 induction size using Nat.strongRecOn with
 | ind size ih=>
  intro m h1 h2 hm
  by_cases h19:size≤19
  ·obtain ⟨t,a1,a2,a3,a4⟩:=dg_short size m h1 h19 hm
   exact ⟨t,a1,a2,a3,fun b r f B W l a n c hT hl h=>dtell_short W b r f B _ l a n c m size t (hide hT) hl h19 h (hide a4)⟩
  ·obtain ⟨k,hk⟩:∃ k,size / 2 = k:=⟨_,rfl⟩
   obtain ⟨j,hj⟩:∃ j,k+j = size:=⟨size - k,by omega⟩
   have hp:0 < 10 ^ k:=Nat.pow_pos (by decide)
   obtain ⟨t1,a1,a2,a3,a4⟩:=ih j (by omega) (m / 10 ^ k) (by omega) (by omega) (by
    rw [Nat.div_lt_iff_lt_mul hp,← Nat.pow_add,show j+k = size by omega]; exact hm)
   obtain ⟨t2,b1,b2,b3,b4⟩:=ih k (by omega) (m % 10 ^ k) (by omega) (by omega) (Nat.mod_lt _ hp)
   obtain ⟨c1,c2,c3⟩:=dg_cat a1 b1
   refine ⟨t1 ++ t2,c1,by omega,by rw [c3,a3,b3,b2]; exact Nat.div_add_mod' ..,fun b r f B W l a n c hT hl h=>?_⟩
   have he:10 ^ k < 2 ^ (4 * k+4):=Nat.lt_of_le_of_lt (dx_ten k) (Nat.pow_lt_pow_right (by decide) (by omega))
   exact dtell_long W b r f B l a n c m size k j (10 ^ k) (4 * k+4) t1 t2 (hide hT) (by omega) (by omega) hk hj (by omega) rfl he (by omega) (by omega) h (hide fun W l a n c hT hl h=>a4 b r f B W l a n c hT hl h) (hide fun W l a n c hT hl h=>b4 b r f B W l a n c hT hl h)
theorem bl_ten {m k:Nat} (hk:Bl m k):m < 10 ^ (k / 3+1):=by
 refine Nat.lt_of_lt_of_le hk.1 (Nat.le_trans (Nat.pow_le_pow_right (by decide) (show k≤3 * (k / 3+1) by omega)) ?_)
 rw [Nat.pow_mul]
 exact Nat.pow_le_pow_left (by decide) _
theorem tens_any {m k:Nat} (hk:Bl m k) (hk2:k≤14000):∃ t:ByteArray,AllD t t.size∧t.size = k / 3+1∧valS t = m∧∀ (W:World) (a:Option Addr) (n c:Nat),Tpw W→Num W a n m→Calls Tryz.prog 58 #[.agg #[.slice a n c]] W fun e W'=>e = .returned (.tuple #[.string t,.int .i64 0])∧Below W.heap.size W W':=by
 obtain ⟨t,h1,h2,h3,h4⟩:=dg_tell (k / 3+1) m (by omega) (by omega) (bl_ten hk)
 exact ⟨t,h1,h2,h3,fun W a n c ht h=>dtens_is W a n c m k (k / 3+1) t h hk (by omega) rfl h2 ht (hide h4)⟩
theorem bl_le {m k e:Nat} (hk:Bl m k) (h:m < 2 ^ e):k≤e:=by
 rcases hk.2 with h0|h0
 ·omega
 ·have:=(Nat.pow_lt_pow_iff_right (a:=2) (by decide)).1 (Nat.lt_of_le_of_lt h0 h)
  omega
theorem WrQ.jle {F G r j:Nat} {s sa:Bool} {va:Nat} (h:WrQ F G s r sa va (1 * 2 ^ j)):j≤G:=by
 have h1:=h.eq
 have h2:=h.hg
 rw [Nat.one_mul] at h1 h2
 have h3:2 ^ j ∣ 2 ^ G:=Nat.Coprime.dvd_of_dvd_mul_left (Nat.Coprime.symm h2) ⟨pv F r,by rw [h1,Nat.mul_comm]⟩
 exact (Nat.pow_le_pow_iff_right (a:=2) (by decide)).1 (Nat.le_of_dvd (Nat.pow_pos (by decide)) h3)
theorem gm_le {E F S I B G:Nat} (h:Fm E F S I) (hB:B = 2 ^ (E - 1) - 1) (hG:(G:Int) = (B:Int)+(F:Int) - 1):G≤1074:=by
 have h1:=h.fo.e11
 have h2:=h.fo.f52
 have h3:2 ^ (E - 1)≤2 ^ 10:=Nat.pow_le_pow_right (by decide) (by omega)
 omega
theorem WrQ.odd {F G r m j:Nat} {s sa:Bool} (h:WrQ F G s r sa m (1 * 2 ^ j)) (ho:m % 2 = 1) (_hj:0 < j):m < 2 ^ (F+1):=by
 have h1:=h.eq
 have h2:=h.jle
 obtain ⟨d,rfl⟩:∃ d,G = j+d:=⟨G - j,by omega⟩
 rw [Nat.one_mul,Nat.pow_add,← Nat.mul_assoc,Nat.mul_right_comm] at h1
 have h3:m * 2 ^ d = pv F r:=Nat.eq_of_mul_eq_mul_right (Nat.pow_pos (n:=j) (by decide)) h1
 have hP:0 < 2 ^ F:=Nat.pow_pos (by decide)
 rw [Nat.pow_succ]
 unfold pv at h3
 split at h3
 ·have:m≤m * 2 ^ d:=Nat.le_mul_of_pos_right _ (Nat.pow_pos (by decide))
  omega
 ·have h4:m ∣ (2 ^ F+r % 2 ^ F) * 2 ^ (r / 2 ^ F - 1):=⟨2 ^ d,h3.symm⟩
  have h5:Nat.Coprime m (2 ^ (r / 2 ^ F - 1)):=two_coprime ho
  have h6:=Nat.le_of_dvd (by omega) (h5.dvd_of_dvd_mul_right h4)
  have:=Nat.mod_lt r hP
  omega
theorem sign_shift {E F S I:Nat} (h:Fm E F S I) (s:Bool) {r:Nat} (hr:r < S):∃ q:Nat,(((if s then S else 0)+r:Nat):Int).fdiv (2 ^ min (((E:Int)+(F:Int))).toNat 64) = (q:Int)∧((q:Int) == 1) = s:=by
 have h1:=h.fo.e11
 have h2:=h.fo.f52
 have h3:=h.hS
 have hP:0 < S:=by omega
 refine ⟨((if s then S else 0)+r) / S,?_,?_⟩
 ·rw [show min (((E:Int)+(F:Int))).toNat 64 = F+E by omega,h3]
  have e1:((2:Int) ^ (F+E)) = ((2 ^ (F+E):Nat):Int):=by simp
  rw [e1,Int.fdiv_eq_ediv_of_nonneg _ (Int.natCast_nonneg _),← Int.natCast_ediv]
 ·cases s
  ·rw [if_neg (by decide),Nat.zero_add,Nat.div_eq_of_lt hr]; rfl
  ·rw [if_pos rfl,Nat.add_comm,Nat.add_div_right _ hP,Nat.div_eq_of_lt hr]; rfl
theorem dall_fin {E F S I B G:Nat} (h:Fm E F S I) (hB:B = 2 ^ (E - 1) - 1) (hG:(G:Int) = (B:Int)+(F:Int) - 1) (s:Bool) {r:Nat} (hr:r < I) :
  ∃ (sa:Bool) (m:Nat) (x:Int) (i j:Nat) (t:ByteArray) (y:Int),Vals E F (((if s then S else 0)+r:Nat):Int) sa m x∧OkD sa m x∧max x 0 = (i:Int)∧max (-x) 0 = (j:Int)∧WrQ F G s r sa (m * 2 ^ i) (1 * 2 ^ j)∧DcOk t y∧dq s (valS t) y = dq s (m * 2 ^ i * 5 ^ j) (-(j:Int))∧t.size≤1400∧y.natAbs≤3000∧j≤G ∧
   ∀ W:World,Tb W→Tpw W→Calls Tryz.prog 9 #[.agg #[.int .i64 (E:Int),.int .i64 (F:Int)],.int .u64 (((if s then S else 0)+r:Nat):Int)] W fun e W'=>e = .returned (.tuple #[.agg #[.bool s,.string t,.int .i64 y],.int .i64 0])∧Below W.heap.size W W':=by
 obtain ⟨sa,m,x,i,j,hV,hO,hi,hj,hq⟩:=value_place h hB hG s hr
 have hjG:=hq.jle
 have hG2:=gm_le h hB hG
 have h5:(5:Nat) ^ j≤2 ^ (3 * j):=by rw [Nat.pow_mul]; exact Nat.pow_le_pow_left (by decide) j
 obtain ⟨e,he⟩:∃ e:Nat,e = 4600:=⟨_,rfl⟩
 have h5':(5:Nat) ^ j < 2 ^ e:=Nat.lt_of_le_of_lt h5 (Nat.pow_lt_pow_right (by decide) (by omega))
 have hva:m * 2 ^ i < 2 ^ wqA:=hq.bv
 have hA:wqA = 1300:=rfl
 have hva':m * 2 ^ i < 2 ^ e:=Nat.lt_trans hva (Nat.pow_lt_pow_right (by decide) (by omega))
 have hNe:m * 2 ^ i * 5 ^ j < 2 ^ e:=by
  refine Nat.lt_of_lt_of_le (Nat.mul_lt_mul_of_lt_of_le hva h5 (Nat.pow_pos (by decide))) ?_
  rw [← Nat.pow_add]
  exact Nat.pow_le_pow_right (by decide) (by omega)
 obtain ⟨N,hN⟩:∃ N,m * 2 ^ i * 5 ^ j = N:=⟨_,rfl⟩
 obtain ⟨k,hk⟩:=bl_ex N
 have hkl:k≤e:=bl_le hk (by rw [← hN]; exact hNe)
 obtain ⟨t,a1,a2,a3,a4⟩:=tens_any hk (by omega)
 have hy:min x 0 = -(j:Int):=by omega
 have hi2:i≤100000:=by
  rcases hO with ⟨-,-,h0⟩|⟨ho,-,-⟩
  ·omega
  ·have:=(Nat.pow_lt_pow_iff_right (a:=2) (by decide)).1 (Nat.lt_of_le_of_lt (Nat.le_mul_of_pos_left (2 ^ i) (by omega:0 < m)) hva)
   omega
 have HD:=hide fun (W:World) (a:Option Addr) (n c:Nat) (ht:Tpw W) (hn:Num W a n m)=>ddec_is W sa a n c m x (-(j:Int)) i j (5 ^ j) (m * 2 ^ i) N e t hn (by omega) hi hj hy rfl h5' rfl hva' hN (by rw [← hN]; exact hNe) (by omega) hi2 (by omega) ht (hide a4)
 obtain ⟨q,q1,q2⟩:=sign_shift h s (Nat.lt_trans hr h.lt)
 have HG:=hide fun W:World=>dsgn_is W E F ((if s then S else 0)+r) q s (by have:=h.fo.e11; omega) (by have:=h.fo.f52; omega) q1 q2
 obtain ⟨V,v1,v2⟩:=dmake_c s t (-(j:Int)) (by omega) (by omega) (by omega) a1
 obtain ⟨K,hK⟩:∃ K:Nat,K = 1300:=⟨_,rfl⟩
 have hN10:N < 10 ^ K:=by
  rw [← hN]
  rcases Nat.eq_zero_or_pos j with rfl|hj0
  ·rw [Nat.pow_zero,Nat.mul_one]
   exact Nat.lt_of_lt_of_le hva (Nat.le_trans (Nat.pow_le_pow_left (show 2≤10 by decide) wqA) (Nat.pow_le_pow_right (by decide) (by omega)))
  ·have hi0:i = 0:=by omega
   subst hi0
   have hm:m < 2 ^ (F+1):=by
    rcases hO with ⟨h0,-,-⟩|⟨ho,-,-⟩
    ·rw [h0]; exact Nat.pow_pos (by decide)
    ·rw [Nat.pow_zero,Nat.mul_one] at hq
     exact hq.odd ho hj0
   have hF:=h.fo.f52
   have h6:m < 10 ^ 20:=Nat.lt_of_lt_of_le hm (Nat.le_trans (Nat.pow_le_pow_right (by decide) (show F+1≤53 by omega)) (by decide))
   rw [Nat.pow_zero,Nat.mul_one]
   refine Nat.lt_of_lt_of_le (Nat.mul_lt_mul_of_lt_of_le h6 (Nat.pow_le_pow_left (show 5≤10 by decide) j) (Nat.pow_pos (by decide))) ?_
   rw [← Nat.pow_add]
   exact Nat.pow_le_pow_right (by decide) (by omega)
 obtain ⟨t3,y3,d1,d2,d3,d4,d5⟩:=dx_made s N (x:=-(j:Int)) hN10 (by omega) (by omega) (by omega)
 rw [a3] at v1
 have hVV:=v1.uniq d1
 refine ⟨sa,m,x,i,j,t3,y3,hV,hO,hi,hj,hq,d2,by rw [d3,hN],by omega,by omega,hjG,fun W ht htp=>?_⟩
 exact dall_ok W E F ((if s then S else 0)+r) m sa s s x (-(j:Int)) y3 t t3 ht htp (hide hV) HD HG (hide fun W=>hVV▸v2 W)
end Go.Proofs.YteafdlblemdclaaGreatDoor
