/- Of what DigitsNamesRow stands on: DgAny DgFoW DgEq DgLawW DgEnW. -/
import Derived.Test.YtplihgoapiiigaaGreatDoorPbe
import Derived.Test.YtplihgoapiiigaaGreatDoorPbf
import Derived.Test.YtplihgoapiiigaaGreatDoorPbi
import Derived.Test.YtplihgoapiiigaaGreatDoorPar
import Derived.Test.YtplihgoapiiigaaGreatDoorPbh
namespace Go.Proofs.YtplihgoapiiigaaGreatDoor
open Go.RowKit
set_option maxHeartbeats 2000000
set_option maxRecDepth 20000
theorem dg_n2 {W:World} {a:Option Addr} {n m:Nat} (h:Num W a n m) (hm:m < 18446744073709551616):n≤2:=by
 obtain ⟨xs,hn,_,hw,hN,hv,_⟩:=h
 have:=(Pl.val_le_len hw hN 2).2 (by rw [hv]; exact hm)
 omega
def Tells (size m:Nat) (t:ByteArray):Prop:=∀ (b r f B:Nat) (W:World) (l:List UInt8) (a:Option Addr) (n c:Nat),Tw B b r f (.func (.func 71) #[] #[.pointer (some ⟨b,0,none⟩),.pointer (some ⟨r,0,none⟩),.pointer (some ⟨f,0,none⟩)]) l W→l.length+t.size≤1000000→Num W a n m→Calls Tryz.prog 71 #[.agg #[.slice a n c],.int .i64 (size:Int),.pointer (some ⟨b,0,none⟩),.pointer (some ⟨r,0,none⟩),.pointer (some ⟨f,0,none⟩)] W fun en W'=>en = .returned (.tuple #[])∧Tw B b r f (.func (.func 71) #[] #[.pointer (some ⟨b,0,none⟩),.pointer (some ⟨r,0,none⟩),.pointer (some ⟨f,0,none⟩)]) (l ++ t.data.toList) W'∧Wr B b W W'
theorem dg_short (size m:Nat) (h1:1≤size) (h19:size≤19) (hm:m < 10 ^ size):∃ t:ByteArray,AllD t t.size∧t.size = size∧valS t = m∧∀ (W:World) (a:Option Addr) (n c:Nat),Tpw W→Num W a n m→Calls Tryz.prog 73 #[.agg #[.slice a n c],.int .i64 (size:Int)] W fun e W'=>e = .returned (.string t)∧Below W.heap.size W W':=by
 have hu:m < 18446744073709551616:=Nat.lt_of_lt_of_le hm (Nat.le_trans (Nat.pow_le_pow_right (by decide) h19) (by decide))
 obtain ⟨t,h2,h3,h4,h5⟩:=dg_fmt m size hu hm h1
 obtain ⟨z,hz⟩:∃ z,t.size+z = size:=⟨size - t.size,by omega⟩
 obtain ⟨n1,n2,n3⟩:=dg_noS z
 obtain ⟨c1,c2,c3⟩:=dg_cat n1 h3
 refine ⟨noS z ++ t,c1,by omega,by rw [c3,n3,h4]; omega,fun W a n c ht h=>?_⟩
 exact dshort_is W a n c m size z t h (dg_n2 h hu) ht hz (by omega) (hide h5)
theorem dg_tell (size:Nat):∀ m,1≤size→size≤5000→m < 10 ^ size→∃ t:ByteArray,AllD t t.size∧t.size = size∧valS t = m∧Tells size m t:=by
 induction size using Nat.strongRecOn with
 | ind size ih=>
  intro m h1 h2 hm
  by_cases h19:size≤19
  ·obtain ⟨t,a1,a2,a3,a4⟩:=dg_short size m h1 h19 hm
   exact ⟨t,a1,a2,a3,fun b r f B W l a n c hT hl h=>dtell_short W b r f B _ l a n c m size t (hide hT) hl h19 h (hide a4)⟩
  ·obtain ⟨k,hk⟩:∃ k,size / 2 = k:=⟨_,rfl⟩
   obtain ⟨j,hj⟩:∃ j,k+j = size:=⟨size - k,by omega⟩
   have hp:0 < 10 ^ k:=Nat.pow_pos (by decide)
   obtain ⟨t1,a1,a2,a3,a4⟩:=ih j (by omega) (m / 10 ^ k) (by omega) (by omega) (by
    rw [Nat.div_lt_iff_lt_mul hp,← Nat.pow_add,show j+k = size by omega]; exact hm)
   obtain ⟨t2,b1,b2,b3,b4⟩:=ih k (by omega) (m % 10 ^ k) (by omega) (by omega) (Nat.mod_lt _ hp)
   obtain ⟨c1,c2,c3⟩:=dg_cat a1 b1
   refine ⟨t1 ++ t2,c1,by omega,by rw [c3,a3,b3,b2]; exact Nat.div_add_mod' ..,fun b r f B W l a n c hT hl h=>?_⟩
   have he:10 ^ k < 2 ^ (4 * k+4):=Nat.lt_of_le_of_lt (dx_ten k) (Nat.pow_lt_pow_right (by decide) (by omega))
   exact dtell_long W b r f B l a n c m size k j (10 ^ k) (4 * k+4) t1 t2 (hide hT) (by omega) (by omega) hk hj (by omega) rfl he (by omega) (by omega) h (hide fun W l a n c hT hl h=>a4 b r f B W l a n c hT hl h) (hide fun W l a n c hT hl h=>b4 b r f B W l a n c hT hl h)
theorem bl_ten {m k:Nat} (hk:Bl m k):m < 10 ^ (k / 3+1):=by
 refine Nat.lt_of_lt_of_le hk.1 (Nat.le_trans (Nat.pow_le_pow_right (by decide) (show k≤3 * (k / 3+1) by omega)) ?_)
 rw [Nat.pow_mul]
 exact Nat.pow_le_pow_left (by decide) _
theorem tens_any {m k:Nat} (hk:Bl m k) (hk2:k≤14000):∃ t:ByteArray,AllD t t.size∧t.size = k / 3+1∧valS t = m∧∀ (W:World) (a:Option Addr) (n c:Nat),Tpw W→Num W a n m→Calls Tryz.prog 36 #[.agg #[.slice a n c]] W fun e W'=>e = .returned (.tuple #[.string t,.int .i64 0])∧Below W.heap.size W W':=by
 obtain ⟨t,h1,h2,h3,h4⟩:=dg_tell (k / 3+1) m (by omega) (by omega) (bl_ten hk)
 exact ⟨t,h1,h2,h3,fun W a n c ht h=>dtens_is W a n c m k (k / 3+1) t h hk (by omega) rfl h2 ht (hide h4)⟩
theorem bl_le {m k e:Nat} (hk:Bl m k) (h:m < 2 ^ e):k≤e:=by
 rcases hk.2 with h0|h0
 ·omega
 ·have:=(Nat.pow_lt_pow_iff_right (a:=2) (by decide)).1 (Nat.lt_of_le_of_lt h0 h)
  omega
theorem WrQ.jle {F G r j:Nat} {s sa:Bool} {va:Nat} (h:WrQ F G s r sa va (1 * 2 ^ j)):j≤G:=by
 have h1:=h.eq
 have h2:=h.hg
 rw [Nat.one_mul] at h1 h2
 have h3:2 ^ j ∣ 2 ^ G:=Nat.Coprime.dvd_of_dvd_mul_left (Nat.Coprime.symm h2) ⟨pv F r,by rw [h1,Nat.mul_comm]⟩
 exact (Nat.pow_le_pow_iff_right (a:=2) (by decide)).1 (Nat.le_of_dvd (Nat.pow_pos (by decide)) h3)
theorem gm_le {E F S I B G:Nat} (h:Fm E F S I) (hB:B = 2 ^ (E - 1) - 1) (hG:(G:Int) = (B:Int)+(F:Int) - 1):G≤1074:=by
 have h1:=h.fo.e11
 have h2:=h.fo.f52
 have h3:2 ^ (E - 1)≤2 ^ 10:=Nat.pow_le_pow_right (by decide) (by omega)
 omega
theorem WrQ.odd {F G r m j:Nat} {s sa:Bool} (h:WrQ F G s r sa m (1 * 2 ^ j)) (ho:m % 2 = 1) (_hj:0 < j):m < 2 ^ (F+1):=by
 have h1:=h.eq
 have h2:=h.jle
 obtain ⟨d,rfl⟩:∃ d,G = j+d:=⟨G - j,by omega⟩
 rw [Nat.one_mul,Nat.pow_add,← Nat.mul_assoc,Nat.mul_right_comm] at h1
 have h3:m * 2 ^ d = pv F r:=Nat.eq_of_mul_eq_mul_right (Nat.pow_pos (n:=j) (by decide)) h1
 have hP:0 < 2 ^ F:=Nat.pow_pos (by decide)
 rw [Nat.pow_succ]
 unfold pv at h3
 split at h3
 ·have:m≤m * 2 ^ d:=Nat.le_mul_of_pos_right _ (Nat.pow_pos (by decide))
  omega
 ·have h4:m ∣ (2 ^ F+r % 2 ^ F) * 2 ^ (r / 2 ^ F - 1):=⟨2 ^ d,h3.symm⟩
  have h5:Nat.Coprime m (2 ^ (r / 2 ^ F - 1)):=two_coprime ho
  have h6:=Nat.le_of_dvd (by omega) (h5.dvd_of_dvd_mul_right h4)
  have:=Nat.mod_lt r hP
  omega
theorem sign_shift {E F S I:Nat} (h:Fm E F S I) (s:Bool) {r:Nat} (hr:r < S):∃ q:Nat,(((if s then S else 0)+r:Nat):Int).fdiv (2 ^ min (((E:Int)+(F:Int))).toNat 64) = (q:Int)∧((q:Int) == 1) = s:=by
 have h1:=h.fo.e11
 have h2:=h.fo.f52
 have h3:=h.hS
 have hP:0 < S:=by omega
 refine ⟨((if s then S else 0)+r) / S,?_,?_⟩
 ·rw [show min (((E:Int)+(F:Int))).toNat 64 = F+E by omega,h3]
  have e1:((2:Int) ^ (F+E)) = ((2 ^ (F+E):Nat):Int):=by simp
  rw [e1,Int.fdiv_eq_ediv_of_nonneg _ (Int.natCast_nonneg _),← Int.natCast_ediv]
 ·cases s
  ·rw [if_neg (by decide),Nat.zero_add,Nat.div_eq_of_lt hr]; rfl
  ·rw [if_pos rfl,Nat.add_comm,Nat.add_div_right _ hP,Nat.div_eq_of_lt hr]; rfl
theorem dall_fin {E F S I B G:Nat} (h:Fm E F S I) (hB:B = 2 ^ (E - 1) - 1) (hG:(G:Int) = (B:Int)+(F:Int) - 1) (s:Bool) {r:Nat} (hr:r < I) :
  ∃ (sa:Bool) (m:Nat) (x:Int) (i j:Nat) (t:ByteArray) (y:Int),Vals E F (((if s then S else 0)+r:Nat):Int) sa m x∧OkD sa m x∧max x 0 = (i:Int)∧max (-x) 0 = (j:Int)∧WrQ F G s r sa (m * 2 ^ i) (1 * 2 ^ j)∧DcOk t y∧dq s (valS t) y = dq s (m * 2 ^ i * 5 ^ j) (-(j:Int))∧t.size≤1400∧y.natAbs≤3000∧j≤G ∧
   ∀ W:World,Tb W→Tpw W→Calls Tryz.prog 12 #[.agg #[.int .i64 (E:Int),.int .i64 (F:Int)],.int .u64 (((if s then S else 0)+r:Nat):Int)] W fun e W'=>e = .returned (.tuple #[.agg #[.bool s,.string t,.int .i64 y],.int .i64 0])∧Below W.heap.size W W':=by
 obtain ⟨sa,m,x,i,j,hV,hO,hi,hj,hq⟩:=value_place h hB hG s hr
 have hjG:=hq.jle
 have hG2:=gm_le h hB hG
 have h5:(5:Nat) ^ j≤2 ^ (3 * j):=by rw [Nat.pow_mul]; exact Nat.pow_le_pow_left (by decide) j
 obtain ⟨e,he⟩:∃ e:Nat,e = 4600:=⟨_,rfl⟩
 have h5':(5:Nat) ^ j < 2 ^ e:=Nat.lt_of_le_of_lt h5 (Nat.pow_lt_pow_right (by decide) (by omega))
 have hva:m * 2 ^ i < 2 ^ wqA:=hq.bv
 have hA:wqA = 1300:=rfl
 have hva':m * 2 ^ i < 2 ^ e:=Nat.lt_trans hva (Nat.pow_lt_pow_right (by decide) (by omega))
 have hNe:m * 2 ^ i * 5 ^ j < 2 ^ e:=by
  refine Nat.lt_of_lt_of_le (Nat.mul_lt_mul_of_lt_of_le hva h5 (Nat.pow_pos (by decide))) ?_
  rw [← Nat.pow_add]
  exact Nat.pow_le_pow_right (by decide) (by omega)
 obtain ⟨N,hN⟩:∃ N,m * 2 ^ i * 5 ^ j = N:=⟨_,rfl⟩
 obtain ⟨k,hk⟩:=bl_ex N
 have hkl:k≤e:=bl_le hk (by rw [← hN]; exact hNe)
 obtain ⟨t,a1,a2,a3,a4⟩:=tens_any hk (by omega)
 have hy:min x 0 = -(j:Int):=by omega
 have hi2:i≤100000:=by
  rcases hO with ⟨-,-,h0⟩|⟨ho,-,-⟩
  ·omega
  ·have:=(Nat.pow_lt_pow_iff_right (a:=2) (by decide)).1 (Nat.lt_of_le_of_lt (Nat.le_mul_of_pos_left (2 ^ i) (by omega:0 < m)) hva)
   omega
 have HD:=hide fun (W:World) (a:Option Addr) (n c:Nat) (ht:Tpw W) (hn:Num W a n m)=>ddec_is W sa a n c m x (-(j:Int)) i j (5 ^ j) (m * 2 ^ i) N e t hn (by omega) hi hj hy rfl h5' rfl hva' hN (by rw [← hN]; exact hNe) (by omega) hi2 (by omega) ht (hide a4)
 obtain ⟨q,q1,q2⟩:=sign_shift h s (Nat.lt_trans hr h.lt)
 have HG:=hide fun W:World=>dsgn_is W E F ((if s then S else 0)+r) q s (by have:=h.fo.e11; omega) (by have:=h.fo.f52; omega) q1 q2
 obtain ⟨V,v1,v2⟩:=dmake_c s t (-(j:Int)) (by omega) (by omega) (by omega) a1
 obtain ⟨K,hK⟩:∃ K:Nat,K = 1300:=⟨_,rfl⟩
 have hN10:N < 10 ^ K:=by
  rw [← hN]
  rcases Nat.eq_zero_or_pos j with rfl|hj0
  ·rw [Nat.pow_zero,Nat.mul_one]
   exact Nat.lt_of_lt_of_le hva (Nat.le_trans (Nat.pow_le_pow_left (show 2≤10 by decide) wqA) (Nat.pow_le_pow_right (by decide) (by omega)))
  ·have hi0:i = 0:=by omega
   subst hi0
   have hm:m < 2 ^ (F+1):=by
    rcases hO with ⟨h0,-,-⟩|⟨ho,-,-⟩
    ·rw [h0]; exact Nat.pow_pos (by decide)
    ·rw [Nat.pow_zero,Nat.mul_one] at hq
     exact hq.odd ho hj0
   have hF:=h.fo.f52
   have h6:m < 10 ^ 20:=Nat.lt_of_lt_of_le hm (Nat.le_trans (Nat.pow_le_pow_right (by decide) (show F+1≤53 by omega)) (by decide))
   rw [Nat.pow_zero,Nat.mul_one]
   refine Nat.lt_of_lt_of_le (Nat.mul_lt_mul_of_lt_of_le h6 (Nat.pow_le_pow_left (show 5≤10 by decide) j) (Nat.pow_pos (by decide))) ?_
   rw [← Nat.pow_add]
   exact Nat.pow_le_pow_right (by decide) (by omega)
 obtain ⟨t3,y3,d1,d2,d3,d4,d5⟩:=dx_made s N (x:=-(j:Int)) hN10 (by omega) (by omega) (by omega)
 rw [a3] at v1
 have hVV:=v1.uniq d1
 refine ⟨sa,m,x,i,j,t3,y3,hV,hO,hi,hj,hq,d2,by rw [d3,hN],by omega,by omega,hjG,fun W ht htp=>?_⟩
 exact dall_ok W E F ((if s then S else 0)+r) m sa s s x (-(j:Int)) y3 t t3 ht htp (hide hV) HD HG (hide fun W=>hVV▸v2 W)
theorem rabove (w:World) (n m:Nat) (hn:n≤100) (hm:m≤1000):Calls Tryz.prog 17 #[.int .i64 (n:Int),.int .i64 (m:Int)] w fun en w'=>en = .returned (.bool (decide (2 ^ m < 10 ^ n)))∧Below w.heap.size w w':=
 rabove_is w n m _ hn hm (by
  generalize 10 ^ n = x
  generalize 2 ^ m = y
  unfold cmpI
  by_cases h:y < x
  ·rw [if_neg (by omega),if_neg (by omega),decide_eq_true h]; rfl
  ·rw [decide_eq_false h]
   by_cases h2:x < y
   ·rw [if_pos h2]; rfl
   ·rw [if_neg h2,if_pos (by omega)]; rfl)
theorem rfo_0 (w:World) (E F:Int) (h0:E < 2)  :
  Calls Tryz.prog 16 #[.agg #[.int .i64 E,.int .i64 F]] w fun en w'=>en = .returned (.bool false)∧Below w.heap.size w w':=by
 refine calls_sym Tryz.func16 rfl (by kernel_rfl) fun T hK=>?_
 replace hK:Kn T _ [(0,.agg #[.int .i64 E,.int .i64 F])]:=hK
 have hS:=Fb.begin w
 have hG:GsAt [] w:=trivial
 refine wq hS hG hK (fun p1=>[.n 1 #[.int .i64 E,.int .i64 F] 24,.v 2 (.bool false)]) (fun p1=>[(1,pT (p1 0).N 0),(2,.bool false)]) (fun p1=>?_) (fun p1 W1 T hF hK=>?_)
 ·refine okn ?_
  refine okv ?_
  exact ok_nil
 replace hS:=SymF.fc hS hF [1000] [⟨(p1 0).N,#[.int .i64 E,.int .i64 F],24,true⟩]
 replace hG:=hF.gx
 clear hF
 refine wq hS hG hK (fun p2=>[.v 3 (pT (p1 0).N 0),.l 4 (.int .i64 E) 0 0,.v 5 (.bool false),.v 6 (.bool false),.k (some 7),.k (some 8),.k (some 9),.v 10 (.bool false),.v 11 (.bool false),.k (some 12),.k (some 13),.k (some 14),.v 15 (.bool false),.v 16 (.bool false),.k (some 17),.k (some 18),.k (some 19),.v 20 (.bool false),.v 2 (.bool false)]) (fun p2=>[(2,.bool false)]) (fun p2=>?_) (fun p2 W2 T hF hK=>?_)
 ·refine okv ?_
  refine okl ?_
  refine okvb (decide_eq_false (show ¬ E ≥ 2 by omega)) ?_
  refine okv ?_
  iterate 3 refine okk ?_
  iterate 2 refine okv ?_
  iterate 3 refine okk ?_
  iterate 2 refine okv ?_
  iterate 3 refine okk ?_
  iterate 2 refine okv ?_
  exact ok_nil
 replace hS:=SymF.fc hS hF [] []
 replace hG:=hF.gx
 clear hF
 refine wp_ret ?_
 exact sym_end hS hK (.bool false) [] [] (by kernel_rfl) (by kernel_rfl) ⟨rfl,hS.fr⟩
theorem rfo_1 (w:World) (E F:Int) (h0:E ≥ 2) (h1:E > 11)  :
  Calls Tryz.prog 16 #[.agg #[.int .i64 E,.int .i64 F]] w fun en w'=>en = .returned (.bool false)∧Below w.heap.size w w':=by
 refine calls_sym Tryz.func16 rfl (by kernel_rfl) fun T hK=>?_
 replace hK:Kn T _ [(0,.agg #[.int .i64 E,.int .i64 F])]:=hK
 have hS:=Fb.begin w
 have hG:GsAt [] w:=trivial
 refine wq hS hG hK (fun p1=>[.n 1 #[.int .i64 E,.int .i64 F] 24,.v 2 (.bool false)]) (fun p1=>[(1,pT (p1 0).N 0),(2,.bool false)]) (fun p1=>?_) (fun p1 W1 T hF hK=>?_)
 ·refine okn ?_
  refine okv ?_
  exact ok_nil
 replace hS:=SymF.fc hS hF [1000] [⟨(p1 0).N,#[.int .i64 E,.int .i64 F],24,true⟩]
 replace hG:=hF.gx
 clear hF
 refine wq hS hG hK (fun p2=>[.v 3 (pT (p1 0).N 0),.l 4 (.int .i64 E) 0 0,.v 5 (.bool true),.v 6 (.bool true),.v 7 (pT (p1 0).N 0),.l 8 (.int .i64 E) 0 0,.v 9 (.bool false),.v 10 (.bool false),.v 11 (.bool false),.k (some 12),.k (some 13),.k (some 14),.v 15 (.bool false),.v 16 (.bool false),.k (some 17),.k (some 18),.k (some 19),.v 20 (.bool false),.v 2 (.bool false)]) (fun p2=>[(2,.bool false)]) (fun p2=>?_) (fun p2 W2 T hF hK=>?_)
 ·refine okv ?_
  refine okl ?_
  refine okvb (decide_eq_true (show E ≥ 2 by omega)) ?_
  iterate 2 refine okv ?_
  refine okl ?_
  refine okvb (decide_eq_false (show ¬ E≤11 by omega)) ?_
  iterate 2 refine okv ?_
  iterate 3 refine okk ?_
  iterate 2 refine okv ?_
  iterate 3 refine okk ?_
  iterate 2 refine okv ?_
  exact ok_nil
 replace hS:=SymF.fc hS hF [] []
 replace hG:=hF.gx
 clear hF
 refine wp_ret ?_
 exact sym_end hS hK (.bool false) [] [] (by kernel_rfl) (by kernel_rfl) ⟨rfl,hS.fr⟩
theorem rfo_2 (w:World) (E F:Int) (h0:E ≥ 2) (h1:E≤11) (h2:F < 1)  :
  Calls Tryz.prog 16 #[.agg #[.int .i64 E,.int .i64 F]] w fun en w'=>en = .returned (.bool false)∧Below w.heap.size w w':=by
 refine calls_sym Tryz.func16 rfl (by kernel_rfl) fun T hK=>?_
 replace hK:Kn T _ [(0,.agg #[.int .i64 E,.int .i64 F])]:=hK
 have hS:=Fb.begin w
 have hG:GsAt [] w:=trivial
 refine wq hS hG hK (fun p1=>[.n 1 #[.int .i64 E,.int .i64 F] 24,.v 2 (.bool false)]) (fun p1=>[(1,pT (p1 0).N 0),(2,.bool false)]) (fun p1=>?_) (fun p1 W1 T hF hK=>?_)
 ·refine okn ?_
  refine okv ?_
  exact ok_nil
 replace hS:=SymF.fc hS hF [1000] [⟨(p1 0).N,#[.int .i64 E,.int .i64 F],24,true⟩]
 replace hG:=hF.gx
 clear hF
 refine wq hS hG hK (fun p2=>[.v 3 (pT (p1 0).N 0),.l 4 (.int .i64 E) 0 0,.v 5 (.bool true),.v 6 (.bool true),.v 7 (pT (p1 0).N 0),.l 8 (.int .i64 E) 0 0,.v 9 (.bool true),.v 10 (.bool true),.v 11 (.bool true),.v 12 (pT (p1 0).N 1),.l 13 (.int .i64 F) 0 1,.v 14 (.bool false),.v 15 (.bool false),.v 16 (.bool false),.k (some 17),.k (some 18),.k (some 19),.v 20 (.bool false),.v 2 (.bool false)]) (fun p2=>[(2,.bool false)]) (fun p2=>?_) (fun p2 W2 T hF hK=>?_)
 ·refine okv ?_
  refine okl ?_
  refine okvb (decide_eq_true (show E ≥ 2 by omega)) ?_
  iterate 2 refine okv ?_
  refine okl ?_
  refine okvb (decide_eq_true (show E≤11 by omega)) ?_
  iterate 3 refine okv ?_
  refine okl ?_
  refine okvb (decide_eq_false (show ¬ F ≥ 1 by omega)) ?_
  iterate 2 refine okv ?_
  iterate 3 refine okk ?_
  iterate 2 refine okv ?_
  exact ok_nil
 replace hS:=SymF.fc hS hF [] []
 replace hG:=hF.gx
 clear hF
 refine wp_ret ?_
 exact sym_end hS hK (.bool false) [] [] (by kernel_rfl) (by kernel_rfl) ⟨rfl,hS.fr⟩
theorem rfo_3 (w:World) (E F:Int) (h0:E ≥ 2) (h1:E≤11) (h2:F ≥ 1) (h3:F > 52)  :
  Calls Tryz.prog 16 #[.agg #[.int .i64 E,.int .i64 F]] w fun en w'=>en = .returned (.bool false)∧Below w.heap.size w w':=by
 refine calls_sym Tryz.func16 rfl (by kernel_rfl) fun T hK=>?_
 replace hK:Kn T _ [(0,.agg #[.int .i64 E,.int .i64 F])]:=hK
 have hS:=Fb.begin w
 have hG:GsAt [] w:=trivial
 refine wq hS hG hK (fun p1=>[.n 1 #[.int .i64 E,.int .i64 F] 24,.v 2 (.bool false)]) (fun p1=>[(1,pT (p1 0).N 0),(2,.bool false)]) (fun p1=>?_) (fun p1 W1 T hF hK=>?_)
 ·refine okn ?_
  refine okv ?_
  exact ok_nil
 replace hS:=SymF.fc hS hF [1000] [⟨(p1 0).N,#[.int .i64 E,.int .i64 F],24,true⟩]
 replace hG:=hF.gx
 clear hF
 refine wq hS hG hK (fun p2=>[.v 3 (pT (p1 0).N 0),.l 4 (.int .i64 E) 0 0,.v 5 (.bool true),.v 6 (.bool true),.v 7 (pT (p1 0).N 0),.l 8 (.int .i64 E) 0 0,.v 9 (.bool true),.v 10 (.bool true),.v 11 (.bool true),.v 12 (pT (p1 0).N 1),.l 13 (.int .i64 F) 0 1,.v 14 (.bool true),.v 15 (.bool true),.v 16 (.bool true),.v 17 (pT (p1 0).N 1),.l 18 (.int .i64 F) 0 1,.v 19 (.bool false),.v 20 (.bool false),.v 2 (.bool false)]) (fun p2=>[(2,.bool false)]) (fun p2=>?_) (fun p2 W2 T hF hK=>?_)
 ·refine okv ?_
  refine okl ?_
  refine okvb (decide_eq_true (show E ≥ 2 by omega)) ?_
  iterate 2 refine okv ?_
  refine okl ?_
  refine okvb (decide_eq_true (show E≤11 by omega)) ?_
  iterate 3 refine okv ?_
  refine okl ?_
  refine okvb (decide_eq_true (show F ≥ 1 by omega)) ?_
  iterate 3 refine okv ?_
  refine okl ?_
  refine okvb (decide_eq_false (show ¬ F≤52 by omega)) ?_
  iterate 2 refine okv ?_
  exact ok_nil
 replace hS:=SymF.fc hS hF [] []
 replace hG:=hF.gx
 clear hF
 refine wp_ret ?_
 exact sym_end hS hK (.bool false) [] [] (by kernel_rfl) (by kernel_rfl) ⟨rfl,hS.fr⟩
theorem rfo_4 (w:World) (E F:Int) (h0:E ≥ 2) (h1:E≤11) (h2:F ≥ 1) (h3:F≤52)  :
  Calls Tryz.prog 16 #[.agg #[.int .i64 E,.int .i64 F]] w fun en w'=>en = .returned (.bool true)∧Below w.heap.size w w':=by
 refine calls_sym Tryz.func16 rfl (by kernel_rfl) fun T hK=>?_
 replace hK:Kn T _ [(0,.agg #[.int .i64 E,.int .i64 F])]:=hK
 have hS:=Fb.begin w
 have hG:GsAt [] w:=trivial
 refine wq hS hG hK (fun p1=>[.n 1 #[.int .i64 E,.int .i64 F] 24,.v 2 (.bool false)]) (fun p1=>[(1,pT (p1 0).N 0),(2,.bool false)]) (fun p1=>?_) (fun p1 W1 T hF hK=>?_)
 ·refine okn ?_
  refine okv ?_
  exact ok_nil
 replace hS:=SymF.fc hS hF [1000] [⟨(p1 0).N,#[.int .i64 E,.int .i64 F],24,true⟩]
 replace hG:=hF.gx
 clear hF
 refine wq hS hG hK (fun p2=>[.v 3 (pT (p1 0).N 0),.l 4 (.int .i64 E) 0 0,.v 5 (.bool true),.v 6 (.bool true),.v 7 (pT (p1 0).N 0),.l 8 (.int .i64 E) 0 0,.v 9 (.bool true),.v 10 (.bool true),.v 11 (.bool true),.v 12 (pT (p1 0).N 1),.l 13 (.int .i64 F) 0 1,.v 14 (.bool true),.v 15 (.bool true),.v 16 (.bool true),.v 17 (pT (p1 0).N 1),.l 18 (.int .i64 F) 0 1,.v 19 (.bool true),.v 20 (.bool true),.v 2 (.bool true)]) (fun p2=>[(2,.bool true)]) (fun p2=>?_) (fun p2 W2 T hF hK=>?_)
 ·refine okv ?_
  refine okl ?_
  refine okvb (decide_eq_true (show E ≥ 2 by omega)) ?_
  iterate 2 refine okv ?_
  refine okl ?_
  refine okvb (decide_eq_true (show E≤11 by omega)) ?_
  iterate 3 refine okv ?_
  refine okl ?_
  refine okvb (decide_eq_true (show F ≥ 1 by omega)) ?_
  iterate 3 refine okv ?_
  refine okl ?_
  refine okvb (decide_eq_true (show F≤52 by omega)) ?_
  iterate 2 refine okv ?_
  exact ok_nil
 replace hS:=SymF.fc hS hF [] []
 replace hG:=hF.gx
 clear hF
 refine wp_ret ?_
 exact sym_end hS hK (.bool true) [] [] (by kernel_rfl) (by kernel_rfl) ⟨rfl,hS.fr⟩
theorem rform_any (E F:Int) (W:World):Calls Tryz.prog 16 #[.agg #[.int .i64 E,.int .i64 F]] W fun en w'=>en = .returned (.bool (decide (2≤E∧E≤11∧1≤F∧F≤52)))∧Below W.heap.size W w':=by
 by_cases h0:E ≥ 2
 ·by_cases h1:E≤11
  ·by_cases h2:F ≥ 1
   ·by_cases h3:F≤52
    ·rw [decide_eq_true ⟨h0,h1,h2,h3⟩]; exact rfo_4 W E F h0 h1 h2 h3
    ·rw [decide_eq_false (by omega)]; exact rfo_3 W E F h0 h1 h2 (by omega)
   ·rw [decide_eq_false (by omega)]; exact rfo_2 W E F h0 h1 (by omega)
  ·rw [decide_eq_false (by omega)]; exact rfo_1 W E F h0 (by omega)
 ·rw [decide_eq_false (by omega)]; exact rfo_0 W E F (by omega)
theorem ren_ok (w:World) (E F q:Nat) (HF:Hid (∀ W:World,Calls Tryz.prog 16 #[.agg #[.int .i64 (E:Int),.int .i64 (F:Int)]] W fun e W'=>e = .returned (.bool true)∧Below W.heap.size W W')) (hF:F≤52) (hq:q≤1000) (HA0:Hid (∀ (W:World) (j:Nat),j < q→Calls Tryz.prog 17 #[.int .i64 ((j:Nat):Int),.int .i64 ((F+1:Nat):Int)] W fun e W'=>e = .returned (.bool false)∧Below W.heap.size W W')) (HA1:Hid (∀ W:World,Calls Tryz.prog 17 #[.int .i64 ((q:Nat):Int),.int .i64 ((F+1:Nat):Int)] W fun e W'=>e = .returned (.bool true)∧Below W.heap.size W W'))  :
  Calls Tryz.prog 10 #[.agg #[.int .i64 (E:Int),.int .i64 (F:Int)]] w fun en w'=>en = .returned (.tuple #[.int .i64 (((q - 0:Nat):Int)+1),.int .i64 0])∧Below w.heap.size w w':=by
 obtain ⟨k,hkz⟩:∃ k,k = q:=⟨_,rfl⟩
 have hkn:k≤q:=by omega
 refine calls_sym Tryz.func10 rfl (by kernel_rfl) fun T hK=>?_
 replace hK:Kn T _ [(0,.agg #[.int .i64 (E:Int),.int .i64 (F:Int)])]:=hK
 have hS:=Fb.begin w
 have hG:GsAt [] w:=trivial
 refine wq hS hG hK (fun p1=>[.n 1 #[.int .i64 (E:Int),.int .i64 (F:Int)] 24,.v 2 (.int .i64 0),.v 3 (.int .i64 0)]) (fun p1=>[(1,pT (p1 0).N 0),(2,.int .i64 0),(3,.int .i64 0)]) (fun p1=>?_) (fun p1 W1 T hF hJ=>?_)
 ·refine okn ?_
  iterate 2 refine okv ?_
  exact ok_nil
 replace hS:=SymF.fc hS hF [1000] [⟨(p1 0).N,#[.int .i64 (E:Int),.int .i64 (F:Int)],24,true⟩]
 replace hG:=hF.gx
 clear hF hK
 have hK:=hJ
 clear hJ
 refine wq hS hG hK (fun p2=>[.l 6 (.agg #[.int .i64 (E:Int),.int .i64 (F:Int)]) 0 0,.c (some 7) (cV (.bool true)),.v 4 (.bool true)]) (fun p2=>[(1,pT (p1 0).N 0),(2,.int .i64 0),(3,.int .i64 0),(4,.bool true)]) (fun p2=>?_) (fun p2 W2 T hF hJ=>?_)
 ·refine okl ?_
  refine okc (fun W cx=>as_v (unhide HF _)) ?_
  refine okv ?_
  exact ok_nil
 replace hS:=SymF.fd hS hF
 replace hG:=hF.gx
 clear hF hK
 have hK:=hJ
 clear hJ
 refine wp_seq ?_
 refine wq hS hG hK (fun p3=>[.v 8 (.bool true),.v 9 (.bool false)]) (fun p3=>[(1,pT (p1 0).N 0),(2,.int .i64 0),(3,.int .i64 0),(9,.bool false)]) (fun p3=>?_) (fun p3 W3 T hF hJ=>?_)
 ·iterate 2 refine okv ?_
  exact ok_nil
 replace hS:=SymF.fd hS hF
 replace hG:=hF.gx
 clear hF hK
 have hK:=hJ
 clear hJ
 refine wp_cond_false (hK.ew 9) (wp_skip (then_n ?_))
 refine wq hS hG hK (fun p4=>[.v 5 (.int .i64 1)]) (fun p4=>[(1,pT (p1 0).N 0),(2,.int .i64 0),(3,.int .i64 0),(5,.int .i64 1),(9,.bool false)]) (fun p4=>?_) (fun p4 W4 T hF hJ=>?_)
 ·refine okv ?_
  exact ok_nil
 replace hS:=SymF.fd hS hF
 replace hG:=hF.gx
 clear hF hK
 have hK:=hJ
 clear hJ
 have z4:=hS.fr.size
 refine wp_seq (wp_block ?_)
 replace hK:Kn T _ [(1,pT (p1 0).N 0),(5,.int .i64 1)]:=kn_out (ds:=[]) hK rfl rfl _ (by kernel_rfl) (by kernel_rfl)
 have h5:Value.int .i64 1 = .int .i64 (((q - k:Nat):Int)+1):=by rw [hkz,Nat.sub_self]; rfl
 rw [h5] at hK
 clear h5 hkz
 refine wp_loop_rounds (k+1) ?_
 clear z4
 induction k generalizing T W4 with
 | succ k ih=>
  have z4:=hS.fr.size
  refine rounds_s (wp_seq ?_)
  refine wq hS hG hK (fun p5=>[.v 10 (.int .i64 (((q - (k+1):Nat):Int)+1)),.v 11 (.int .i64 ((q - (k+1):Nat):Int)),.v 12 (pT (p1 0).N 1),.l 13 (.int .i64 (F:Int)) 0 1,.v 14 (.int .i64 ((F+1:Nat):Int)),.c (some 15) (cV (.bool false)),.v 16 (.bool true)]) (fun p5=>[(1,pT (p1 0).N 0),(5,.int .i64 (((q - (k+1):Nat):Int)+1)),(16,.bool true)]) (fun p5=>?_) (fun p5 W5 T hF hJ=>?_)
  ·refine okv ?_
   refine okvi ((show IntKind.i64.wrap ((((q - (k+1):Nat):Int)+1) - 1) = ((q - (k+1):Nat):Int) by rw [wr64 (by omega) (by omega)]; omega)) ?_
   refine okv ?_
   refine okl ?_
   refine okvi ((show IntKind.i64.wrap ((F:Int)+1) = ((F+1:Nat):Int) by rw [wr64 (by omega) (by omega)]; omega)) ?_
   refine okc (fun W cx=>as_v (unhide HA0 _ (q - (k+1)) (by omega))) ?_
   refine okv ?_
   exact ok_nil
  replace hS:=SymF.fc hS hF [0] [⟨(p1 0).N,#[.int .i64 (E:Int),.int .i64 (F:Int)],24,true⟩]
  replace hG:=hF.gx
  clear hF hK
  have hK:=hJ
  clear hJ
  refine wp_cond_true (hK.ew 16) (wp_skip ?_)
  refine then_n (wp_block ?_)
  refine wg hS hG hK (fun p6=>[.v 17 (.int .i64 (((q - (k+1):Nat):Int)+1)),.v 18 (.int .i64 (((q - k:Nat):Int)+1)),.v 5 (.int .i64 (((q - k:Nat):Int)+1))]) (fun p6=>[(1,pT (p1 0).N 0),(5,.int .i64 (((q - k:Nat):Int)+1)),(16,.bool true)]) (fun p6=>?_) (fun p6 W6 T hF hJ=>?_)
  ·refine okv ?_
   refine okvi ((show IntKind.i64.wrap ((((q - (k+1):Nat):Int)+1)+1) = (((q - k:Nat):Int)+1) by rw [wr64 (by omega) (by omega)]; omega)) ?_
   refine okv ?_
   exact ok_nil
  replace hS:=SymF.fd hS hF
  replace hG:=hF.gx
  clear hF hK
  have hK:=hJ
  clear hJ
  refine inb_n (then_n ?_)
  replace hK:Kn T _ [(1,pT (p1 0).N 0),(5,.int .i64 (((q - k:Nat):Int)+1))]:=kn_out (ds:=[]) hK rfl rfl _ (by kernel_rfl) (by kernel_rfl)
  refine ih ?_ _ _ ?_ ?_ ?_ <;> first|assumption|omega
 | zero=>
  have z4:=hS.fr.size
  refine rounds_s (wp_seq ?_)
  refine wq hS hG hK (fun p7=>[.v 10 (.int .i64 (((q - 0:Nat):Int)+1)),.v 11 (.int .i64 ((q - 0:Nat):Int)),.v 12 (pT (p1 0).N 1),.l 13 (.int .i64 (F:Int)) 0 1,.v 14 (.int .i64 ((F+1:Nat):Int)),.c (some 15) (cV (.bool true)),.v 16 (.bool false)]) (fun p7=>[(1,pT (p1 0).N 0),(5,.int .i64 (((q - 0:Nat):Int)+1)),(16,.bool false)]) (fun p7=>?_) (fun p7 W7 T hF hJ=>?_)
  ·refine okv ?_
   refine okvi ((show IntKind.i64.wrap ((((q - 0:Nat):Int)+1) - 1) = ((q - 0:Nat):Int) by rw [wr64 (by omega) (by omega)]; omega)) ?_
   refine okv ?_
   refine okl ?_
   refine okvi ((show IntKind.i64.wrap ((F:Int)+1) = ((F+1:Nat):Int) by rw [wr64 (by omega) (by omega)]; omega)) ?_
   refine okc (fun W cx=>as_v (unhide HA1 _)) ?_
   refine okv ?_
   exact ok_nil
  replace hS:=SymF.fc hS hF [0] [⟨(p1 0).N,#[.int .i64 (E:Int),.int .i64 (F:Int)],24,true⟩]
  replace hG:=hF.gx
  clear hF hK
  have hK:=hJ
  clear hJ
  refine wp_cond_false (hK.ew 16) (wp_exit ?_)
  refine then_x (then_x ?_)
  refine inb_x (then_n ?_)
  refine wq hS hG hK (fun p8=>[.v 19 (.int .i64 (((q - 0:Nat):Int)+1)),.v 2 (.int .i64 (((q - 0:Nat):Int)+1)),.v 3 (.int .i64 0)]) (fun p8=>[(2,.int .i64 (((q - 0:Nat):Int)+1)),(3,.int .i64 0),(5,.int .i64 (((q - 0:Nat):Int)+1)),(16,.bool false)]) (fun p8=>?_) (fun p8 W8 T hF hJ=>?_)
  ·iterate 3 refine okv ?_
   exact ok_nil
  replace hS:=SymF.fc hS hF [] []
  replace hG:=hF.gx
  clear hF hK
  have hK:=hJ
  clear hJ
  refine wp_ret ?_
  exact sym_end hS hK (.tuple #[.int .i64 (((q - 0:Nat):Int)+1),.int .i64 0]) [] [] (by kernel_rfl) (by kernel_rfl) ⟨rfl,hS.fr⟩
theorem rsu_ok (w:World) (E F q:Nat) (HF:Hid (∀ W:World,Calls Tryz.prog 16 #[.agg #[.int .i64 (E:Int),.int .i64 (F:Int)]] W fun e W'=>e = .returned (.bool true)∧Below W.heap.size W W')) (_hF:F≤52) (hq:q≤1000) (HA0:Hid (∀ (W:World) (j:Nat),j < q→Calls Tryz.prog 17 #[.int .i64 ((j+1:Nat):Int),.int .i64 (F:Int)] W fun e W'=>e = .returned (.bool false)∧Below W.heap.size W W')) (HA1:Hid (∀ W:World,Calls Tryz.prog 17 #[.int .i64 ((q+1:Nat):Int),.int .i64 (F:Int)] W fun e W'=>e = .returned (.bool true)∧Below W.heap.size W W'))  :
  Calls Tryz.prog 11 #[.agg #[.int .i64 (E:Int),.int .i64 (F:Int)]] w fun en w'=>en = .returned (.tuple #[.int .i64 ((q - 0:Nat):Int),.int .i64 0])∧Below w.heap.size w w':=by
 obtain ⟨k,hkz⟩:∃ k,k = q:=⟨_,rfl⟩
 have hkn:k≤q:=by omega
 refine calls_sym Tryz.func11 rfl (by kernel_rfl) fun T hK=>?_
 replace hK:Kn T _ [(0,.agg #[.int .i64 (E:Int),.int .i64 (F:Int)])]:=hK
 have hS:=Fb.begin w
 have hG:GsAt [] w:=trivial
 refine wq hS hG hK (fun p1=>[.n 1 #[.int .i64 (E:Int),.int .i64 (F:Int)] 24,.v 2 (.int .i64 0),.v 3 (.int .i64 0)]) (fun p1=>[(1,pT (p1 0).N 0),(2,.int .i64 0),(3,.int .i64 0)]) (fun p1=>?_) (fun p1 W1 T hF hJ=>?_)
 ·refine okn ?_
  iterate 2 refine okv ?_
  exact ok_nil
 replace hS:=SymF.fc hS hF [1000] [⟨(p1 0).N,#[.int .i64 (E:Int),.int .i64 (F:Int)],24,true⟩]
 replace hG:=hF.gx
 clear hF hK
 have hK:=hJ
 clear hJ
 refine wq hS hG hK (fun p2=>[.l 6 (.agg #[.int .i64 (E:Int),.int .i64 (F:Int)]) 0 0,.c (some 7) (cV (.bool true)),.v 4 (.bool true)]) (fun p2=>[(1,pT (p1 0).N 0),(2,.int .i64 0),(3,.int .i64 0),(4,.bool true)]) (fun p2=>?_) (fun p2 W2 T hF hJ=>?_)
 ·refine okl ?_
  refine okc (fun W cx=>as_v (unhide HF _)) ?_
  refine okv ?_
  exact ok_nil
 replace hS:=SymF.fd hS hF
 replace hG:=hF.gx
 clear hF hK
 have hK:=hJ
 clear hJ
 refine wp_seq ?_
 refine wq hS hG hK (fun p3=>[.v 8 (.bool true),.v 9 (.bool false)]) (fun p3=>[(1,pT (p1 0).N 0),(2,.int .i64 0),(3,.int .i64 0),(9,.bool false)]) (fun p3=>?_) (fun p3 W3 T hF hJ=>?_)
 ·iterate 2 refine okv ?_
  exact ok_nil
 replace hS:=SymF.fd hS hF
 replace hG:=hF.gx
 clear hF hK
 have hK:=hJ
 clear hJ
 refine wp_cond_false (hK.ew 9) (wp_skip (then_n ?_))
 refine wq hS hG hK (fun p4=>[.v 5 (.int .i64 0)]) (fun p4=>[(1,pT (p1 0).N 0),(2,.int .i64 0),(3,.int .i64 0),(5,.int .i64 0),(9,.bool false)]) (fun p4=>?_) (fun p4 W4 T hF hJ=>?_)
 ·refine okv ?_
  exact ok_nil
 replace hS:=SymF.fd hS hF
 replace hG:=hF.gx
 clear hF hK
 have hK:=hJ
 clear hJ
 have z4:=hS.fr.size
 refine wp_seq (wp_block ?_)
 replace hK:Kn T _ [(1,pT (p1 0).N 0),(5,.int .i64 0)]:=kn_out (ds:=[]) hK rfl rfl _ (by kernel_rfl) (by kernel_rfl)
 have h5:Value.int .i64 0 = .int .i64 ((q - k:Nat):Int):=by rw [hkz,Nat.sub_self]; rfl
 rw [h5] at hK
 clear h5 hkz
 refine wp_loop_rounds (k+1) ?_
 clear z4
 induction k generalizing T W4 with
 | succ k ih=>
  have z4:=hS.fr.size
  refine rounds_s (wp_seq ?_)
  refine wq hS hG hK (fun p5=>[.v 10 (.int .i64 ((q - (k+1):Nat):Int)),.v 11 (.int .i64 ((q - (k+1)+1:Nat):Int)),.v 12 (pT (p1 0).N 1),.l 13 (.int .i64 (F:Int)) 0 1,.c (some 14) (cV (.bool false)),.v 15 (.bool true)]) (fun p5=>[(1,pT (p1 0).N 0),(5,.int .i64 ((q - (k+1):Nat):Int)),(15,.bool true)]) (fun p5=>?_) (fun p5 W5 T hF hJ=>?_)
  ·refine okv ?_
   refine okvi ((show IntKind.i64.wrap (((q - (k+1):Nat):Int)+1) = ((q - (k+1)+1:Nat):Int) by rw [wr64 (by omega) (by omega)]; omega)) ?_
   refine okv ?_
   refine okl ?_
   refine okc (fun W cx=>as_v (unhide HA0 _ (q - (k+1)) (by omega))) ?_
   refine okv ?_
   exact ok_nil
  replace hS:=SymF.fc hS hF [0] [⟨(p1 0).N,#[.int .i64 (E:Int),.int .i64 (F:Int)],24,true⟩]
  replace hG:=hF.gx
  clear hF hK
  have hK:=hJ
  clear hJ
  refine wp_cond_true (hK.ew 15) (wp_skip ?_)
  refine then_n (wp_block ?_)
  refine wg hS hG hK (fun p6=>[.v 16 (.int .i64 ((q - (k+1):Nat):Int)),.v 17 (.int .i64 ((q - k:Nat):Int)),.v 5 (.int .i64 ((q - k:Nat):Int))]) (fun p6=>[(1,pT (p1 0).N 0),(5,.int .i64 ((q - k:Nat):Int)),(15,.bool true)]) (fun p6=>?_) (fun p6 W6 T hF hJ=>?_)
  ·refine okv ?_
   refine okvi ((show IntKind.i64.wrap (((q - (k+1):Nat):Int)+1) = ((q - k:Nat):Int) by rw [wr64 (by omega) (by omega)]; omega)) ?_
   refine okv ?_
   exact ok_nil
  replace hS:=SymF.fd hS hF
  replace hG:=hF.gx
  clear hF hK
  have hK:=hJ
  clear hJ
  refine inb_n (then_n ?_)
  replace hK:Kn T _ [(1,pT (p1 0).N 0),(5,.int .i64 ((q - k:Nat):Int))]:=kn_out (ds:=[]) hK rfl rfl _ (by kernel_rfl) (by kernel_rfl)
  refine ih ?_ _ _ ?_ ?_ ?_ <;> first|assumption|omega
 | zero=>
  have z4:=hS.fr.size
  refine rounds_s (wp_seq ?_)
  refine wq hS hG hK (fun p7=>[.v 10 (.int .i64 ((q - 0:Nat):Int)),.v 11 (.int .i64 ((q - 0+1:Nat):Int)),.v 12 (pT (p1 0).N 1),.l 13 (.int .i64 (F:Int)) 0 1,.c (some 14) (cV (.bool true)),.v 15 (.bool false)]) (fun p7=>[(1,pT (p1 0).N 0),(5,.int .i64 ((q - 0:Nat):Int)),(15,.bool false)]) (fun p7=>?_) (fun p7 W7 T hF hJ=>?_)
  ·refine okv ?_
   refine okvi ((show IntKind.i64.wrap (((q - 0:Nat):Int)+1) = ((q - 0+1:Nat):Int) by rw [wr64 (by omega) (by omega)]; omega)) ?_
   refine okv ?_
   refine okl ?_
   refine okc (fun W cx=>as_v (unhide HA1 _)) ?_
   refine okv ?_
   exact ok_nil
  replace hS:=SymF.fc hS hF [0] [⟨(p1 0).N,#[.int .i64 (E:Int),.int .i64 (F:Int)],24,true⟩]
  replace hG:=hF.gx
  clear hF hK
  have hK:=hJ
  clear hJ
  refine wp_cond_false (hK.ew 15) (wp_exit ?_)
  refine then_x (then_x ?_)
  refine inb_x (then_n ?_)
  refine wq hS hG hK (fun p8=>[.v 18 (.int .i64 ((q - 0:Nat):Int)),.v 2 (.int .i64 ((q - 0:Nat):Int)),.v 3 (.int .i64 0)]) (fun p8=>[(2,.int .i64 ((q - 0:Nat):Int)),(3,.int .i64 0),(5,.int .i64 ((q - 0:Nat):Int)),(15,.bool false)]) (fun p8=>?_) (fun p8 W8 T hF hJ=>?_)
  ·iterate 3 refine okv ?_
   exact ok_nil
  replace hS:=SymF.fc hS hF [] []
  replace hG:=hF.gx
  clear hF hK
  have hK:=hJ
  clear hJ
  refine wp_ret ?_
  exact sym_end hS hK (.tuple #[.int .i64 ((q - 0:Nat):Int),.int .i64 0]) [] [] (by kernel_rfl) (by kernel_rfl) ⟨rfl,hS.fr⟩
theorem dc_eql {r:Nat} (g:Bool) (s:ByteArray) (x:Int):script Tryz.prog r (binOp .eql 30 (.agg #[.bool g,.string s,.int .i64 x]) (.agg #[.bool g,.string s,.int .i64 x])) [] = some (.bool true,[]):=by
 simp only [binOp]
 rw [script_bind Tryz.prog r (Op.equal _ _ _) _ [] true (dbe_eq g s x)]
 rfl
theorem dalive_is (w:World)  (ht:Tb w) (htp:Tpw w) (H1:Hid (∀ W:World,Tb W→Tpw W→Calls Tryz.prog 12 #[.agg #[.int .i64 5,.int .i64 10],.int .u64 11878] W fun e W'=>e = .returned (.tuple #[.agg #[.bool false,.string ⟨#[57,57,57,55,53,53,56,53,57,51,55,53]⟩,.int .i64 (-13)],.int .i64 0])∧Below W.heap.size W W')) (H2:Hid (∀ W:World,Tb W→Tpw W→Calls Tryz.prog 7 #[.agg #[.int .i64 5,.int .i64 10],.int .u64 11878,.int .i64 3,.int .u8 0] W fun e W'=>e = .returned (.tuple #[.agg #[.bool false,.string ⟨#[49]⟩,.int .i64 (-1)],.bool false,.int .i64 0])∧Below W.heap.size W W')) (H3:Hid (∀ W:World,Tb W→Tpw W→Calls Tryz.prog 6 #[.agg #[.int .i64 5,.int .i64 10],.int .u64 32769,.int .i64 3,.int .u8 4] W fun e W'=>e = .returned (.tuple #[.agg #[.bool true,.string ⟨#[49]⟩,.int .i64 (-3)],.bool false,.int .i64 0])∧Below W.heap.size W W')) (H4:Hid (∀ W:World,Calls Tryz.prog 8 #[.agg #[.int .i64 5,.int .i64 10]] W fun e W'=>e = .returned (.tuple #[.int .i64 5,.int .i64 0])∧Below W.heap.size W W')) (H5:Hid (∀ W:World,Calls Tryz.prog 9 #[.agg #[.int .i64 5,.int .i64 10]] W fun e W'=>e = .returned (.tuple #[.int .i64 3,.int .i64 0])∧Below W.heap.size W W')) :
  Calls Tryz.prog 4 #[] w fun en w'=>en = .returned (.bool true)∧Below w.heap.size w w':=by
 refine calls_sym Tryz.func4 rfl (by kernel_rfl) fun T hK=>?_
 replace hK:Kn T _ []:=hK
 have hS:=Fb.begin w
 have hG:GsAt [] w:=trivial
 refine wq hS hG hK (fun p1=>[.v 0 (.bool false)]) (fun p1=>[(0,.bool false)]) (fun p1=>?_) (fun p1 W1 T hF hK=>?_)
 ·refine okv ?_
  exact ok_nil
 replace hS:=SymF.fc hS hF [] []
 replace hG:=hF.gx
 clear hF
 refine wq hS hG hK (fun p2=>[.v 14 (.agg #[.int .i64 5,.int .i64 10]),.n 1 #[.int .i64 0,.int .i64 0] 24,.p 1001 0 [.int .i64 5,.int .i64 10]]) (fun p2=>[(0,.bool false),(1,pT (p2 1).N 0)]) (fun p2=>?_) (fun p2 W2 T hF hK=>?_)
 ·refine okv ?_
  refine okn ?_
  refine okp ?_
  exact ok_nil
 replace hS:=SymF.fc hS hF [1001] [⟨(p2 1).N,#[.int .i64 5,.int .i64 10],24,true⟩]
 replace hG:=hF.gx
 clear hF
 refine wq hS hG hK (fun p3=>[.l 16 (.agg #[.int .i64 5,.int .i64 10]) 0 0,.c (some 17) (cV (.tuple #[.agg #[.bool false,.string ⟨#[57,57,57,55,53,53,56,53,57,51,55,53]⟩,.int .i64 (-13)],.int .i64 0])),.v 15 (.tuple #[.agg #[.bool false,.string ⟨#[57,57,57,55,53,53,56,53,57,51,55,53]⟩,.int .i64 (-13)],.int .i64 0]),.v 18 (.agg #[.bool false,.string ⟨#[57,57,57,55,53,53,56,53,57,51,55,53]⟩,.int .i64 (-13)]),.v 19 (.int .i64 0),.n 2 #[.bool false,.string ⟨#[]⟩,.int .i64 0] 30,.p 1005 0 [.bool false,.string ⟨#[57,57,57,55,53,53,56,53,57,51,55,53]⟩,.int .i64 (-13)],.v 3 (.int .i64 0)]) (fun p3=>[(0,.bool false),(1,pT (p2 1).N 0),(2,pT (p3 5).N 0),(3,.int .i64 0)]) (fun p3=>?_) (fun p3 W3 T hF hK=>?_)
 ·refine okl ?_
  refine okc (fun W cx=>as_v (unhide H1 _ (ht.kept cx.fr) (htp.kept cx.fr))) ?_
  iterate 3 refine okv ?_
  refine okn ?_
  refine okp ?_
  refine okv ?_
  exact ok_nil
 replace hS:=SymF.fc hS hF [0,1005] [⟨(p2 1).N,#[.int .i64 5,.int .i64 10],24,true⟩,⟨(p3 5).N,#[.bool false,.string ⟨#[57,57,57,55,53,53,56,53,57,51,55,53]⟩,.int .i64 (-13)],30,true⟩]
 replace hG:=hF.gx
 clear hF
 refine wq hS hG hK (fun p4=>[.l 21 (.agg #[.int .i64 5,.int .i64 10]) 0 0,.c (some 22) (cV (.tuple #[.agg #[.bool false,.string ⟨#[49]⟩,.int .i64 (-1)],.bool false,.int .i64 0])),.v 20 (.tuple #[.agg #[.bool false,.string ⟨#[49]⟩,.int .i64 (-1)],.bool false,.int .i64 0]),.v 23 (.agg #[.bool false,.string ⟨#[49]⟩,.int .i64 (-1)]),.v 24 (.bool false),.v 25 (.int .i64 0),.n 4 #[.bool false,.string ⟨#[]⟩,.int .i64 0] 30,.p 1006 0 [.bool false,.string ⟨#[49]⟩,.int .i64 (-1)],.v 5 (.bool false),.v 6 (.int .i64 0)]) (fun p4=>[(0,.bool false),(1,pT (p2 1).N 0),(2,pT (p3 5).N 0),(3,.int .i64 0),(4,pT (p4 6).N 0),(5,.bool false),(6,.int .i64 0)]) (fun p4=>?_) (fun p4 W4 T hF hK=>?_)
 ·refine okl ?_
  refine okc (fun W cx=>as_v (unhide H2 _ (ht.kept cx.fr) (htp.kept cx.fr))) ?_
  iterate 4 refine okv ?_
  refine okn ?_
  refine okp ?_
  iterate 2 refine okv ?_
  exact ok_nil
 replace hS:=SymF.fc hS hF [0,1,1006] [⟨(p2 1).N,#[.int .i64 5,.int .i64 10],24,true⟩,⟨(p3 5).N,#[.bool false,.string ⟨#[57,57,57,55,53,53,56,53,57,51,55,53]⟩,.int .i64 (-13)],30,true⟩,⟨(p4 6).N,#[.bool false,.string ⟨#[49]⟩,.int .i64 (-1)],30,true⟩]
 replace hG:=hF.gx
 clear hF
 refine wq hS hG hK (fun p5=>[.l 27 (.agg #[.int .i64 5,.int .i64 10]) 0 0,.c (some 28) (cV (.tuple #[.agg #[.bool true,.string ⟨#[49]⟩,.int .i64 (-3)],.bool false,.int .i64 0])),.v 26 (.tuple #[.agg #[.bool true,.string ⟨#[49]⟩,.int .i64 (-3)],.bool false,.int .i64 0]),.v 29 (.agg #[.bool true,.string ⟨#[49]⟩,.int .i64 (-3)]),.v 30 (.bool false),.v 31 (.int .i64 0),.n 7 #[.bool false,.string ⟨#[]⟩,.int .i64 0] 30,.p 1006 0 [.bool true,.string ⟨#[49]⟩,.int .i64 (-3)],.v 8 (.bool false),.v 9 (.int .i64 0)]) (fun p5=>[(0,.bool false),(1,pT (p2 1).N 0),(2,pT (p3 5).N 0),(3,.int .i64 0),(4,pT (p4 6).N 0),(5,.bool false),(6,.int .i64 0),(7,pT (p5 6).N 0),(8,.bool false),(9,.int .i64 0)]) (fun p5=>?_) (fun p5 W5 T hF hK=>?_)
 ·refine okl ?_
  refine okc (fun W cx=>as_v (unhide H3 _ (ht.kept cx.fr) (htp.kept cx.fr))) ?_
  iterate 4 refine okv ?_
  refine okn ?_
  refine okp ?_
  iterate 2 refine okv ?_
  exact ok_nil
 replace hS:=SymF.fc hS hF [0,1,2,1006] [⟨(p2 1).N,#[.int .i64 5,.int .i64 10],24,true⟩,⟨(p3 5).N,#[.bool false,.string ⟨#[57,57,57,55,53,53,56,53,57,51,55,53]⟩,.int .i64 (-13)],30,true⟩,⟨(p4 6).N,#[.bool false,.string ⟨#[49]⟩,.int .i64 (-1)],30,true⟩,⟨(p5 6).N,#[.bool true,.string ⟨#[49]⟩,.int .i64 (-3)],30,true⟩]
 replace hG:=hF.gx
 clear hF
 refine wq hS hG hK (fun p6=>[.l 33 (.agg #[.int .i64 5,.int .i64 10]) 0 0,.c (some 34) (cV (.tuple #[.int .i64 5,.int .i64 0])),.v 32 (.tuple #[.int .i64 5,.int .i64 0]),.v 35 (.int .i64 5),.v 36 (.int .i64 0),.v 10 (.int .i64 5),.v 11 (.int .i64 0)]) (fun p6=>[(0,.bool false),(1,pT (p2 1).N 0),(2,pT (p3 5).N 0),(3,.int .i64 0),(4,pT (p4 6).N 0),(5,.bool false),(6,.int .i64 0),(7,pT (p5 6).N 0),(8,.bool false),(9,.int .i64 0),(10,.int .i64 5),(11,.int .i64 0)]) (fun p6=>?_) (fun p6 W6 T hF hK=>?_)
 ·refine okl ?_
  refine okc (fun W cx=>as_v (unhide H4 _)) ?_
  iterate 5 refine okv ?_
  exact ok_nil
 obtain ⟨hS,hG⟩:=SymF.fg hS hF
 clear hF
 refine wq hS hG hK (fun p7=>[.l 38 (.agg #[.int .i64 5,.int .i64 10]) 0 0,.c (some 39) (cV (.tuple #[.int .i64 3,.int .i64 0])),.v 37 (.tuple #[.int .i64 3,.int .i64 0]),.v 40 (.int .i64 3),.v 41 (.int .i64 0),.v 12 (.int .i64 3),.v 13 (.int .i64 0)]) (fun p7=>[(0,.bool false),(2,pT (p3 5).N 0),(3,.int .i64 0),(4,pT (p4 6).N 0),(5,.bool false),(6,.int .i64 0),(7,pT (p5 6).N 0),(8,.bool false),(9,.int .i64 0),(10,.int .i64 5),(11,.int .i64 0),(12,.int .i64 3),(13,.int .i64 0)]) (fun p7=>?_) (fun p7 W7 T hF hK=>?_)
 ·refine okl ?_
  refine okc (fun W cx=>as_v (unhide H5 _)) ?_
  iterate 5 refine okv ?_
  exact ok_nil
 replace hS:=SymF.fc hS hF [1,2,3] [⟨(p3 5).N,#[.bool false,.string ⟨#[57,57,57,55,53,53,56,53,57,51,55,53]⟩,.int .i64 (-13)],30,true⟩,⟨(p4 6).N,#[.bool false,.string ⟨#[49]⟩,.int .i64 (-1)],30,true⟩,⟨(p5 6).N,#[.bool true,.string ⟨#[49]⟩,.int .i64 (-3)],30,true⟩]
 replace hG:=hF.gx
 clear hF
 refine wq hS hG hK (fun p8=>[.v 42 (.int .i64 0),.v 43 (.bool true),.v 44 (.bool true),.v 45 (.int .i64 0),.v 46 (.bool true),.v 47 (.bool true),.v 48 (.bool true),.v 49 (.int .i64 0),.v 50 (.bool true),.v 51 (.bool true),.v 52 (.bool true),.v 53 (.int .i64 0),.v 54 (.bool true),.v 55 (.bool true),.v 56 (.bool true),.v 57 (.int .i64 0),.v 58 (.bool true),.v 59 (.bool true),.v 60 (.bool true),.l 61 (.agg #[.bool false,.string ⟨#[57,57,57,55,53,53,56,53,57,51,55,53]⟩,.int .i64 (-13)]) 0 0,.v 62 (.agg #[.bool false,.string { data:=#[57,57,57,55,53,53,56,53,57,51,55,53] },.int .i64 (-13)]),.v 63 (.bool true),.v 64 (.bool true),.v 65 (.bool true),.l 66 (.agg #[.bool false,.string ⟨#[49]⟩,.int .i64 (-1)]) 1 0,.v 67 (.agg #[.bool false,.string { data:=#[49] },.int .i64 (-1)]),.v 68 (.bool true),.v 69 (.bool true),.v 70 (.bool true),.v 71 (.bool false),.v 72 (.bool true),.v 73 (.bool true),.v 74 (.bool true),.l 75 (.agg #[.bool true,.string ⟨#[49]⟩,.int .i64 (-3)]) 2 0,.v 76 (.agg #[.bool true,.string { data:=#[49] },.int .i64 (-3)]),.v 77 (.bool true),.v 78 (.bool true),.v 79 (.bool true),.v 80 (.bool false),.v 81 (.bool true),.v 82 (.bool true),.v 83 (.bool true),.v 84 (.int .i64 5),.v 85 (.bool true),.v 86 (.bool true),.v 87 (.bool true),.v 88 (.int .i64 3),.v 89 (.bool true),.v 90 (.bool true),.v 0 (.bool true)]) (fun p8=>[(0,.bool true)]) (fun p8=>?_) (fun p8 W8 T hF hK=>?_)
 ·iterate 19 refine okv ?_
  refine okl ?_
  refine okv ?_
  refine ok_vr (dc_eql (false) (⟨#[57,57,57,55,53,53,56,53,57,51,55,53]⟩) ((-13))) (by kernel_rfl) ?_
  iterate 2 refine okv ?_
  refine okl ?_
  refine okv ?_
  refine ok_vr (dc_eql (false) (⟨#[49]⟩) ((-1))) (by kernel_rfl) ?_
  iterate 6 refine okv ?_
  refine okl ?_
  refine okv ?_
  refine ok_vr (dc_eql (true) (⟨#[49]⟩) ((-3))) (by kernel_rfl) ?_
  iterate 14 refine okv ?_
  exact ok_nil
 replace hS:=SymF.fc hS hF [] []
 replace hG:=hF.gx
 clear hF
 refine wp_ret ?_
 exact sym_end hS hK (.bool true) [] [] (by kernel_rfl) (by kernel_rfl) ⟨rfl,hS.fr⟩
theorem dchf_is (w:World) (E F err:Int) (HV:Hid (∀ W:World,Calls Tryz.prog 18 #[.agg #[.int .i64 E,.int .i64 F],.int .u64 0] W fun e W'=>e = .returned (.tuple #[.agg #[.bool false,.slice none 0 0,.int .i64 0],.int .i64 err])∧Below W.heap.size W W')) :
  Calls Tryz.prog 15 #[.agg #[.int .i64 E,.int .i64 F]] w fun en w'=>en = .returned (.int .i64 err)∧Below w.heap.size w w':=by
 refine calls_sym Tryz.func15 rfl (by kernel_rfl) fun T hK=>?_
 replace hK:Kn T _ [(0,.agg #[.int .i64 E,.int .i64 F])]:=hK
 have hS:=Fb.begin w
 have hG:GsAt [] w:=trivial
 refine wq hS hG hK (fun p1=>[.n 1 #[.int .i64 E,.int .i64 F] 24,.v 2 (.int .i64 0)]) (fun p1=>[(1,pT (p1 0).N 0),(2,.int .i64 0)]) (fun p1=>?_) (fun p1 W1 T hF hK=>?_)
 ·refine okn ?_
  refine okv ?_
  exact ok_nil
 replace hS:=SymF.fc hS hF [1000] [⟨(p1 0).N,#[.int .i64 E,.int .i64 F],24,true⟩]
 replace hG:=hF.gx
 clear hF
 refine wq hS hG hK (fun p2=>[.l 6 (.agg #[.int .i64 E,.int .i64 F]) 0 0,.c (some 7) (cV (.tuple #[.agg #[.bool false,.slice none 0 0,.int .i64 0],.int .i64 err])),.v 5 (.tuple #[.agg #[.bool false,.slice none 0 0,.int .i64 0],.int .i64 err]),.v 8 (.agg #[.bool false,.slice none 0 0,.int .i64 0]),.v 9 (.int .i64 err),.n 3 #[.bool false,.slice none 0 0,.int .i64 0] 44,.p 1005 0 [.bool false,.slice none 0 0,.int .i64 0],.v 4 (.int .i64 err)]) (fun p2=>[(2,.int .i64 0),(4,.int .i64 err)]) (fun p2=>?_) (fun p2 W2 T hF hK=>?_)
 ·refine okl ?_
  refine okc (fun W cx=>as_v (unhide HV _)) ?_
  iterate 3 refine okv ?_
  refine okn ?_
  refine okp ?_
  refine okv ?_
  exact ok_nil
 replace hS:=SymF.fc hS hF [] []
 replace hG:=hF.gx
 clear hF
 refine wq hS hG hK (fun p3=>[.v 10 (.int .i64 err),.v 2 (.int .i64 err)]) (fun p3=>[(2,.int .i64 err)]) (fun p3=>?_) (fun p3 W3 T hF hK=>?_)
 ·iterate 2 refine okv ?_
  exact ok_nil
 obtain ⟨hS,hG⟩:=SymF.fg hS hF
 clear hF
 refine wp_ret ?_
 exact sym_end hS hK (.int .i64 err) [] [] (by kernel_rfl) (by kernel_rfl) ⟨rfl,hS.fr⟩
theorem den_ok (w:World) (E F q tw:Nat) (pw:Nat→Nat) (hF:F≤52) (hp0:pw 0 = 1) (hps:∀ j,j < q→pw (j+1) = pw j * 10) (hpl:∀ j,j < q→pw j≤tw) (hpq:tw < pw q) (htw:tw < 1000000000000000000) (hq:q≤1000) (hsh:IntKind.u64.wrap (1 * 2 ^ min ((F:Int)+1:Int).toNat 64) = (tw:Int)) (HK:Hid (∀ W:World,Calls Tryz.prog 15 #[.agg #[.int .i64 (E:Int),.int .i64 (F:Int)]] W fun e W'=>e = .returned (.int .i64 0)∧Below W.heap.size W W')) :
  Calls Tryz.prog 8 #[.agg #[.int .i64 (E:Int),.int .i64 (F:Int)]] w fun en w'=>en = .returned (.tuple #[.int .i64 (((q - 0:Nat):Int)+1),.int .i64 0])∧Below w.heap.size w w':=by
 obtain ⟨k,hkz⟩:∃ k,k = q:=⟨_,rfl⟩
 have hkn:k≤q:=by omega
 refine calls_sym Tryz.func8 rfl (by kernel_rfl) fun T hK=>?_
 replace hK:Kn T _ [(0,.agg #[.int .i64 (E:Int),.int .i64 (F:Int)])]:=hK
 have hS:=Fb.begin w
 have hG:GsAt [] w:=trivial
 refine wq hS hG hK (fun p1=>[.n 1 #[.int .i64 (E:Int),.int .i64 (F:Int)] 24,.v 2 (.int .i64 0),.v 3 (.int .i64 0)]) (fun p1=>[(1,pT (p1 0).N 0),(2,.int .i64 0),(3,.int .i64 0)]) (fun p1=>?_) (fun p1 W1 T hF hJ=>?_)
 ·refine okn ?_
  iterate 2 refine okv ?_
  exact ok_nil
 replace hS:=SymF.fc hS hF [1000] [⟨(p1 0).N,#[.int .i64 (E:Int),.int .i64 (F:Int)],24,true⟩]
 replace hG:=hF.gx
 clear hF hK
 have hK:=hJ
 clear hJ
 refine wp_seq ?_
 refine wq hS hG hK (fun p2=>[.l 7 (.agg #[.int .i64 (E:Int),.int .i64 (F:Int)]) 0 0,.c (some 8) (cV (.int .i64 0)),.v 4 (.int .i64 0)]) (fun p2=>[(1,pT (p1 0).N 0),(2,.int .i64 0),(3,.int .i64 0),(4,.int .i64 0)]) (fun p2=>?_) (fun p2 W2 T hF hJ=>?_)
 ·refine okl ?_
  refine okc (fun W cx=>as_v (unhide HK _)) ?_
  refine okv ?_
  exact ok_nil
 replace hS:=SymF.fd hS hF
 replace hG:=hF.gx
 clear hF hK
 have hK:=hJ
 clear hJ
 refine wq hS hG hK (fun p3=>[.v 9 (.int .i64 0),.v 10 (.bool false)]) (fun p3=>[(1,pT (p1 0).N 0),(2,.int .i64 0),(3,.int .i64 0),(4,.int .i64 0),(10,.bool false)]) (fun p3=>?_) (fun p3 W3 T hF hJ=>?_)
 ·iterate 2 refine okv ?_
  exact ok_nil
 replace hS:=SymF.fd hS hF
 replace hG:=hF.gx
 clear hF hK
 have hK:=hJ
 clear hJ
 refine wp_cond_false (hK.ew 10) (wp_skip (then_n ?_))
 refine wq hS hG hK (fun p4=>[.v 5 (.int .i64 1)]) (fun p4=>[(1,pT (p1 0).N 0),(2,.int .i64 0),(3,.int .i64 0),(4,.int .i64 0),(5,.int .i64 1),(10,.bool false)]) (fun p4=>?_) (fun p4 W4 T hF hJ=>?_)
 ·refine okv ?_
  exact ok_nil
 replace hS:=SymF.fd hS hF
 replace hG:=hF.gx
 clear hF hK
 have hK:=hJ
 clear hJ
 refine wp_seq ?_
 refine wq hS hG hK (fun p5=>[.v 6 (.int .u64 1)]) (fun p5=>[(1,pT (p1 0).N 0),(2,.int .i64 0),(3,.int .i64 0),(4,.int .i64 0),(5,.int .i64 1),(6,.int .u64 1),(10,.bool false)]) (fun p5=>?_) (fun p5 W5 T hF hJ=>?_)
 ·refine okv ?_
  exact ok_nil
 replace hS:=SymF.fd hS hF
 replace hG:=hF.gx
 clear hF hK
 have hK:=hJ
 clear hJ
 have z5:=hS.fr.size
 refine wp_block ?_
 replace hK:Kn T _ [(1,pT (p1 0).N 0),(5,.int .i64 1),(6,.int .u64 1)]:=kn_out (ds:=[]) hK rfl rfl _ (by kernel_rfl) (by kernel_rfl)
 have h5:Value.int .i64 1 = .int .i64 (((q - k:Nat):Int)+1):=by rw [hkz,Nat.sub_self]; rfl
 have h6:Value.int .u64 1 = .int .u64 ((pw (q - k):Nat):Int):=by rw [hkz,Nat.sub_self,hp0]; rfl
 rw [h5,h6] at hK
 clear h5 h6 hkz
 refine wp_loop_rounds (k+1) ?_
 clear z5
 induction k generalizing T W5 with
 | succ k ih=>
  have z5:=hS.fr.size
  have hj:=hps (q - (k+1)) (by omega)
  have hj1:q - (k+1)+1 = q - k:=by omega
  rw [hj1] at hj
  have hb1:=hpl (q - (k+1)) (by omega)
  refine rounds_s (wp_seq ?_)
  refine wq hS hG hK (fun p6=>[.v 12 (.int .u64 ((pw (q - (k+1)):Nat):Int)),.v 13 (pT (p1 0).N 1),.l 14 (.int .i64 (F:Int)) 0 1,.v 15 (.int .i64 ((F:Int)+1)),.v 16 (.int .u64 (tw:Int)),.v 17 (.bool true)]) (fun p6=>[(1,pT (p1 0).N 0),(5,.int .i64 (((q - (k+1):Nat):Int)+1)),(6,.int .u64 ((pw (q - (k+1)):Nat):Int)),(17,.bool true)]) (fun p6=>?_) (fun p6 W6 T hF hJ=>?_)
  ·iterate 2 refine okv ?_
   refine okl ?_
   refine okvi (wr64 (x:=(F:Int)+1) (by omega) (by omega)) ?_
   refine okvi (hsh) ?_
   refine okvb (decide_eq_true (show ((pw (q - (k+1)):Nat):Int)≤(tw:Int) by omega)) ?_
   exact ok_nil
  replace hS:=SymF.fc hS hF [0] [⟨(p1 0).N,#[.int .i64 (E:Int),.int .i64 (F:Int)],24,true⟩]
  replace hG:=hF.gx
  clear hF hK
  have hK:=hJ
  clear hJ
  refine wp_cond_true (hK.ew 17) (wp_skip ?_)
  refine then_n (wp_seq (wp_block ?_))
  refine wg hS hG hK (fun p7=>[.v 20 (.int .i64 (((q - (k+1):Nat):Int)+1)),.v 21 (.int .i64 (((q - k:Nat):Int)+1)),.v 5 (.int .i64 (((q - k:Nat):Int)+1))]) (fun p7=>[(1,pT (p1 0).N 0),(5,.int .i64 (((q - k:Nat):Int)+1)),(6,.int .u64 ((pw (q - (k+1)):Nat):Int)),(17,.bool true)]) (fun p7=>?_) (fun p7 W7 T hF hJ=>?_)
  ·refine okv ?_
   refine okvi ((wr64 (x:=(((q - (k+1):Nat):Int)+1)+1) (by omega) (by omega)).trans (by omega)) ?_
   refine okv ?_
   exact ok_nil
  replace hS:=SymF.fd hS hF
  replace hG:=hF.gx
  clear hF hK
  have hK:=hJ
  clear hJ
  refine inb_n (then_n ?_)
  refine wg hS hG hK (fun p8=>[.v 18 (.int .u64 ((pw (q - (k+1)):Nat):Int)),.v 19 (.int .u64 ((pw (q - k):Nat):Int)),.v 6 (.int .u64 ((pw (q - k):Nat):Int))]) (fun p8=>[(1,pT (p1 0).N 0),(5,.int .i64 (((q - k:Nat):Int)+1)),(6,.int .u64 ((pw (q - k):Nat):Int)),(17,.bool true)]) (fun p8=>?_) (fun p8 W8 T hF hJ=>?_)
  ·refine okv ?_
   refine okvi ((show IntKind.u64.wrap (((pw (q - (k+1)):Nat):Int) * 10) = ((pw (q - (k+1)):Nat):Int) * 10 by rw [IntKind.wrap_u64]; omega).trans (by omega)) ?_
   refine okv ?_
   exact ok_nil
  replace hS:=SymF.fd hS hF
  replace hG:=hF.gx
  clear hF hK
  have hK:=hJ
  clear hJ
  refine then_n ?_
  replace hK:Kn T _ [(1,pT (p1 0).N 0),(5,.int .i64 (((q - k:Nat):Int)+1)),(6,.int .u64 ((pw (q - k):Nat):Int))]:=kn_out (ds:=[]) hK rfl rfl _ (by kernel_rfl) (by kernel_rfl)
  refine ih ?_ _ _ ?_ ?_ ?_ <;> first|assumption|omega
 | zero=>
  have z5:=hS.fr.size
  have hz0:q - 0 = q:=by omega
  rw [← hz0] at hpq
  refine rounds_s (wp_seq ?_)
  refine wq hS hG hK (fun p9=>[.v 12 (.int .u64 ((pw (q - 0):Nat):Int)),.v 13 (pT (p1 0).N 1),.l 14 (.int .i64 (F:Int)) 0 1,.v 15 (.int .i64 ((F:Int)+1)),.v 16 (.int .u64 (tw:Int)),.v 17 (.bool false)]) (fun p9=>[(1,pT (p1 0).N 0),(5,.int .i64 (((q - 0:Nat):Int)+1)),(6,.int .u64 ((pw (q - 0):Nat):Int)),(17,.bool false)]) (fun p9=>?_) (fun p9 W9 T hF hJ=>?_)
  ·iterate 2 refine okv ?_
   refine okl ?_
   refine okvi (wr64 (x:=(F:Int)+1) (by omega) (by omega)) ?_
   refine okvi (hsh) ?_
   refine okvb (decide_eq_false (show ¬ ((pw (q - 0):Nat):Int)≤(tw:Int) by omega)) ?_
   exact ok_nil
  replace hS:=SymF.fc hS hF [0] [⟨(p1 0).N,#[.int .i64 (E:Int),.int .i64 (F:Int)],24,true⟩]
  replace hG:=hF.gx
  clear hF hK
  have hK:=hJ
  clear hJ
  refine wp_cond_false (hK.ew 17) (wp_exit ?_)
  refine then_x (then_x ?_)
  refine inb_x (then_n ?_)
  refine wq hS hG hK (fun p10=>[.v 22 (.int .i64 (((q - 0:Nat):Int)+1)),.v 2 (.int .i64 (((q - 0:Nat):Int)+1)),.v 3 (.int .i64 0)]) (fun p10=>[(2,.int .i64 (((q - 0:Nat):Int)+1)),(3,.int .i64 0),(5,.int .i64 (((q - 0:Nat):Int)+1)),(6,.int .u64 ((pw (q - 0):Nat):Int)),(17,.bool false)]) (fun p10=>?_) (fun p10 W10 T hF hJ=>?_)
  ·iterate 3 refine okv ?_
   exact ok_nil
  replace hS:=SymF.fc hS hF [] []
  replace hG:=hF.gx
  clear hF hK
  have hK:=hJ
  clear hJ
  refine wp_ret ?_
  exact sym_end hS hK (.tuple #[.int .i64 (((q - 0:Nat):Int)+1),.int .i64 0]) [] [] (by kernel_rfl) (by kernel_rfl) ⟨rfl,hS.fr⟩
theorem dsu_ok (w:World) (E F q tw:Nat) (pw:Nat→Nat) (hp0:pw 0 = 10) (hps:∀ j,j < q→pw (j+1) = pw j * 10) (hpl:∀ j,j < q→pw j < tw) (hpq:tw≤pw q) (htw:tw < 1000000000000000000) (hq:q≤1000) (hsh:IntKind.u64.wrap (1 * 2 ^ min ((F:Int):Int).toNat 64) = (tw:Int)) (HK:Hid (∀ W:World,Calls Tryz.prog 15 #[.agg #[.int .i64 (E:Int),.int .i64 (F:Int)]] W fun e W'=>e = .returned (.int .i64 0)∧Below W.heap.size W W')) :
  Calls Tryz.prog 9 #[.agg #[.int .i64 (E:Int),.int .i64 (F:Int)]] w fun en w'=>en = .returned (.tuple #[.int .i64 ((q - 0:Nat):Int),.int .i64 0])∧Below w.heap.size w w':=by
 obtain ⟨k,hkz⟩:∃ k,k = q:=⟨_,rfl⟩
 have hkn:k≤q:=by omega
 refine calls_sym Tryz.func9 rfl (by kernel_rfl) fun T hK=>?_
 replace hK:Kn T _ [(0,.agg #[.int .i64 (E:Int),.int .i64 (F:Int)])]:=hK
 have hS:=Fb.begin w
 have hG:GsAt [] w:=trivial
 refine wq hS hG hK (fun p1=>[.n 1 #[.int .i64 (E:Int),.int .i64 (F:Int)] 24,.v 2 (.int .i64 0),.v 3 (.int .i64 0)]) (fun p1=>[(1,pT (p1 0).N 0),(2,.int .i64 0),(3,.int .i64 0)]) (fun p1=>?_) (fun p1 W1 T hF hJ=>?_)
 ·refine okn ?_
  iterate 2 refine okv ?_
  exact ok_nil
 replace hS:=SymF.fc hS hF [1000] [⟨(p1 0).N,#[.int .i64 (E:Int),.int .i64 (F:Int)],24,true⟩]
 replace hG:=hF.gx
 clear hF hK
 have hK:=hJ
 clear hJ
 refine wp_seq ?_
 refine wq hS hG hK (fun p2=>[.l 7 (.agg #[.int .i64 (E:Int),.int .i64 (F:Int)]) 0 0,.c (some 8) (cV (.int .i64 0)),.v 4 (.int .i64 0)]) (fun p2=>[(1,pT (p1 0).N 0),(2,.int .i64 0),(3,.int .i64 0),(4,.int .i64 0)]) (fun p2=>?_) (fun p2 W2 T hF hJ=>?_)
 ·refine okl ?_
  refine okc (fun W cx=>as_v (unhide HK _)) ?_
  refine okv ?_
  exact ok_nil
 replace hS:=SymF.fd hS hF
 replace hG:=hF.gx
 clear hF hK
 have hK:=hJ
 clear hJ
 refine wq hS hG hK (fun p3=>[.v 9 (.int .i64 0),.v 10 (.bool false)]) (fun p3=>[(1,pT (p1 0).N 0),(2,.int .i64 0),(3,.int .i64 0),(4,.int .i64 0),(10,.bool false)]) (fun p3=>?_) (fun p3 W3 T hF hJ=>?_)
 ·iterate 2 refine okv ?_
  exact ok_nil
 replace hS:=SymF.fd hS hF
 replace hG:=hF.gx
 clear hF hK
 have hK:=hJ
 clear hJ
 refine wp_cond_false (hK.ew 10) (wp_skip (then_n ?_))
 refine wq hS hG hK (fun p4=>[.v 5 (.int .i64 0)]) (fun p4=>[(1,pT (p1 0).N 0),(2,.int .i64 0),(3,.int .i64 0),(4,.int .i64 0),(5,.int .i64 0),(10,.bool false)]) (fun p4=>?_) (fun p4 W4 T hF hJ=>?_)
 ·refine okv ?_
  exact ok_nil
 replace hS:=SymF.fd hS hF
 replace hG:=hF.gx
 clear hF hK
 have hK:=hJ
 clear hJ
 refine wp_seq ?_
 refine wq hS hG hK (fun p5=>[.v 6 (.int .u64 10)]) (fun p5=>[(1,pT (p1 0).N 0),(2,.int .i64 0),(3,.int .i64 0),(4,.int .i64 0),(5,.int .i64 0),(6,.int .u64 10),(10,.bool false)]) (fun p5=>?_) (fun p5 W5 T hF hJ=>?_)
 ·refine okv ?_
  exact ok_nil
 replace hS:=SymF.fd hS hF
 replace hG:=hF.gx
 clear hF hK
 have hK:=hJ
 clear hJ
 have z5:=hS.fr.size
 refine wp_block ?_
 replace hK:Kn T _ [(1,pT (p1 0).N 0),(5,.int .i64 0),(6,.int .u64 10)]:=kn_out (ds:=[]) hK rfl rfl _ (by kernel_rfl) (by kernel_rfl)
 have h5:Value.int .i64 0 = .int .i64 ((q - k:Nat):Int):=by rw [hkz,Nat.sub_self]; rfl
 have h6:Value.int .u64 10 = .int .u64 ((pw (q - k):Nat):Int):=by rw [hkz,Nat.sub_self,hp0]; rfl
 rw [h5,h6] at hK
 clear h5 h6 hkz
 refine wp_loop_rounds (k+1) ?_
 clear z5
 induction k generalizing T W5 with
 | succ k ih=>
  have z5:=hS.fr.size
  have hj:=hps (q - (k+1)) (by omega)
  have hj1:q - (k+1)+1 = q - k:=by omega
  rw [hj1] at hj
  have hb1:=hpl (q - (k+1)) (by omega)
  refine rounds_s (wp_seq ?_)
  refine wq hS hG hK (fun p6=>[.v 12 (.int .u64 ((pw (q - (k+1)):Nat):Int)),.v 13 (pT (p1 0).N 1),.l 14 (.int .i64 (F:Int)) 0 1,.v 15 (.int .u64 (tw:Int)),.v 16 (.bool true)]) (fun p6=>[(1,pT (p1 0).N 0),(5,.int .i64 ((q - (k+1):Nat):Int)),(6,.int .u64 ((pw (q - (k+1)):Nat):Int)),(16,.bool true)]) (fun p6=>?_) (fun p6 W6 T hF hJ=>?_)
  ·iterate 2 refine okv ?_
   refine okl ?_
   refine okvi (hsh) ?_
   refine okvb (decide_eq_true (show ((pw (q - (k+1)):Nat):Int) < (tw:Int) by omega)) ?_
   exact ok_nil
  replace hS:=SymF.fc hS hF [0] [⟨(p1 0).N,#[.int .i64 (E:Int),.int .i64 (F:Int)],24,true⟩]
  replace hG:=hF.gx
  clear hF hK
  have hK:=hJ
  clear hJ
  refine wp_cond_true (hK.ew 16) (wp_skip ?_)
  refine then_n (wp_seq (wp_block ?_))
  refine wg hS hG hK (fun p7=>[.v 19 (.int .i64 ((q - (k+1):Nat):Int)),.v 20 (.int .i64 ((q - k:Nat):Int)),.v 5 (.int .i64 ((q - k:Nat):Int))]) (fun p7=>[(1,pT (p1 0).N 0),(5,.int .i64 ((q - k:Nat):Int)),(6,.int .u64 ((pw (q - (k+1)):Nat):Int)),(16,.bool true)]) (fun p7=>?_) (fun p7 W7 T hF hJ=>?_)
  ·refine okv ?_
   refine okvi ((wr64 (x:=((q - (k+1):Nat):Int)+1) (by omega) (by omega)).trans (by omega)) ?_
   refine okv ?_
   exact ok_nil
  replace hS:=SymF.fd hS hF
  replace hG:=hF.gx
  clear hF hK
  have hK:=hJ
  clear hJ
  refine inb_n (then_n ?_)
  refine wg hS hG hK (fun p8=>[.v 17 (.int .u64 ((pw (q - (k+1)):Nat):Int)),.v 18 (.int .u64 ((pw (q - k):Nat):Int)),.v 6 (.int .u64 ((pw (q - k):Nat):Int))]) (fun p8=>[(1,pT (p1 0).N 0),(5,.int .i64 ((q - k:Nat):Int)),(6,.int .u64 ((pw (q - k):Nat):Int)),(16,.bool true)]) (fun p8=>?_) (fun p8 W8 T hF hJ=>?_)
  ·refine okv ?_
   refine okvi ((show IntKind.u64.wrap (((pw (q - (k+1)):Nat):Int) * 10) = ((pw (q - (k+1)):Nat):Int) * 10 by rw [IntKind.wrap_u64]; omega).trans (by omega)) ?_
   refine okv ?_
   exact ok_nil
  replace hS:=SymF.fd hS hF
  replace hG:=hF.gx
  clear hF hK
  have hK:=hJ
  clear hJ
  refine then_n ?_
  replace hK:Kn T _ [(1,pT (p1 0).N 0),(5,.int .i64 ((q - k:Nat):Int)),(6,.int .u64 ((pw (q - k):Nat):Int))]:=kn_out (ds:=[]) hK rfl rfl _ (by kernel_rfl) (by kernel_rfl)
  refine ih ?_ _ _ ?_ ?_ ?_ <;> first|assumption|omega
 | zero=>
  have z5:=hS.fr.size
  have hz0:q - 0 = q:=by omega
  rw [← hz0] at hpq
  refine rounds_s (wp_seq ?_)
  refine wq hS hG hK (fun p9=>[.v 12 (.int .u64 ((pw (q - 0):Nat):Int)),.v 13 (pT (p1 0).N 1),.l 14 (.int .i64 (F:Int)) 0 1,.v 15 (.int .u64 (tw:Int)),.v 16 (.bool false)]) (fun p9=>[(1,pT (p1 0).N 0),(5,.int .i64 ((q - 0:Nat):Int)),(6,.int .u64 ((pw (q - 0):Nat):Int)),(16,.bool false)]) (fun p9=>?_) (fun p9 W9 T hF hJ=>?_)
  ·iterate 2 refine okv ?_
   refine okl ?_
   refine okvi (hsh) ?_
   refine okvb (decide_eq_false (show ¬ ((pw (q - 0):Nat):Int) < (tw:Int) by omega)) ?_
   exact ok_nil
  replace hS:=SymF.fc hS hF [0] [⟨(p1 0).N,#[.int .i64 (E:Int),.int .i64 (F:Int)],24,true⟩]
  replace hG:=hF.gx
  clear hF hK
  have hK:=hJ
  clear hJ
  refine wp_cond_false (hK.ew 16) (wp_exit ?_)
  refine then_x (then_x ?_)
  refine inb_x (then_n ?_)
  refine wq hS hG hK (fun p10=>[.v 21 (.int .i64 ((q - 0:Nat):Int)),.v 2 (.int .i64 ((q - 0:Nat):Int)),.v 3 (.int .i64 0)]) (fun p10=>[(2,.int .i64 ((q - 0:Nat):Int)),(3,.int .i64 0),(5,.int .i64 ((q - 0:Nat):Int)),(6,.int .u64 ((pw (q - 0):Nat):Int)),(16,.bool false)]) (fun p10=>?_) (fun p10 W10 T hF hJ=>?_)
  ·iterate 3 refine okv ?_
   exact ok_nil
  replace hS:=SymF.fc hS hF [] []
  replace hG:=hF.gx
  clear hF hK
  have hK:=hJ
  clear hJ
  refine wp_ret ?_
  exact sym_end hS hK (.tuple #[.int .i64 ((q - 0:Nat):Int),.int .i64 0]) [] [] (by kernel_rfl) (by kernel_rfl) ⟨rfl,hS.fr⟩
end Go.Proofs.YtplihgoapiiigaaGreatDoor
