/- Of what QuickThereRow stands on: QkTheLaw. -/
import Derived.Test.YtdekhacomggpgaaGreatDoorPbb
import Derived.Test.YtdekhacomggpgaaGreatDoorPax
import Derived.Test.YtdekhacomggpgaaGreatDoorPbe
import Derived.Test.YtdekhacomggpgaaGreatDoorPbs
import Derived.Test.YtdekhacomggpgaaGreatDoorPbu
import Derived.Test.YtdekhacomggpgaaGreatDoorPbt
import Derived.Test.YtdekhacomggpgaaGreatDoorPbw
import Derived.Lib.IndexLaws
namespace Go.Proofs.YtdekhacomggpgaaGreatDoor
open Go.RowKit Ieee
theorem qfm64:Fm 11 52 9223372036854775808 9218868437227405312:=⟨⟨by decide,by decide,by decide,by decide⟩,by decide,by decide⟩
theorem fmt64:Fmt FloatKind.f64.format 1023 52 9223372036854775808 9218868437227405312:=⟨rfl,by kernel_rfl,by kernel_rfl,by kernel_rfl⟩
theorem ndig_le:∀ (k u:Nat),0 < k→u < 10 ^ k→Lib.nDigits u≤k
 | 0,_,h,_=>absurd h (by omega)
 | k+1,u,_,hu=>by
  by_cases h:u < 10
  ·rw [Lib.nDigits_small h]; omega
  ·rw [Lib.nDigits,dif_neg h]
   have hk:0 < k:=by
    rcases Nat.eq_zero_or_pos k with rfl|hk
    ·omega
    ·exact hk
   have:=ndig_le k (u / 10) hk (by rw [Nat.pow_succ] at hu; omega)
   omega
theorem fmt_few (u k:Nat) (hk:0 < k) (hu:u < 10 ^ k) (hu64:u < 18446744073709551616):∃ t:ByteArray,t.size≤k∧t.size≠0∧AllD t t.size∧valS t = u∧∀ w:World,Tpw w→Calls Tryz.prog 14 #[.int .u64 (u:Int),.int .i64 10] w fun e w'=>e = .returned (.string t)∧Below w.heap.size w w':=by
 obtain ⟨h1,h2⟩:=decd_facts u
 have hs:(⟨(Lib.decDigits u).toArray⟩:ByteArray).size = Lib.nDigits u:=by
  show (Lib.decDigits u).toArray.size = _
  rw [List.size_toArray,Lib.decDigits_length]
 refine ⟨⟨(Lib.decDigits u).toArray⟩,?_,?_,?_,?_,fun w ht=>fmtU u hu64 w ht⟩
 ·rw [hs]; exact ndig_le k u hk hu
 ·rw [hs,Lib.nDigits]; split <;> omega
 ·intro j hj _
  exact h1 _ (List.getElem_mem (l:=Lib.decDigits u) (by simpa [ByteArray.size] using hj))
 ·exact h2
theorem dig_pre {t:ByteArray} (hd:AllD t t.size) (W:World) (hs:t.size≤65536):Calls Tryz.prog 35 #[.string t,.string ⟨#[45]⟩] W fun e W'=>e = .returned (.tuple #[.string t,.bool false])∧Below W.heap.size W W':=
 (prefix_any t W (by omega)).mono fun e W' ⟨h,hb⟩=>⟨by
  rcases h with ⟨_,h⟩|⟨hm,h1,_⟩
  ·exact h
  ·unfold minus at hm
   rw [Bool.and_eq_true,beq_iff_eq,ByteArray.toList_eq] at hm
   have h0:=hd 0 (by omega) (by omega)
   have e0:(t.extract 0 1).data.toList[0]? = some 45:=by rw [hm.2]; rfl
   have e1:(t.extract 0 1).data.toList[0]? = some (t[0]'(by omega)):=by
    rw [ByteArray.data_extract,Array.toList_extract]
    rw [List.getElem?_eq_getElem (by simp; omega)]
    simp
    rfl
   rw [e1] at e0
   have e2:(t[0]'(by omega)).toNat = 45:=by rw [Option.some.inj e0]; rfl
   omega,hb⟩
theorem dig_cut {t:ByteArray} (hd:AllD t t.size) (W:World) (hs:t.size≤65536):Calls Tryz.prog 36 #[.string t,.string ⟨#[47]⟩] W fun e W'=>e = .returned (.tuple #[.string t,.string ⟨#[]⟩,.bool false])∧Below W.heap.size W W':=
 (cutS_any t W (by omega)).mono fun e W' ⟨h,hb⟩=>⟨by
  rcases h with ⟨_,h⟩|⟨i,h1,h2,_⟩
  ·exact h
  ·have e0:=(Lib.indexByte_some h1).1
   have h0:=hd i h2 h2
   rw [List.getElem?_eq_getElem (by rw [Array.length_toList]; exact h2)] at e0
   have e2:(t[i]'h2).toNat = 47:=by
    have:=Option.some.inj e0
    rw [Array.getElem_toList] at this
    show (t.data[i]'h2).toNat = 47
    rw [this]; rfl
   omega,hb⟩
theorem make_one (m:Nat) (hm:¬ Over m) (W:World) (a:Option Addr) (n c:Nat) (a':Option Addr) (n' c':Nat) (h1:Num W a n m) (h2:Num W a' n' 1) :
  Calls Tryz.prog 25 #[.bool false,.agg #[.slice a n c],.agg #[.slice a' n' c']] W fun en W'=>(∃ a n c a' n' c',en = .returned (.tuple #[.agg #[.bool false,.slice a n c,.slice a' n' c'],.int .i64 0])∧Mine W' W.heap.size a n c m∧Mine W' W.heap.size a' n' c' 1)∧Below W.heap.size W W':=
 (make_any false a a' n n' c c' m 1 W h1 h2 (by omega)).mono fun en W' ⟨h,hb⟩=>⟨by
  rw [Nat.gcd_one_right,Nat.div_one] at h
  rcases h with ⟨a,n,c,a',n',c',h3,h4,h5⟩|⟨_,h3|h3⟩
  ·exact ⟨a,n,c,a',n',c',h3,h4,h5⟩
  ·exact absurd h3 hm
  ·exact absurd h3 (no_over (K:=1) (by decide) (by decide)),hb⟩
theorem parse_dig (t:ByteArray) (m:Nat) (hd:AllD t t.size) (hs:t.size≤65536) (h0:t.size≠0) (hv:valS t = m) (hm:¬ Over m) (W:World) :
  Calls Tryz.prog 16 #[.string t] W fun en W'=>(∃ a n c a' n' c',en = .returned (.tuple #[.agg #[.bool false,.slice a n c,.slice a' n' c'],.int .i64 0,.int .i64 0])∧Mine W' W.heap.size a n c m∧Mine W' W.heap.size a' n' c' 1)∧Below W.heap.size W W':=
 rparse_d W t m m 1 hs (hide fun W=>dig_pre hd W hs) (hide fun W=>dig_cut hd W hs)
  (hide fun W=>(parse_any t W (by omega)).mono fun e W' ⟨h,hb⟩=>⟨by
   rcases h with ⟨h1,_⟩|⟨h1,_⟩|⟨i,hi,_,_,h3,_⟩|⟨a,n,c,_,_,_,h,hM⟩
   ·omega
   ·exact absurd h1 h0
   ·exact absurd (hd i hi hi) h3
   ·have e:Pl.dval (digs t) 0 = m:=hv
    rw [e] at hM
    exact ⟨a,n,c,h,hM⟩,hb⟩)
  (hide fun W=>of_any 1 W (by omega)) (hide (make_one m hm))
theorem quickThere_any (n:Nat) (w:World) (ht:Tpw w) (hT:Tb w) (hn:n < 18446744073709551616):Calls Tryz.prog 4 #[.int .u64 (n:Int)] w fun e w'=>e = .returned (.bool true)∧Below w.heap.size w w':=by
 have hm:Int.tmod (n:Int) 10000000000000000000 = ((n % 10000000000000000000:Nat):Int):=by rw [Int.tmod_eq_emod_of_nonneg (by omega)]; omega
 obtain ⟨m,em⟩:∃ m,m = n % 10000000000000000000:=⟨_,rfl⟩
 rw [← em] at hm
 obtain ⟨t,c1,c0,c2,c3,c4⟩:=fmt_few m 19 (by omega) (show m < 10000000000000000000 by omega) (by omega)
 have H0:Hid (∀ W:World,Calls Tryz.prog 5 #[] W fun e W'=>e = .returned (.bool true)∧Below W.heap.size W W'):=hide fun W=>qkalive W fun _ _ h=>nomatch h
 have hN:=qnum_val t c1 c2
 rw [c3] at hN
 have HW:=fun W=>qwhole_ok W t m c0 (hide hN)
 have hov:¬ Over m:=no_over (K:=64) (Nat.lt_of_lt_of_le (show m < 18446744073709551616 by omega) (by decide)) (by omega)
 have HP:=parse_dig t m c2 (by omega) c0 c3 hov
 rcases Nat.eq_zero_or_pos m with h0|h0
 ·subst h0
  exact there_walk w n 0 0 0 0 1 t ht hT hm H0 (hide c4) (hide HW) (hide HP) (hide fun W A N C A' N' C' k1 k2 k3=>zero_r (md:=0) qfm64 (by omega) false A A' N C N' C' W k1 k2 k3)
 ·obtain ⟨D,i,j,e,b,z,M,K,X,hst,hc⟩:=sti_r (B:=1023) qfm64 rfl false m 1 h0 (by omega) (Nat.gcd_one_right m) (Nat.le_trans ((bl_blen m).le_of (Nat.lt_of_lt_of_le (show m < 18446744073709551616 by omega) (show (18446744073709551616:Nat)≤2 ^ 64 by decide))) (by omega)) (by decide)
  have hz:floatOfInt .f64 (m:Int) = bitsR 9223372036854775808 9218868437227405312 0 false (rowR 1023 52 0 false M K X):=by
   have:=near_exact fmt64 (by omega) hst false (0:Int) (mag:=m) (a:=0) (c:=0) (by omega) (by omega) (by omega)
   rw [← this]
   show FloatKind.f64.format.nearest (decide ((m:Int) < 0)) (m:Int).natAbs 0 = _
   rw [decide_eq_false (by omega),Int.natAbs_natCast]
  rw [hz] at HW
  exact there_walk w n m _ _ m 1 t ht hT hm H0 (hide c4) (hide HW) (hide HP) (hide fun W A N C A' N' C' k1 k2 k3=>hc 0 (by omega) false W A A' N C N' C' k1 k2 k3)
end Go.Proofs.YtdekhacomggpgaaGreatDoor
