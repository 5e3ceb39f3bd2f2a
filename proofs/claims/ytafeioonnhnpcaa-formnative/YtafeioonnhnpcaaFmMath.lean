/- Plain mathematics of the fields of bits. -/
import Derived.Test.YtafeioonnhnpcaaFmBase
namespace Go.Proofs.Ytafeioonnhnpcaa
open Go.RowKit

theorem ofInt_u64 (a : Nat) (h : a < 18446744073709551616) : (BitVec.ofInt 64 (a : Int)).toNat = a := by
  rw [BitVec.ofInt_natCast, BitVec.toNat_ofNat]; exact Nat.mod_eq_of_lt h

theorem andNot_u64 (a b c : Nat) (hc : c < 18446744073709551616) (h : ∀ i, i < 64 → c.testBit i = (a.testBit i && !b.testBit i)) :
    Go.bits .andNot .u64 (a : Int) (b : Int) = (c : Int) := by
  show IntKind.u64.wrap ((BitVec.ofInt 64 (a : Int) &&& ~~~ BitVec.ofInt 64 (b : Int)).toNat : Int) = _
  have e : BitVec.ofInt 64 (a : Int) &&& ~~~ BitVec.ofInt 64 (b : Int) = BitVec.ofInt 64 (c : Int) := by
    apply BitVec.eq_of_getLsbD_eq
    intro i hi
    have ga : ∀ x : Nat, (BitVec.ofInt 64 (x : Int)).getLsbD i = x.testBit i := fun x => by
      rw [BitVec.ofInt_natCast, BitVec.getLsbD_ofNat]; simp [hi]
    rw [BitVec.getLsbD_and, BitVec.getLsbD_not, ga, ga, ga, h i hi]
    simp [hi]
  rw [e, ofInt_u64 c hc, IntKind.wrap_u64]
  omega

theorem or_u64 (a b : Nat) (k q : Nat) (hq : a = q * 2 ^ k) (hb : b < 2 ^ k) (ha : a + b < 18446744073709551616) : Go.bits .or .u64 (a : Int) (b : Int) = ((a + b : Nat) : Int) := by
  have h := bits_or_u64_nat a b (by omega) (by omega)
  have e : a ||| b = a + b := by
    have := Nat.two_pow_add_eq_or_of_lt (i := k) (b := b) hb q
    rw [hq, Nat.mul_comm q]; exact this.symm
  rw [h, e]

/-- Powers of two, up to 64. -/
theorem pow_bound {n k : Nat} (h : n ≤ k) : 2 ^ n ≤ 2 ^ k := Nat.pow_le_pow_right (by decide) h
theorem pow_pos2 (n : Nat) : 0 < 2 ^ n := Nat.pow_pos (by decide)

/-- Without the one bit above K, of bits that have none beyond it. -/
theorem clear_top (b K : Nat) (hK : K ≤ 63) (hb : b < 2 ^ (K + 1)) : Go.bits .andNot .u64 (b : Int) ((2 ^ K : Nat) : Int) = ((b % 2 ^ K : Nat) : Int) := by
  have h1 := pow_bound (show K + 1 ≤ 64 by omega)
  have h2 := pow_bound hK
  have h3 := Nat.mod_le b (2 ^ K)
  refine andNot_u64 b (2 ^ K) (b % 2 ^ K) (by omega) fun i _ => ?_
  rw [Nat.testBit_mod_two_pow, Nat.testBit_two_pow]
  by_cases h : i < K
  · have : K ≠ i := by omega
    simp [h, this]
  · by_cases he : K = i
    · simp [he]
    · have : b.testBit i = false := Nat.testBit_lt_two_pow (Nat.lt_of_lt_of_le hb (pow_bound (by omega)))
      simp [this]

theorem andNot_ex (a b : Nat) : ∃ c : Nat, c < 18446744073709551616 ∧ Go.bits .andNot .u64 (a : Int) (b : Int) = (c : Int) ∧ ∀ i, i < 64 → c.testBit i = (a.testBit i && !b.testBit i) := by
  refine ⟨(BitVec.ofNat 64 a &&& ~~~ BitVec.ofNat 64 b).toNat, (BitVec.ofNat 64 a &&& ~~~ BitVec.ofNat 64 b).isLt, ?_, ?_⟩
  · refine andNot_u64 a b _ (BitVec.ofNat 64 a &&& ~~~ BitVec.ofNat 64 b).isLt fun i hi => ?_
    rw [BitVec.testBit_toNat, BitVec.getLsbD_and, BitVec.getLsbD_not, BitVec.getLsbD_ofNat, BitVec.getLsbD_ofNat]
    simp [hi]
  · intro i hi
    rw [BitVec.testBit_toNat, BitVec.getLsbD_and, BitVec.getLsbD_not, BitVec.getLsbD_ofNat, BitVec.getLsbD_ofNat]
    simp [hi]

theorem bit_mid (E F i : Nat) : ((2 ^ E - 1) * 2 ^ F).testBit i = (decide (F ≤ i) && decide (i < F + E)) := by
  rw [Nat.testBit_mul_two_pow]
  by_cases h : F ≤ i
  · rw [Nat.testBit_two_pow_sub_one]; simp [h]; omega
  · simp [h]

/-- Without a row of bits, and then without the one above it. -/
theorem clear_mid (b E F : Nat) (hK : F + E ≤ 63) (hb : b < 2 ^ (F + E + 1)) : ∃ c : Nat, c < 18446744073709551616 ∧ Go.bits .andNot .u64 (b : Int) (((2 ^ E - 1) * 2 ^ F : Nat) : Int) = (c : Int) ∧ Go.bits .andNot .u64 (c : Int) ((2 ^ (F + E) : Nat) : Int) = ((b % 2 ^ F : Nat) : Int) := by
  obtain ⟨c, hc, h1, h2⟩ := andNot_ex b ((2 ^ E - 1) * 2 ^ F)
  refine ⟨c, hc, h1, andNot_u64 _ _ _ ?_ fun i hi => ?_⟩
  · have h3 := Nat.mod_lt b (pow_pos2 F)
    have h4 := pow_bound (show F ≤ 63 by omega)
    omega
  · rw [h2 i hi, bit_mid, Nat.testBit_mod_two_pow, Nat.testBit_two_pow]
    by_cases h : i < F
    · have e1 : ¬ F ≤ i := by omega
      have e2 : F + E ≠ i := by omega
      simp [h, e1, e2]
    · by_cases h' : i < F + E
      · have e1 : F ≤ i := by omega
        simp [h, e1, h']
      · by_cases he : F + E = i
        · simp [h, he]
        · have : b.testBit i = false := Nat.testBit_lt_two_pow (Nat.lt_of_lt_of_le hb (pow_bound (by omega)))
          simp [h, this]

/-- Bits that have none of these. -/
theorem clear_none_low (q k : Nat) (h : q * 2 ^ k < 18446744073709551616) : Go.bits .andNot .u64 ((q * 2 ^ k : Nat) : Int) ((2 ^ k - 1 : Nat) : Int) = ((q * 2 ^ k : Nat) : Int) := by
  refine andNot_u64 _ _ _ h fun i _ => ?_
  rw [Nat.testBit_mul_two_pow, Nat.testBit_two_pow_sub_one]
  by_cases h : k ≤ i
  · have : ¬ i < k := by omega
    simp [h, this]
  · simp [h]
theorem clear_none_top (b K : Nat) (hb : b < 2 ^ K) (hK : K ≤ 63) : Go.bits .andNot .u64 (b : Int) ((2 ^ K : Nat) : Int) = (b : Int) := by
  have := clear_top b K hK (by rw [Nat.pow_succ]; omega)
  rw [this, Nat.mod_eq_of_lt hb]
theorem clear_zero (m : Nat) : Go.bits .andNot .u64 0 (m : Int) = 0 := by
  have := andNot_u64 0 m 0 (by decide) fun i _ => by simp
  exact this

theorem shl_u64 (n k : Nat) (h : n * 2 ^ k < 18446744073709551616) : IntKind.u64.wrap ((n : Int) * 2 ^ k) = ((n * 2 ^ k : Nat) : Int) := by
  rw [IntKind.wrap_u64, show ((n : Int) * 2 ^ k) = ((n * 2 ^ k : Nat) : Int) by simp]
  omega
theorem full_u64 (k : Nat) (h : k ≤ 63) : IntKind.u64.wrap (IntKind.u64.wrap (2 ^ k) - 1) = ((2 ^ k - 1 : Nat) : Int) := by
  have h1 := pow_bound h
  have h2 := pow_pos2 k
  have e : ((2 : Int) ^ k) = ((2 ^ k : Nat) : Int) := by simp
  rw [IntKind.wrap_u64, IntKind.wrap_u64, e]
  omega

end Go.Proofs.Ytafeioonnhnpcaa
