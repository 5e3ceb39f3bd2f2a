/- The law FormNative. -/
import Derived.Test.YtafeioonnhnpcaaFmNativeA
import Derived.Test.YtafeioonnhnpcaaFmNativeB
import Derived.Test.YtafeioonnhnpcaaFmNativeC
namespace Go.Proofs.Ytafeioonnhnpcaa
open Go.RowKit

theorem int_beq (c k : Nat) : ((c : Int) == (k : Int)) = decide (c = k) := by
  rw [Bool.eq_iff_iff]; simp; omega
theorem native_law (b s : Nat) (hb : b < 18446744073709551616) (hs : s < 4294967296) (w : World) : Calls Try.prog 8 #[.int .u64 b, .int .u32 s] w fun e w' => e = .returned (.bool true) ∧ Below w.heap.size w w' := by
  have hD : Fo 11 52 := ⟨by decide, by decide, by decide, by decide⟩
  have hS : Fo 8 23 := ⟨by decide, by decide, by decide, by decide⟩
  have hB := Bt.of 11 52 b (by simpa using hb)
  have hT := Bt.of 8 23 s (by simpa using hs)
  have hN1 : (decide (b / 2 ^ (52 + 11) = 1)) = decide (9223372036854775808 ≤ b) := by rw [decide_eq_decide]; omega
  have hN2 : (decide (s / 2 ^ (23 + 8) = 1)) = decide (2147483648 ≤ s) := by rw [decide_eq_decide]; omega
  obtain ⟨c, hc⟩ : ∃ c, c = cls (b % 2 ^ (52 + 11) / 2 ^ 52) (b % 2 ^ 52) (2 ^ 11 - 1) := ⟨_, rfl⟩
  obtain ⟨d, hd⟩ : ∃ d, d = cls (s % 2 ^ (23 + 8) / 2 ^ 23) (s % 2 ^ 23) (2 ^ 8 - 1) := ⟨_, rfl⟩
  obtain ⟨a1, a2, a3, a4⟩ : (FloatKind.f64.format.order b b == some .eq) = !decide (c = 5) ∧ (FloatKind.f64.format.order b 0 == some .eq) = decide (c = 1) ∧ ((FloatKind.f64.format.order b 9218868437227405311 == some .gt) || (FloatKind.f64.format.order b 18442240474082181119 == some .lt)) = decide (c = 4) ∧ (FloatKind.f64.format.order (b % 9223372036854775808) 4503599627370496 == some .lt) = decide (c = 1 ∨ c = 2) :=
    class_shows Ieee.double b _ _ _ (by decide) (by decide) hB c hc
  obtain ⟨b1, b2, b3, -⟩ : (FloatKind.f32.format.order s s == some .eq) = !decide (d = 5) ∧ (FloatKind.f32.format.order s 0 == some .eq) = decide (d = 1) ∧ ((FloatKind.f32.format.order s 2139095039 == some .gt) || (FloatKind.f32.format.order s 4286578687 == some .lt)) = decide (d = 4) ∧ (FloatKind.f32.format.order (s % 2147483648) 8388608 == some .lt) = decide (d = 1 ∨ d = 2) :=
    class_shows Ieee.single s _ _ _ (by decide) (by decide) hT d hd
  have C1 : Says 12 #[.agg #[.int .i64 11, .int .i64 52], .int .u64 b] (.tuple #[.int .u8 c, .int .i64 0]) := by rw [hc]; exact Class_ok 11 52 b _ _ _ hD hB _ (hide rfl)
  have C2 : Says 12 #[.agg #[.int .i64 8, .int .i64 23], .int .u64 s] (.tuple #[.int .u8 d, .int .i64 0]) := by rw [hd]; exact Class_ok 8 23 s _ _ _ hS hT _ (hide rfl)
  have S1 := Split_ok 11 52 b _ _ _ hD hB
  have S2 := Split_ok 8 23 s _ _ _ hS hT
  have n5 : (FloatKind.f64.format.order b b != some .eq) = decide (c = 5) := by rw [bne, a1, Bool.not_not]
  have n1 : (FloatKind.f64.format.order b 0 != some .eq) = !decide (c = 1) := by rw [bne, a2]
  have m5 : (FloatKind.f32.format.order s s != some .eq) = decide (d = 5) := by rw [bne, b1, Bool.not_not]
  have k5 := int_beq c 5
  have k1 := int_beq c 1
  have k4 := int_beq c 4
  have k2 := int_beq c 2
  have j5 := int_beq d 5
  have j1 := int_beq d 1
  have j4 := int_beq d 4
  rw [← a3] at k4
  rw [← b3] at j4
  have HR : Hid (b % 9223372036854775808 = b % 9223372036854775808) := hide rfl
  cases hg1 : (FloatKind.f64.format.order b 9218868437227405311 == some .gt) with
  | true =>
    have hc4 : c = 4 := by rw [hg1, Bool.true_or] at a3; simpa using a3.symm
    have ot : (FloatKind.f64.format.order (b % 9223372036854775808) 4503599627370496 == some .lt) = false := by rw [a4]; simp [hc4]
    have k2' : ((c : Int) == 2) = false := by rw [hc4]; rfl
    rw [hg1, Bool.true_or] at k4
    cases hg2 : (FloatKind.f32.format.order s 2139095039 == some .gt) with
    | true =>
      rw [hg2, Bool.true_or] at j4
      exact native_A1 b s c d _ _ _ _ _ _ _ _ _ _ _ _ _ hb hs C1 C2 S1 S2 HR (hide hN1) (hide hN2) n5 k5 a2 n1 k1 hg1 rfl k4 ot k2' m5 j5 b2 j1 hg2 rfl j4 w
    | false =>
      rw [hg2, Bool.false_or] at j4
      exact native_A0 b s c d _ _ _ _ _ _ _ _ _ _ _ _ _ hb hs C1 C2 S1 S2 HR (hide hN1) (hide hN2) n5 k5 a2 n1 k1 hg1 rfl k4 ot k2' m5 j5 b2 j1 hg2 rfl j4 w
  | false =>
    rw [hg1, Bool.false_or] at k4
    by_cases ht : c = 1 ∨ c = 2
    · have ot : (FloatKind.f64.format.order (b % 9223372036854775808) 4503599627370496 == some .lt) = true := by rw [a4]; simp [ht]
      have k2' : ((c : Int) == 2) = !decide (c = 1) := by rcases ht with h | h <;> rw [h] <;> rfl
      cases hg2 : (FloatKind.f32.format.order s 2139095039 == some .gt) with
      | true =>
        rw [hg2, Bool.true_or] at j4
        exact native_B1 b s c d _ _ _ _ _ _ _ _ _ _ _ _ _ hb hs C1 C2 S1 S2 HR (hide hN1) (hide hN2) n5 k5 a2 n1 k1 hg1 rfl k4 ot k2' m5 j5 b2 j1 hg2 rfl j4 w
      | false =>
        rw [hg2, Bool.false_or] at j4
        exact native_B0 b s c d _ _ _ _ _ _ _ _ _ _ _ _ _ hb hs C1 C2 S1 S2 HR (hide hN1) (hide hN2) n5 k5 a2 n1 k1 hg1 rfl k4 ot k2' m5 j5 b2 j1 hg2 rfl j4 w
    · have ot : (FloatKind.f64.format.order (b % 9223372036854775808) 4503599627370496 == some .lt) = false := by rw [a4]; simpa using ht
      have k2' : ((c : Int) == 2) = false := by
        have : c ≠ 2 := fun h => ht (Or.inr h)
        exact k2.trans (by simpa using this)
      cases hg2 : (FloatKind.f32.format.order s 2139095039 == some .gt) with
      | true =>
        rw [hg2, Bool.true_or] at j4
        exact native_C1 b s c d _ _ _ _ _ _ _ _ _ _ _ _ _ hb hs C1 C2 S1 S2 HR (hide hN1) (hide hN2) n5 k5 a2 n1 k1 hg1 rfl k4 ot k2' m5 j5 b2 j1 hg2 rfl j4 w
      | false =>
        rw [hg2, Bool.false_or] at j4
        exact native_C0 b s c d _ _ _ _ _ _ _ _ _ _ _ _ _ hb hs C1 C2 S1 S2 HR (hide hN1) (hide hN2) n5 k5 a2 n1 k1 hg1 rfl k4 ot k2' m5 j5 b2 j1 hg2 rfl j4 w

end Go.Proofs.Ytafeioonnhnpcaa
