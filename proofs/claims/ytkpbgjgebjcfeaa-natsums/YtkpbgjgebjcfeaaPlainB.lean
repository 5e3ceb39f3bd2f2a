/- More plain mathematics of limbs: sums and differences, a limb at a time. -/
import Derived.Test.YtkpbgjgebjcfeaaPlain
namespace Go.Proofs.Ytkpbgjgebjcfeaa.Pl

theorem val_take_any (xs : List Nat) (k : Nat) : val (xs.take (k + 1)) = val (xs.take k) + 4294967296 ^ k * xs[k]?.getD 0 := by
  by_cases h : k < xs.length
  · exact val_take_succ xs k h
  · rw [List.take_of_length_le (by omega), List.take_of_length_le (by omega), List.getElem?_eq_none (by omega)]; simp
/-- One step of a row of sums and carries. -/
theorem step_add {p o c d s B : Nat} (B' : Nat) (hB : B' = B * 4294967296) (h : o + B * c = d + p) (t q r : Nat) (ht : t = q * 4294967296 + r) (x : Nat) (hx : t = c + x + s) :
    (o + B * r) + B' * q = (d + B * x) + (p + B * s) := by
  subst hB
  have e1 : B * t = B * c + B * x + B * s := by rw [hx, Nat.mul_add, Nat.mul_add]
  have e2 : B * t = B * 4294967296 * q + B * r := by rw [ht, Nat.mul_add, Nat.mul_assoc, Nat.mul_comm q]
  omega

end Go.Proofs.Ytkpbgjgebjcfeaa.Pl
