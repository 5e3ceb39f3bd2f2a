/- The call nat.gcdOfWords answers the greatest common divisor of two words. -/
import Derived.Test.YtkpbgjgebjcfeaaGuess
namespace Go.Proofs.Ytkpbgjgebjcfeaa
open Go.RowKit

theorem gcd_next (x y : Nat) : Nat.gcd y (x % y) = Nat.gcd x y := by
  rw [Nat.gcd_comm x y, Nat.gcd_rec y x, Nat.gcd_comm]

theorem Only.allN {w w' : World} (h : ∀ C, Only C w w') (n : Nat) : ∀ C, Only C w (w'.drewN n) := fun C => (h C).drewN n

set_option maxHeartbeats 400000 in
theorem gcdOfWords_any (x y : Nat) (w : World) (hx : x < 18446744073709551616) (hy : y < 18446744073709551616) :
    Calls Try.prog 79 #[.int .u64 (x : Int), .int .u64 (y : Int)] w fun e w' => e = .returned (.int .u64 ((Nat.gcd x y : Nat) : Int)) ∧ ∀ C, Only C w w' := by
  go_enter Try.func79, Try.ntmps79
  go_wp2
  go_loopw [0, 1] (fun a b wr => ∃ u v : Nat, a = .int .u64 (u : Int) ∧ b = .int .u64 (v : Int) ∧ u < 18446744073709551616 ∧ v < 18446744073709551616 ∧ Hid (Nat.gcd u v = Nat.gcd x y) ∧ Hid (∀ C, Only C w wr)) (fun _ b _ => (intOf b).toNat)
  case atStart => exact ⟨x, y, rfl, rfl, hx, hy, rfl, fun C => Only.refl C w⟩
  case round =>
    obtain ⟨u, v, rfl, rfl, hu, hv, HG, HO⟩ := hrel
    by_cases h0 : v = 0
    · subst h0
      go_wp2
      go_ret
      refine ⟨ret_int ?_, unhide HO⟩
      have := unhide HG
      rw [Nat.gcd_zero_right] at this
      rw [this]
    · have hv0 : ((v : Int) == 0) = false := by rw [beq_eq_false_iff_ne]; omega
      have hvne : (v : Int) ≠ 0 := by omega
      have hme : (u : Int) % (v : Int) = ((u % v : Nat) : Int) := (Int.natCast_emod u v).symm
      have HME := hide hme
      have hm1 : u % v < v := Nat.mod_lt _ (by omega)
      have HM := hide hm1
      clear hme h0 hm1
      go_wp2
      go_quiet (fail)
      go_wp2
      go_roundw
      case rel =>
        rw [unhide HME]
        have := unhide HM
        exact ⟨v, u % v, rfl, rfl, hv, by omega, hide ((gcd_next u v).trans (unhide HG)), hide (Only.allN (unhide HO) nq)⟩
      case measure =>
        have := unhide HM
        rw [unhide HME]
        simp only [intOf, Int.toNat_natCast]
        exact this

end Go.Proofs.Ytkpbgjgebjcfeaa
