/- The powers of the document. -/
import Derived.Test.YtafeioonnhnpcaaFmKnown
namespace Go.Proofs.Ytafeioonnhnpcaa
open Go.RowKit

set_option maxHeartbeats 400000 in
theorem rpow_same (n m : Nat) (w : World) (hn : n ≤ 63) (hm : Hid (m = 2 ^ n)) : Calls Try.prog 47 #[.int .i64 n] w fun e w' => e = .returned (.int .u64 (m : Int)) ∧ w' = w := by
  go_enter Try.func47, Try.ntmps47
  go_wp2
  go_loop [3, 4] (fun p i => ∃ (k acc : Nat), k ≤ n ∧ i = .int .i64 (k : Int) ∧ p = .int .u64 (acc : Int) ∧ acc = 2 ^ k) (fun _ i => n - (intOf i).toNat)
  case atStart => exact ⟨0, 1, Nat.zero_le _, rfl, rfl, rfl⟩
  case round =>
    obtain ⟨k, acc, hk, rfl, rfl, hv⟩ := hrel
    by_cases hkn : k = n
    · subst hkn
      have HV := hide hv
      clear hv hk
      go_wp2
      go_ret
      exact ⟨ret_u64 (by rw [unhide HV, unhide hm]), rfl⟩
    · have hlt : k < n := by omega
      obtain ⟨acc2, h2⟩ : ∃ acc2, acc2 = acc * 2 := ⟨_, rfl⟩
      have hb : acc2 < 18446744073709551616 := by
        have := pow_bound (show k + 1 ≤ 63 by omega)
        rw [Nat.pow_succ] at this
        omega
      have hmul : (acc : Int) * 2 = (acc2 : Int) := by omega
      have HV : Hid (acc2 = 2 ^ (k + 1)) := hide (by rw [h2, hv, Nat.pow_succ])
      clear hv h2 hkn hk
      go_wp2
      go_round
      case rel => exact ⟨k + 1, acc2, by omega, rfl, rfl, unhide HV⟩
      case measure => simp [intOf]; omega
theorem rpow_any (n m : Nat) (w : World) (hn : n ≤ 63) (hm : Hid (m = 2 ^ n)) : Calls Try.prog 47 #[.int .i64 n] w fun e w' => e = .returned (.int .u64 (m : Int)) ∧ Below w.heap.size w w' := by
  refine (rpow_same n m w hn hm).mono ?_
  rintro e w1 ⟨rfl, rfl⟩
  exact ⟨rfl, gr_refl _⟩

set_option maxHeartbeats 400000 in
theorem rtop_any (E F m : Nat) (h : Fo E F) (hm : Hid (m = 2 ^ E - 1)) (w : World) : Calls Try.prog 50 #[.agg #[.int .i64 E, .int .i64 F]] w fun e w' => e = .returned (.int .i64 m) ∧ Below w.heap.size w w' := by
  obtain ⟨p, hp⟩ : ∃ p, p = 2 ^ E := ⟨_, rfl⟩
  have HP := hide hp
  have hm1 : m + 1 = p := by have := pow_pos2 E; have := unhide hm; omega
  have hpl : p ≤ 2048 := by have := pow_bound h.e11; omega
  clear hp
  subst hm1
  have hE := h.e11
  go_enter Try.func50, Try.ntmps50
  go_wp2_with fail
  refine (rpow_any _ _ _ (by omega) HP).mono ?_
  rintro e w1 ⟨rfl, hb1⟩
  have hS := (Fs.one w _ _).kept hb1
  obtain ⟨⟨z1_0_0, z1_0_1, -⟩, -⟩ := hS.cells
  go_wp2
  go_ret
  exact ⟨ret_i64 (by omega), hS.fr⟩

set_option maxHeartbeats 400000 in
theorem rbias_any (E F m : Nat) (h : Fo E F) (hm : Hid (m = 2 ^ (E - 1) - 1)) (w : World) : Calls Try.prog 65 #[.agg #[.int .i64 E, .int .i64 F]] w fun e w' => e = .returned (.int .i64 m) ∧ Below w.heap.size w w' := by
  have h2 := h.e2
  have hE := h.e11
  obtain ⟨p, hp⟩ : ∃ p, p = 2 ^ (E - 1) := ⟨_, rfl⟩
  have hm1 : m + 1 = p := by have := pow_pos2 (E - 1); have := unhide hm; omega
  have hpl : p ≤ 1024 := by have := pow_bound (show E - 1 ≤ 10 by omega); omega
  obtain ⟨k, rfl⟩ : ∃ k, E = k + 1 := ⟨E - 1, by omega⟩
  rw [Nat.add_sub_cancel] at hp
  have HP := hide hp
  clear hp h
  subst hm1
  go_enter Try.func65, Try.ntmps65
  go_wp2_with fail
  refine (rpow_any k _ _ (by omega) HP).mono ?_
  rintro e w1 ⟨rfl, hb1⟩
  have hS := (Fs.one w _ _).kept hb1
  obtain ⟨⟨z1_0_0, z1_0_1, -⟩, -⟩ := hS.cells
  go_wp2
  go_ret
  exact ⟨ret_i64 (by omega), hS.fr⟩

end Go.Proofs.Ytafeioonnhnpcaa
