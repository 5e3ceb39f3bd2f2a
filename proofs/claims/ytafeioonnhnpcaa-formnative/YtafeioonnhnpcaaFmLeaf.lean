/- The least calls of package forms: Check, width, place, full, mask, take, put, quietBit, bias, lastExp. -/
import Derived.Test.YtafeioonnhnpcaaFmMath
namespace Go.Proofs.Ytafeioonnhnpcaa
open Go.RowKit

theorem ret_u64 {a b : Int} (h : a = b) : Ending.returned (.int .u64 a) = .returned (.int .u64 b) := by rw [h]
theorem ret_i64 {a b : Int} (h : a = b) : Ending.returned (.int .i64 a) = .returned (.int .i64 b) := by rw [h]

/-- A form that may be. -/
structure Fo (E F : Nat) : Prop where
  e2 : 2 ≤ E
  e11 : E ≤ 11
  f1 : 1 ≤ F
  f52 : F ≤ 52

theorem check_ok (E F : Nat) (w : World) (h : Fo E F) : Calls Try.prog 16 #[.agg #[.int .i64 E, .int .i64 F]] w fun e w' => e = .returned (.int .i64 0) ∧ Below w.heap.size w w' := by
  obtain ⟨h1, h2, h3, h4⟩ := h
  go_enter Try.func16, Try.ntmps16
  go_wp2
  go_ret
  exact ⟨rfl, gr_alloc _ _⟩
theorem check_bad (E F : Int) (w : World) (h : E < 2 ∨ 11 < E ∨ F < 1 ∨ 52 < F) : Calls Try.prog 16 #[.agg #[.int .i64 E, .int .i64 F]] w fun e w' => e = .returned (.int .i64 5) ∧ Below w.heap.size w w' := by
  go_enter Try.func16, Try.ntmps16
  go_wp2
  all_goals first
    | (go_ret; exact ⟨rfl, gr_alloc _ _⟩)
    | (exfalso; omega)
theorem rcheck_ok (E F : Nat) (w : World) (h : Fo E F) : Calls Try.prog 17 #[.agg #[.int .i64 E, .int .i64 F]] w fun e w' => e = .returned (.int .i64 0) ∧ Below w.heap.size w w' := by
  obtain ⟨h1, h2, h3, h4⟩ := h
  go_enter Try.func17, Try.ntmps17
  go_wp2
  go_ret
  exact ⟨rfl, gr_alloc _ _⟩
theorem rcheck_bad (E F : Int) (w : World) (h : E < 2 ∨ 11 < E ∨ F < 1 ∨ 52 < F) : Calls Try.prog 17 #[.agg #[.int .i64 E, .int .i64 F]] w fun e w' => e = .returned (.int .i64 5) ∧ Below w.heap.size w w' := by
  go_enter Try.func17, Try.ntmps17
  go_wp2
  all_goals first
    | (go_ret; exact ⟨rfl, gr_alloc _ _⟩)
    | (exfalso; omega)

theorem width0 (E F : Nat) (w : World) : Calls Try.prog 54 #[.agg #[.int .i64 E, .int .i64 F], .int .i64 0] w fun e w' => e = .returned (.int .i64 (F : Int)) ∧ Below w.heap.size w w' := by
  go_enter Try.func54, Try.ntmps54
  go_wp2
  go_ret
  exact ⟨rfl, gr_alloc _ _⟩
theorem width1 (E F : Nat) (w : World) : Calls Try.prog 54 #[.agg #[.int .i64 E, .int .i64 F], .int .i64 1] w fun e w' => e = .returned (.int .i64 (E : Int)) ∧ Below w.heap.size w w' := by
  go_enter Try.func54, Try.ntmps54
  go_wp2
  go_ret
  exact ⟨rfl, gr_alloc _ _⟩
theorem width2 (E F : Nat) (w : World) : Calls Try.prog 54 #[.agg #[.int .i64 E, .int .i64 F], .int .i64 2] w fun e w' => e = .returned (.int .i64 1) ∧ Below w.heap.size w w' := by
  go_enter Try.func54, Try.ntmps54
  go_wp2
  go_ret
  exact ⟨rfl, gr_alloc _ _⟩
theorem place0 (E F : Nat) (w : World) : Calls Try.prog 53 #[.agg #[.int .i64 E, .int .i64 F], .int .i64 0] w fun e w' => e = .returned (.int .i64 0) ∧ Below w.heap.size w w' := by
  go_enter Try.func53, Try.ntmps53
  go_wp2
  go_ret
  exact ⟨rfl, gr_alloc _ _⟩
theorem place1 (E F : Nat) (w : World) : Calls Try.prog 53 #[.agg #[.int .i64 E, .int .i64 F], .int .i64 1] w fun e w' => e = .returned (.int .i64 (F : Int)) ∧ Below w.heap.size w w' := by
  go_enter Try.func53, Try.ntmps53
  go_wp2
  go_ret
  exact ⟨rfl, gr_alloc _ _⟩
theorem place2 (E F k : Nat) (w : World) (h : Fo E F) (hk : Hid (k = F + E)) : Calls Try.prog 53 #[.agg #[.int .i64 E, .int .i64 F], .int .i64 2] w fun e w' => e = .returned (.int .i64 (k : Int)) ∧ Below w.heap.size w w' := by
  obtain ⟨h1, h2, h3, h4⟩ := h
  go_enter Try.func53, Try.ntmps53
  go_wp2
  go_ret
  exact ⟨by rw [unhide hk]; rfl, gr_alloc _ _⟩

theorem full0 (E F m : Nat) (w : World) (h : Fo E F) (hm : Hid (m = 2 ^ F - 1)) : Calls Try.prog 55 #[.agg #[.int .i64 E, .int .i64 F], .int .i64 0] w fun e w' => e = .returned (.int .u64 (m : Int)) ∧ Below w.heap.size w w' := by
  have h2 := h.e11
  have h4 := h.f52
  go_enter Try.func55, Try.ntmps55
  go_wp2_with fail
  refine (width0 _ _ _).mono ?_
  rintro e w1 ⟨rfl, hb1⟩
  go_wp2
  go_ret
  exact ⟨ret_u64 (by rw [full_u64 F (by omega), unhide hm]), gr_trans (gr_alloc _ _) hb1⟩
theorem full1 (E F m : Nat) (w : World) (h : Fo E F) (hm : Hid (m = 2 ^ E - 1)) : Calls Try.prog 55 #[.agg #[.int .i64 E, .int .i64 F], .int .i64 1] w fun e w' => e = .returned (.int .u64 (m : Int)) ∧ Below w.heap.size w w' := by
  have h2 := h.e11
  have h4 := h.f52
  go_enter Try.func55, Try.ntmps55
  go_wp2_with fail
  refine (width1 _ _ _).mono ?_
  rintro e w1 ⟨rfl, hb1⟩
  go_wp2
  go_ret
  exact ⟨ret_u64 (by rw [full_u64 E (by omega), unhide hm]), gr_trans (gr_alloc _ _) hb1⟩
theorem full2 (E F : Nat) (w : World) : Calls Try.prog 55 #[.agg #[.int .i64 E, .int .i64 F], .int .i64 2] w fun e w' => e = .returned (.int .u64 1) ∧ Below w.heap.size w w' := by
  go_enter Try.func55, Try.ntmps55
  go_wp2_with fail
  refine (width2 _ _ _).mono ?_
  rintro e w1 ⟨rfl, hb1⟩
  go_wp2
  go_ret
  exact ⟨rfl, gr_trans (gr_alloc _ _) hb1⟩


set_option maxHeartbeats 400000 in
theorem mask0 (E F m : Nat) (w : World) (h : Fo E F) (hm : Hid (m = 2 ^ F - 1)) : Calls Try.prog 66 #[.agg #[.int .i64 E, .int .i64 F], .int .i64 0] w fun e w' => e = .returned (.int .u64 (m : Int)) ∧ Below w.heap.size w w' := by
  have hs : m < 18446744073709551616 := by
    have h1 := pow_bound (show F ≤ 63 by have := h.f52; omega)
    have := unhide hm
    omega
  go_enter Try.func66, Try.ntmps66
  go_wp2_with fail
  refine (full0 _ _ m _ h hm).mono ?_
  rintro e w1 ⟨rfl, hb1⟩
  obtain ⟨hc1, hf1⟩ := bcell hb1
  go_wp2_with fail
  refine (place0 _ _ _).mono ?_
  rintro e w2 ⟨rfl, hb2⟩
  go_wp2
  go_ret
  exact ⟨rfl, gr_trans (gr_trans (gr_alloc _ _) hb1) hb2⟩
set_option maxHeartbeats 400000 in
theorem mask1 (E F m : Nat) (w : World) (h : Fo E F) (hm : Hid (m = (2 ^ E - 1) * 2 ^ F)) : Calls Try.prog 66 #[.agg #[.int .i64 E, .int .i64 F], .int .i64 1] w fun e w' => e = .returned (.int .u64 (m : Int)) ∧ Below w.heap.size w w' := by
  obtain ⟨n, hn⟩ : ∃ n, n = 2 ^ E - 1 := ⟨_, rfl⟩
  have HN := hide hn
  have hlt : n * 2 ^ F < 18446744073709551616 := by
    have h1 := pow_bound (show E + F ≤ 63 by have := h.f52; have := h.e11; omega)
    have : n * 2 ^ F ≤ 2 ^ E * 2 ^ F := Nat.mul_le_mul_right _ (hn ▸ Nat.sub_le _ _)
    rw [← Nat.pow_add] at this
    omega
  have HE : Hid (IntKind.u64.wrap ((n : Int) * 2 ^ F) = (m : Int)) := hide (by rw [shl_u64 n F hlt, unhide hm, hn])
  have h4 := h.f52
  clear hn hlt
  go_enter Try.func66, Try.ntmps66
  go_wp2_with fail
  refine (full1 _ _ n _ h HN).mono ?_
  rintro e w1 ⟨rfl, hb1⟩
  obtain ⟨hc1, hf1⟩ := bcell hb1
  go_wp2_with fail
  refine (place1 _ _ _).mono ?_
  rintro e w2 ⟨rfl, hb2⟩
  go_wp2
  go_ret
  exact ⟨ret_u64 (unhide HE), gr_trans (gr_trans (gr_alloc _ _) hb1) hb2⟩
set_option maxHeartbeats 400000 in
theorem mask2 (E F m : Nat) (w : World) (h : Fo E F) (hm : Hid (m = 2 ^ (F + E))) : Calls Try.prog 66 #[.agg #[.int .i64 E, .int .i64 F], .int .i64 2] w fun e w' => e = .returned (.int .u64 (m : Int)) ∧ Below w.heap.size w w' := by
  obtain ⟨k, hk⟩ : ∃ k, k = F + E := ⟨_, rfl⟩
  have HK := hide hk
  have hk63 : k ≤ 63 := by have := h.f52; have := h.e11; omega
  have HE : Hid (IntKind.u64.wrap (2 ^ k) = (m : Int)) := hide (by
    have := shl_u64 1 k (by have := pow_bound hk63; omega)
    rw [unhide hm, ← hk]
    simpa using this)
  clear hk
  go_enter Try.func66, Try.ntmps66
  go_wp2_with fail
  refine (full2 _ _ _).mono ?_
  rintro e w1 ⟨rfl, hb1⟩
  obtain ⟨hc1, hf1⟩ := bcell hb1
  go_wp2_with fail
  refine (place2 _ _ k _ h HK).mono ?_
  rintro e w2 ⟨rfl, hb2⟩
  go_wp2
  go_ret
  exact ⟨ret_u64 (unhide HE), gr_trans (gr_trans (gr_alloc _ _) hb1) hb2⟩

theorem quiet_any (E F m : Nat) (w : World) (h : Fo E F) (hm : Hid (m = 2 ^ (F - 1))) : Calls Try.prog 52 #[.agg #[.int .i64 E, .int .i64 F]] w fun e w' => e = .returned (.int .u64 (m : Int)) ∧ Below w.heap.size w w' := by
  have h3 := h.f1
  obtain ⟨k, rfl⟩ : ∃ k, F = k + 1 := ⟨F - 1, by omega⟩
  have hk63 : k ≤ 63 := by have := h.f52; omega
  have HE : Hid (IntKind.u64.wrap (2 ^ k) = (m : Int)) := hide (by
    have := shl_u64 1 k (by have := pow_bound hk63; omega)
    rw [unhide hm]
    simpa using this)
  clear h h3
  go_enter Try.func52, Try.ntmps52
  go_wp2
  go_ret
  exact ⟨ret_u64 (by simpa using unhide HE), gr_alloc _ _⟩
theorem bias_any (E F m : Nat) (w : World) (h : Fo E F) (hm : Hid (m = 2 ^ (E - 1) - 1)) : Calls Try.prog 64 #[.agg #[.int .i64 E, .int .i64 F]] w fun e w' => e = .returned (.int .i64 (m : Int)) ∧ Below w.heap.size w w' := by
  have h3 := h.e2
  obtain ⟨k, rfl⟩ : ∃ k, E = k + 1 := ⟨E - 1, by omega⟩
  have hk : k ≤ 10 := by have := h.e11; omega
  have HE : Hid (wrap64 (wrap64 (2 ^ k) - 1) = (m : Int)) := hide (by
    have h1 := pow_bound hk
    have h2 := pow_pos2 k
    have e : ((2 : Int) ^ k) = ((2 ^ k : Nat) : Int) := by simp
    rw [unhide hm, e, Nat.add_sub_cancel]
    unfold wrap64
    omega)
  clear h h3
  go_enter Try.func64, Try.ntmps64
  go_wp2
  go_ret
  exact ⟨ret_i64 (by simpa using unhide HE), gr_alloc _ _⟩
theorem lastExp_any (E F m : Nat) (w : World) (h : Fo E F) (hm : Hid (m = 2 ^ E - 1)) : Calls Try.prog 49 #[.agg #[.int .i64 E, .int .i64 F]] w fun e w' => e = .returned (.int .i64 (m : Int)) ∧ Below w.heap.size w w' := by
  have hm2 : m ≤ 2048 := by have := pow_bound h.e11; rw [unhide hm]; omega
  go_enter Try.func49, Try.ntmps49
  go_wp2_with fail
  refine (full1 _ _ m _ h hm).mono ?_
  rintro e w1 ⟨rfl, hb1⟩
  go_wp2
  go_ret
  exact ⟨rfl, gr_trans (gr_alloc _ _) hb1⟩

end Go.Proofs.Ytafeioonnhnpcaa
