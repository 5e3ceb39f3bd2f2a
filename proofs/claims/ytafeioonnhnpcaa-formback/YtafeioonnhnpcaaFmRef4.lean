/- The document on the known floats. -/
import Derived.Test.YtafeioonnhnpcaaFmRef3
namespace Go.Proofs.Ytafeioonnhnpcaa
open Go.RowKit

set_option maxHeartbeats 400000 in
theorem rknown_ok (E F b ex fr : Nat) (neg : Bool) (h : Fo E F) (hB : Bt E F b neg ex fr) (w : World) : Calls Try.prog 59 #[.agg #[.int .i64 E, .int .i64 F], .bool neg, .int .i64 ex, .int .u64 fr] w fun e w' => e = .returned (.tuple #[.int .u64 b, .int .i64 0]) ∧ Below w.heap.size w w' := by
  have HB := hide hB
  clear hB
  go_enter Try.func59, Try.ntmps59
  go_wp2_with fail
  refine (rJoin_ok _ _ b ex fr neg h (unhide HB) _).mono ?_
  rintro e w1 ⟨rfl, hb1⟩
  have hS := (Fs.one w _ _).kept hb1
  obtain ⟨⟨z1_0_0, z1_0_1, -⟩, -⟩ := hS.cells
  go_wp2
  go_ret2
  exact ⟨rfl, hS.fr⟩

set_option maxHeartbeats 400000 in
theorem rknown_bad (E F : Int) (hbad : NoFo E F) (x fr : Int) (neg : Bool) (w : World) : Calls Try.prog 59 #[.agg #[.int .i64 E, .int .i64 F], .bool neg, .int .i64 x, .int .u64 fr] w fun e w' => e = .returned (.tuple #[.int .u64 0, .int .i64 5]) ∧ Below w.heap.size w w' := by
  have HB := hide hbad
  clear hbad
  go_enter Try.func59, Try.ntmps59
  go_wp2_with fail
  refine (rJoin_bad _ _ (unhide HB) _ _ _ _).mono ?_
  rintro e w1 ⟨rfl, hb1⟩
  have hS := (Fs.one w _ _).kept hb1
  obtain ⟨⟨z1_0_0, z1_0_1, -⟩, -⟩ := hS.cells
  go_wp2
  go_ret2
  exact ⟨rfl, hS.fr⟩

set_option maxHeartbeats 400000 in
theorem rNought_ok (E F b : Nat) (neg : Bool) (h : Fo E F) (hB : Bt E F b neg 0 0) (w : World) : Calls Try.prog 23 #[.agg #[.int .i64 E, .int .i64 F], .bool neg] w fun e w' => e = .returned (.tuple #[.int .u64 b, .int .i64 0]) ∧ Below w.heap.size w w' := by
  have HB := hide hB
  clear hB
  go_enter Try.func23, Try.ntmps23
  go_wp2_with fail
  refine (rknown_ok _ _ b 0 0 neg h (unhide HB) _).mono ?_
  rintro e w1 ⟨rfl, hb1⟩
  have hS := (Fs.one w _ _).kept hb1
  obtain ⟨⟨z1_0_0, z1_0_1, -⟩, -⟩ := hS.cells
  go_wp2
  go_ret2
  exact ⟨rfl, hS.fr⟩

set_option maxHeartbeats 400000 in
theorem rNought_bad (E F : Int) (hbad : NoFo E F) (neg : Bool) (w : World) : Calls Try.prog 23 #[.agg #[.int .i64 E, .int .i64 F], .bool neg] w fun e w' => e = .returned (.tuple #[.int .u64 0, .int .i64 5]) ∧ Below w.heap.size w w' := by
  have HB := hide hbad
  clear hbad
  go_enter Try.func23, Try.ntmps23
  go_wp2_with fail
  refine (rknown_bad _ _ (unhide HB) _ _ _ _).mono ?_
  rintro e w1 ⟨rfl, hb1⟩
  have hS := (Fs.one w _ _).kept hb1
  obtain ⟨⟨z1_0_0, z1_0_1, -⟩, -⟩ := hS.cells
  go_wp2
  go_ret2
  exact ⟨rfl, hS.fr⟩

set_option maxHeartbeats 400000 in
theorem rNormal_ok (E F b : Nat) (neg : Bool) (h : Fo E F) (hB : Bt E F b neg 1 0) (w : World) : Calls Try.prog 31 #[.agg #[.int .i64 E, .int .i64 F], .bool neg] w fun e w' => e = .returned (.tuple #[.int .u64 b, .int .i64 0]) ∧ Below w.heap.size w w' := by
  have HB := hide hB
  clear hB
  go_enter Try.func31, Try.ntmps31
  go_wp2_with fail
  refine (rknown_ok _ _ b 1 0 neg h (unhide HB) _).mono ?_
  rintro e w1 ⟨rfl, hb1⟩
  have hS := (Fs.one w _ _).kept hb1
  obtain ⟨⟨z1_0_0, z1_0_1, -⟩, -⟩ := hS.cells
  go_wp2
  go_ret2
  exact ⟨rfl, hS.fr⟩

set_option maxHeartbeats 400000 in
theorem rNormal_bad (E F : Int) (hbad : NoFo E F) (neg : Bool) (w : World) : Calls Try.prog 31 #[.agg #[.int .i64 E, .int .i64 F], .bool neg] w fun e w' => e = .returned (.tuple #[.int .u64 0, .int .i64 5]) ∧ Below w.heap.size w w' := by
  have HB := hide hbad
  clear hbad
  go_enter Try.func31, Try.ntmps31
  go_wp2_with fail
  refine (rknown_bad _ _ (unhide HB) _ _ _ _).mono ?_
  rintro e w1 ⟨rfl, hb1⟩
  have hS := (Fs.one w _ _).kept hb1
  obtain ⟨⟨z1_0_0, z1_0_1, -⟩, -⟩ := hS.cells
  go_wp2
  go_ret2
  exact ⟨rfl, hS.fr⟩

set_option maxHeartbeats 400000 in
theorem rLeast_ok (E F b : Nat) (neg : Bool) (h : Fo E F) (hB : Bt E F b neg 0 1) (w : World) : Calls Try.prog 33 #[.agg #[.int .i64 E, .int .i64 F], .bool neg] w fun e w' => e = .returned (.tuple #[.int .u64 b, .int .i64 0]) ∧ Below w.heap.size w w' := by
  have HB := hide hB
  clear hB
  go_enter Try.func33, Try.ntmps33
  go_wp2_with fail
  refine (rknown_ok _ _ b 0 1 neg h (unhide HB) _).mono ?_
  rintro e w1 ⟨rfl, hb1⟩
  have hS := (Fs.one w _ _).kept hb1
  obtain ⟨⟨z1_0_0, z1_0_1, -⟩, -⟩ := hS.cells
  go_wp2
  go_ret2
  exact ⟨rfl, hS.fr⟩

set_option maxHeartbeats 400000 in
theorem rLeast_bad (E F : Int) (hbad : NoFo E F) (neg : Bool) (w : World) : Calls Try.prog 33 #[.agg #[.int .i64 E, .int .i64 F], .bool neg] w fun e w' => e = .returned (.tuple #[.int .u64 0, .int .i64 5]) ∧ Below w.heap.size w w' := by
  have HB := hide hbad
  clear hbad
  go_enter Try.func33, Try.ntmps33
  go_wp2_with fail
  refine (rknown_bad _ _ (unhide HB) _ _ _ _).mono ?_
  rintro e w1 ⟨rfl, hb1⟩
  have hS := (Fs.one w _ _).kept hb1
  obtain ⟨⟨z1_0_0, z1_0_1, -⟩, -⟩ := hS.cells
  go_wp2
  go_ret2
  exact ⟨rfl, hS.fr⟩

set_option maxHeartbeats 400000 in
theorem rInfinite_bad (E F : Int) (hbad : NoFo E F) (neg : Bool) (w : World) : Calls Try.prog 25 #[.agg #[.int .i64 E, .int .i64 F], .bool neg] w fun e w' => e = .returned (.tuple #[.int .u64 0, .int .i64 5]) ∧ Below w.heap.size w w' := by
  have HB := hide hbad
  clear hbad
  go_enter Try.func25, Try.ntmps25
  go_wp2_with fail
  refine (rcheck_bad _ _ _ (unhide HB)).mono ?_
  rintro e w1 ⟨rfl, hb1⟩
  have hS := (Fs.one w _ _).kept hb1
  obtain ⟨⟨z1_0_0, z1_0_1, -⟩, -⟩ := hS.cells
  go_wp2
  go_ret2
  exact ⟨rfl, hS.fr⟩

set_option maxHeartbeats 400000 in
theorem rGreatest_bad (E F : Int) (hbad : NoFo E F) (neg : Bool) (w : World) : Calls Try.prog 29 #[.agg #[.int .i64 E, .int .i64 F], .bool neg] w fun e w' => e = .returned (.tuple #[.int .u64 0, .int .i64 5]) ∧ Below w.heap.size w w' := by
  have HB := hide hbad
  clear hbad
  go_enter Try.func29, Try.ntmps29
  go_wp2_with fail
  refine (rcheck_bad _ _ _ (unhide HB)).mono ?_
  rintro e w1 ⟨rfl, hb1⟩
  have hS := (Fs.one w _ _).kept hb1
  obtain ⟨⟨z1_0_0, z1_0_1, -⟩, -⟩ := hS.cells
  go_wp2
  go_ret2
  exact ⟨rfl, hS.fr⟩

set_option maxHeartbeats 400000 in
theorem rInfinite_ok (E F b m1 : Nat) (neg : Bool) (h : Fo E F) (hB : Bt E F b neg m1 0) (hm : Hid (m1 = 2 ^ E - 1)) (w : World) : Calls Try.prog 25 #[.agg #[.int .i64 E, .int .i64 F], .bool neg] w fun e w' => e = .returned (.tuple #[.int .u64 b, .int .i64 0]) ∧ Below w.heap.size w w' := by
  have HB := hide hB
  clear hB
  go_enter Try.func25, Try.ntmps25
  go_wp2_with fail
  refine (rcheck_ok _ _ _ h).mono ?_
  rintro e w1 ⟨rfl, hb1⟩
  have hS := (Fs.one w _ _).kept hb1
  obtain ⟨⟨z1_0_0, z1_0_1, -⟩, -⟩ := hS.cells
  go_wp2_with fail
  refine wp_region_any (by kernel_rfl) ?_
  refine wpAny_det [some (9, .agg #[.int .i64 E, .int .i64 F]), some (10, .bool neg), some (11, .agg #[.int .i64 E, .int .i64 F]), some (12, .int .i64 m1), some (13, .tuple #[.int .u64 b, .int .i64 0]), some (14, .int .u64 b), some (15, .int .i64 0), some (4, .int .u64 b), some (5, .int .i64 0)]
    (fun _ W9 => Fs w W9 [⟨w.heap.size, #[.int .i64 E, .int .i64 F], 23⟩]) _ _ rfl (by kernel_rfl) rfl rfl ?_ ?_ (hS).drew
  · intro l9 t9 W9 i9 hD hi9 hl9 hM
    obtain ⟨o9, ho9, hd9⟩ := (mem_ready.1 hi9).2
    have hin9 : i9 < 9 := by
      by_cases h : i9 < 9
      · exact h
      · rw [Array.getElem?_eq_none (by rw [hD.len]; simp; omega)] at hl9; cases hl9
    have hcase : i9 = 0 ∨ i9 = 1 ∨ i9 = 2 ∨ i9 = 3 ∨ i9 = 4 ∨ i9 = 5 ∨ i9 = 6 ∨ i9 = 7 ∨ i9 = 8 := by omega
    clear hin9
    rcases hcase with rfl | rfl | rfl | rfl | rfl | rfl | rfl | rfl | rfl
    · cases ho9
      have r2 := hD.old 2 _ rfl rfl
      have hM0 := hM
      have c9_0 := hM0.cellAt (b := w.heap.size) (cs := #[.int .i64 E, .int .i64 F]) (t := 23) (by simp) 0 _ rfl
      have c9_1 := hM0.cellAt (b := w.heap.size) (cs := #[.int .i64 E, .int .i64 F]) (t := 23) (by simp) 1 _ rfl
      clear hM0
      clear hD hd9 hi9
      refine wpOp_step rfl (fun K hK => ?_)
      go_simp
      exact hK _ _ ⟨rfl, hM⟩
    · cases ho9
      have r1 := hD.old 1 _ rfl rfl
      clear hD hd9 hi9
      refine wpOp_step rfl (fun K hK => ?_)
      go_simp
      exact hK _ _ ⟨rfl, hM⟩
    · cases ho9
      have r2 := hD.old 2 _ rfl rfl
      have hM0 := hM
      have c9_0 := hM0.cellAt (b := w.heap.size) (cs := #[.int .i64 E, .int .i64 F]) (t := 23) (by simp) 0 _ rfl
      have c9_1 := hM0.cellAt (b := w.heap.size) (cs := #[.int .i64 E, .int .i64 F]) (t := 23) (by simp) 1 _ rfl
      clear hM0
      clear hD hd9 hi9
      refine wpOp_step rfl (fun K hK => ?_)
      go_simp
      exact hK _ _ ⟨rfl, hM⟩
    · cases ho9
      have r11 := hD.on 2 11 _ rfl (getD_true (hd9 ⟨2, .data⟩ (by simp) rfl))
      clear hD hd9 hi9
      refine wpOp_step rfl (fun K hK => ?_)
      go_simp
      go_wp2_with fail
      refine (rtop_any _ _ m1 h hm _).mono ?_
      rintro en w9 ⟨rfl, hb9⟩
      exact hK _ _ ⟨rfl, hM.kept hb9⟩
    · cases ho9
      have r9 := hD.on 0 9 _ rfl (getD_true (hd9 ⟨0, .data⟩ (by simp) rfl))
      have r10 := hD.on 1 10 _ rfl (getD_true (hd9 ⟨1, .data⟩ (by simp) rfl))
      have r12 := hD.on 3 12 _ rfl (getD_true (hd9 ⟨3, .data⟩ (by simp) rfl))
      clear hD hd9 hi9
      refine wpOp_step rfl (fun K hK => ?_)
      go_simp
      go_wp2_with fail
      refine (rknown_ok _ _ b m1 0 neg h (unhide HB) _).mono ?_
      rintro en w9 ⟨rfl, hb9⟩
      exact hK _ _ ⟨rfl, hM.kept hb9⟩
    · cases ho9
      have r13 := hD.on 4 13 _ rfl (getD_true (hd9 ⟨4, .data⟩ (by simp) rfl))
      clear hD hd9 hi9
      refine wpOp_step rfl (fun K hK => ?_)
      go_simp
      exact hK _ _ ⟨rfl, hM⟩
    · cases ho9
      have r13 := hD.on 4 13 _ rfl (getD_true (hd9 ⟨4, .data⟩ (by simp) rfl))
      clear hD hd9 hi9
      refine wpOp_step rfl (fun K hK => ?_)
      go_simp
      exact hK _ _ ⟨rfl, hM⟩
    · cases ho9
      have r14 := hD.on 5 14 _ rfl (getD_true (hd9 ⟨5, .data⟩ (by simp) rfl))
      clear hD hd9 hi9
      refine wpOp_step rfl (fun K hK => ?_)
      go_simp
      exact hK _ _ ⟨rfl, hM⟩
    · cases ho9
      have r15 := hD.on 6 15 _ rfl (getD_true (hd9 ⟨6, .data⟩ (by simp) rfl))
      clear hD hd9 hi9
      refine wpOp_step rfl (fun K hK => ?_)
      go_simp
      exact hK _ _ ⟨rfl, hM⟩
  · intro l9 W9 hl9 hM
    clear hl9
    clear hS z1_0_0 z1_0_1
    have hS := hM
    clear hM
    simp only [Puts.lay, List.setIfInBounds_toArray, List.set_cons_zero, List.set_cons_succ]
    obtain ⟨⟨z2_0_0, z2_0_1, -⟩, -⟩ := hS.cells
    go_wp2
    go_ret2
    exact ⟨rfl, hS.fr⟩

set_option maxHeartbeats 400000 in
theorem rGreatest_ok (E F b m1 m0 : Nat) (neg : Bool) (h : Fo E F) (hB : Bt E F b neg m1 m0) (hm : Hid (m1 + 1 = 2 ^ E - 1)) (hm0 : Hid (m0 = 2 ^ F - 1)) (w : World) : Calls Try.prog 29 #[.agg #[.int .i64 E, .int .i64 F], .bool neg] w fun e w' => e = .returned (.tuple #[.int .u64 b, .int .i64 0]) ∧ Below w.heap.size w w' := by
  have HB := hide hB
  have hexl := hB.ex64 h
  have hfrl := hB.fr64 h
  have h52 := h.f52
  have HPF : Hid (m0 + 1 = 2 ^ F) := hide (by have := pow_pos2 F; rw [unhide hm0]; omega)
  clear hB hm0
  go_enter Try.func29, Try.ntmps29
  go_wp2_with fail
  refine (rcheck_ok _ _ _ h).mono ?_
  rintro e w1 ⟨rfl, hb1⟩
  have hS := (Fs.one w _ _).kept hb1
  obtain ⟨⟨z1_0_0, z1_0_1, -⟩, -⟩ := hS.cells
  go_wp2_with fail
  refine wp_region_any (by kernel_rfl) ?_
  refine wpAny_det [some (9, .agg #[.int .i64 E, .int .i64 F]), some (10, .bool neg), some (11, .agg #[.int .i64 E, .int .i64 F]), some (12, .int .i64 ((m1 + 1 : Nat) : Int)), some (13, .int .i64 m1), some (14, .pointer (some ⟨w.heap.size, 1, none⟩)), some (15, .int .i64 F), some (16, .int .u64 ((m0 + 1 : Nat) : Int)), some (17, .int .u64 m0), some (18, .tuple #[.int .u64 b, .int .i64 0]), some (19, .int .u64 b), some (20, .int .i64 0), some (4, .int .u64 b), some (5, .int .i64 0)]
    (fun _ W9 => Fs w W9 [⟨w.heap.size, #[.int .i64 E, .int .i64 F], 23⟩]) _ _ rfl (by kernel_rfl) rfl rfl ?_ ?_ (hS).drew
  · intro l9 t9 W9 i9 hD hi9 hl9 hM
    obtain ⟨o9, ho9, hd9⟩ := (mem_ready.1 hi9).2
    have hin9 : i9 < 14 := by
      by_cases h : i9 < 14
      · exact h
      · rw [Array.getElem?_eq_none (by rw [hD.len]; simp; omega)] at hl9; cases hl9
    have hcase : i9 = 0 ∨ i9 = 1 ∨ i9 = 2 ∨ i9 = 3 ∨ i9 = 4 ∨ i9 = 5 ∨ i9 = 6 ∨ i9 = 7 ∨ i9 = 8 ∨ i9 = 9 ∨ i9 = 10 ∨ i9 = 11 ∨ i9 = 12 ∨ i9 = 13 := by omega
    clear hin9
    rcases hcase with rfl | rfl | rfl | rfl | rfl | rfl | rfl | rfl | rfl | rfl | rfl | rfl | rfl | rfl
    · cases ho9
      have r2 := hD.old 2 _ rfl rfl
      have hM0 := hM
      have c9_0 := hM0.cellAt (b := w.heap.size) (cs := #[.int .i64 E, .int .i64 F]) (t := 23) (by simp) 0 _ rfl
      have c9_1 := hM0.cellAt (b := w.heap.size) (cs := #[.int .i64 E, .int .i64 F]) (t := 23) (by simp) 1 _ rfl
      clear hM0
      clear hD hd9 hi9
      refine wpOp_step rfl (fun K hK => ?_)
      go_simp
      exact hK _ _ ⟨rfl, hM⟩
    · cases ho9
      have r1 := hD.old 1 _ rfl rfl
      clear hD hd9 hi9
      refine wpOp_step rfl (fun K hK => ?_)
      go_simp
      exact hK _ _ ⟨rfl, hM⟩
    · cases ho9
      have r2 := hD.old 2 _ rfl rfl
      have hM0 := hM
      have c9_0 := hM0.cellAt (b := w.heap.size) (cs := #[.int .i64 E, .int .i64 F]) (t := 23) (by simp) 0 _ rfl
      have c9_1 := hM0.cellAt (b := w.heap.size) (cs := #[.int .i64 E, .int .i64 F]) (t := 23) (by simp) 1 _ rfl
      clear hM0
      clear hD hd9 hi9
      refine wpOp_step rfl (fun K hK => ?_)
      go_simp
      exact hK _ _ ⟨rfl, hM⟩
    · cases ho9
      have r11 := hD.on 2 11 _ rfl (getD_true (hd9 ⟨2, .data⟩ (by simp) rfl))
      clear hD hd9 hi9
      refine wpOp_step rfl (fun K hK => ?_)
      go_simp
      go_wp2_with fail
      refine (rtop_any _ _ (m1 + 1) h hm _).mono ?_
      rintro en w9 ⟨rfl, hb9⟩
      exact hK _ _ ⟨rfl, hM.kept hb9⟩
    · cases ho9
      have r12 := hD.on 3 12 _ rfl (getD_true (hd9 ⟨3, .data⟩ (by simp) rfl))
      clear hD hd9 hi9
      refine wpOp_step rfl (fun K hK => ?_)
      go_simp
      exact hK _ _ ⟨act_eq (by (show Value.int _ _ = Value.int _ _; congr 1; (first | rfl | omega | (rw [IntKind.wrap_i64]; omega) | (rw [IntKind.wrap_u64]; omega)))), hM⟩
    · cases ho9
      have r2 := hD.old 2 _ rfl rfl
      clear hD hd9 hi9
      refine wpOp_step rfl (fun K hK => ?_)
      go_simp
      exact hK _ _ ⟨rfl, hM⟩
    · cases ho9
      have r14 := hD.on 5 14 _ rfl (getD_true (hd9 ⟨5, .data⟩ (by simp) rfl))
      have hM0 := hM
      have c9_0 := hM0.cellAt (b := w.heap.size) (cs := #[.int .i64 E, .int .i64 F]) (t := 23) (by simp) 1 _ rfl
      clear hM0
      clear hD hd9 hi9
      refine wpOp_step rfl (fun K hK => ?_)
      go_simp
      exact hK _ _ ⟨rfl, hM⟩
    · cases ho9
      have r15 := hD.on 6 15 _ rfl (getD_true (hd9 ⟨6, .data⟩ (by simp) rfl))
      clear hD hd9 hi9
      refine wpOp_step rfl (fun K hK => ?_)
      go_simp
      go_wp2_with fail
      refine (rpow_any F (m0 + 1) _ (by omega) HPF).mono ?_
      rintro en w9 ⟨rfl, hb9⟩
      exact hK _ _ ⟨rfl, hM.kept hb9⟩
    · cases ho9
      have r16 := hD.on 7 16 _ rfl (getD_true (hd9 ⟨7, .data⟩ (by simp) rfl))
      clear hD hd9 hi9
      refine wpOp_step rfl (fun K hK => ?_)
      go_simp
      exact hK _ _ ⟨act_eq (by (show Value.int _ _ = Value.int _ _; congr 1; (first | rfl | omega | (rw [IntKind.wrap_i64]; omega) | (rw [IntKind.wrap_u64]; omega)))), hM⟩
    · cases ho9
      have r9 := hD.on 0 9 _ rfl (getD_true (hd9 ⟨0, .data⟩ (by simp) rfl))
      have r10 := hD.on 1 10 _ rfl (getD_true (hd9 ⟨1, .data⟩ (by simp) rfl))
      have r13 := hD.on 4 13 _ rfl (getD_true (hd9 ⟨4, .data⟩ (by simp) rfl))
      have r17 := hD.on 8 17 _ rfl (getD_true (hd9 ⟨8, .data⟩ (by simp) rfl))
      clear hD hd9 hi9
      refine wpOp_step rfl (fun K hK => ?_)
      go_simp
      go_wp2_with fail
      refine (rknown_ok _ _ b m1 m0 neg h (unhide HB) _).mono ?_
      rintro en w9 ⟨rfl, hb9⟩
      exact hK _ _ ⟨rfl, hM.kept hb9⟩
    · cases ho9
      have r18 := hD.on 9 18 _ rfl (getD_true (hd9 ⟨9, .data⟩ (by simp) rfl))
      clear hD hd9 hi9
      refine wpOp_step rfl (fun K hK => ?_)
      go_simp
      exact hK _ _ ⟨rfl, hM⟩
    · cases ho9
      have r18 := hD.on 9 18 _ rfl (getD_true (hd9 ⟨9, .data⟩ (by simp) rfl))
      clear hD hd9 hi9
      refine wpOp_step rfl (fun K hK => ?_)
      go_simp
      exact hK _ _ ⟨rfl, hM⟩
    · cases ho9
      have r19 := hD.on 10 19 _ rfl (getD_true (hd9 ⟨10, .data⟩ (by simp) rfl))
      clear hD hd9 hi9
      refine wpOp_step rfl (fun K hK => ?_)
      go_simp
      exact hK _ _ ⟨rfl, hM⟩
    · cases ho9
      have r20 := hD.on 11 20 _ rfl (getD_true (hd9 ⟨11, .data⟩ (by simp) rfl))
      clear hD hd9 hi9
      refine wpOp_step rfl (fun K hK => ?_)
      go_simp
      exact hK _ _ ⟨rfl, hM⟩
  · intro l9 W9 hl9 hM
    clear hl9
    clear hS z1_0_0 z1_0_1
    have hS := hM
    clear hM
    simp only [Puts.lay, List.setIfInBounds_toArray, List.set_cons_zero, List.set_cons_succ]
    obtain ⟨⟨z2_0_0, z2_0_1, -⟩, -⟩ := hS.cells
    go_wp2
    go_ret2
    exact ⟨rfl, hS.fr⟩

set_option maxHeartbeats 400000 in
theorem rNone_bad (E F : Int) (hbad : NoFo E F) (neg : Bool) (p : Int) (w : World) : Calls Try.prog 27 #[.agg #[.int .i64 E, .int .i64 F], .bool neg, .int .u64 p] w fun e w' => e = .returned (.tuple #[.int .u64 0, .int .i64 5]) ∧ Below w.heap.size w w' := by
  have HB := hide hbad
  clear hbad
  go_enter Try.func27, Try.ntmps27
  go_wp2_with fail
  refine (rcheck_bad _ _ _ (unhide HB)).mono ?_
  rintro e w1 ⟨rfl, hb1⟩
  have hS := (Fs.one w _ _).kept hb1
  obtain ⟨⟨z1_0_0, z1_0_1, -⟩, -⟩ := hS.cells
  go_wp2
  go_ret2
  exact ⟨rfl, hS.fr⟩

set_option maxHeartbeats 400000 in
theorem rNone_many (E F p : Nat) (neg : Bool) (h : Fo E F) (hp : 2 ^ (F - 1) ≤ p) (w : World) : Calls Try.prog 27 #[.agg #[.int .i64 E, .int .i64 F], .bool neg, .int .u64 p] w fun e w' => e = .returned (.tuple #[.int .u64 0, .int .i64 30]) ∧ Below w.heap.size w w' := by
  obtain ⟨k, hk⟩ : ∃ k, k = F - 1 := ⟨_, rfl⟩
  have hkF : (F : Int) - 1 = (k : Int) := by have := h.f1; omega
  have hk63 : k ≤ 63 := by have := h.f52; omega
  have h52 := h.f52
  have hF1 := h.f1
  obtain ⟨m, hm⟩ : ∃ m, m = 2 ^ k := ⟨_, rfl⟩
  have HM := hide hm
  have hpm : m ≤ p := by rw [hm, hk]; exact hp
  clear hm hp hk
  go_enter Try.func27, Try.ntmps27
  go_wp2_with fail
  refine (rcheck_ok _ _ _ h).mono ?_
  rintro e w1 ⟨rfl, hb1⟩
  have hS := (Fs.one w _ _).kept hb1
  obtain ⟨⟨z1_0_0, z1_0_1, -⟩, -⟩ := hS.cells
  go_wp2_with fail
  refine (rpow_any k m _ hk63 HM).mono ?_
  rintro e w2 ⟨rfl, hb2⟩
  replace hS := hS.kept hb2
  clear z1_0_0 z1_0_1
  obtain ⟨⟨z2_0_0, z2_0_1, -⟩, -⟩ := hS.cells
  go_wp2
  go_ret2
  exact ⟨rfl, hS.fr⟩

set_option maxHeartbeats 400000 in
theorem rNone_ok (E F b p m1 fr : Nat) (neg : Bool) (h : Fo E F) (hp : p < 2 ^ (F - 1)) (hfr : fr = 2 ^ (F - 1) + p) (hm1 : Hid (m1 = 2 ^ E - 1)) (hB : Bt E F b neg m1 fr) (w : World) : Calls Try.prog 27 #[.agg #[.int .i64 E, .int .i64 F], .bool neg, .int .u64 p] w fun e w' => e = .returned (.tuple #[.int .u64 b, .int .i64 0]) ∧ Below w.heap.size w w' := by
  obtain ⟨k, hk⟩ : ∃ k, k = F - 1 := ⟨_, rfl⟩
  have hkF : (F : Int) - 1 = (k : Int) := by have := h.f1; omega
  have hk63 : k ≤ 63 := by have := h.f52; omega
  have h52 := h.f52
  have hF1 := h.f1
  obtain ⟨m, hm⟩ : ∃ m, m = 2 ^ k := ⟨_, rfl⟩
  have HM := hide hm
  have hpm : p < m := by rw [hm, hk]; exact hp
  have hfm : fr = m + p := by rw [hm, hk]; exact hfr
  have HFM := hide hfm
  have hfrl := hB.fr64 h
  have HB := hide hB
  clear hm hp hfr hB hk hfm
  go_enter Try.func27, Try.ntmps27
  go_wp2_with fail
  refine (rcheck_ok _ _ _ h).mono ?_
  rintro e w1 ⟨rfl, hb1⟩
  have hS := (Fs.one w _ _).kept hb1
  obtain ⟨⟨z1_0_0, z1_0_1, -⟩, -⟩ := hS.cells
  go_wp2_with fail
  refine (rpow_any k m _ hk63 HM).mono ?_
  rintro e w2 ⟨rfl, hb2⟩
  replace hS := hS.kept hb2
  clear z1_0_0 z1_0_1
  obtain ⟨⟨z2_0_0, z2_0_1, -⟩, -⟩ := hS.cells
  go_wp2_with fail
  refine wp_region_any (by kernel_rfl) ?_
  refine wpAny_det [some (17, .agg #[.int .i64 E, .int .i64 F]), some (18, .bool neg), some (19, .agg #[.int .i64 E, .int .i64 F]), some (20, .int .i64 m1), some (21, .pointer (some ⟨w.heap.size, 1, none⟩)), some (22, .int .i64 F), some (23, .int .i64 k), some (24, .int .u64 m), some (25, .int .u64 p), some (26, .int .u64 fr), some (27, .tuple #[.int .u64 b, .int .i64 0]), some (28, .int .u64 b), some (29, .int .i64 0), some (6, .int .u64 b), some (7, .int .i64 0)]
    (fun _ W9 => Fs w W9 [⟨w.heap.size, #[.int .i64 E, .int .i64 F], 23⟩]) _ _ rfl (by kernel_rfl) rfl rfl ?_ ?_ (hS).drew
  · intro l9 t9 W9 i9 hD hi9 hl9 hM
    obtain ⟨o9, ho9, hd9⟩ := (mem_ready.1 hi9).2
    have hin9 : i9 < 15 := by
      by_cases h : i9 < 15
      · exact h
      · rw [Array.getElem?_eq_none (by rw [hD.len]; simp; omega)] at hl9; cases hl9
    have hcase : i9 = 0 ∨ i9 = 1 ∨ i9 = 2 ∨ i9 = 3 ∨ i9 = 4 ∨ i9 = 5 ∨ i9 = 6 ∨ i9 = 7 ∨ i9 = 8 ∨ i9 = 9 ∨ i9 = 10 ∨ i9 = 11 ∨ i9 = 12 ∨ i9 = 13 ∨ i9 = 14 := by omega
    clear hin9
    rcases hcase with rfl | rfl | rfl | rfl | rfl | rfl | rfl | rfl | rfl | rfl | rfl | rfl | rfl | rfl | rfl
    · cases ho9
      have r3 := hD.old 3 _ rfl rfl
      have hM0 := hM
      have c9_0 := hM0.cellAt (b := w.heap.size) (cs := #[.int .i64 E, .int .i64 F]) (t := 23) (by simp) 0 _ rfl
      have c9_1 := hM0.cellAt (b := w.heap.size) (cs := #[.int .i64 E, .int .i64 F]) (t := 23) (by simp) 1 _ rfl
      clear hM0
      clear hD hd9 hi9
      refine wpOp_step rfl (fun K hK => ?_)
      go_simp
      exact hK _ _ ⟨rfl, hM⟩
    · cases ho9
      have r1 := hD.old 1 _ rfl rfl
      clear hD hd9 hi9
      refine wpOp_step rfl (fun K hK => ?_)
      go_simp
      exact hK _ _ ⟨rfl, hM⟩
    · cases ho9
      have r3 := hD.old 3 _ rfl rfl
      have hM0 := hM
      have c9_0 := hM0.cellAt (b := w.heap.size) (cs := #[.int .i64 E, .int .i64 F]) (t := 23) (by simp) 0 _ rfl
      have c9_1 := hM0.cellAt (b := w.heap.size) (cs := #[.int .i64 E, .int .i64 F]) (t := 23) (by simp) 1 _ rfl
      clear hM0
      clear hD hd9 hi9
      refine wpOp_step rfl (fun K hK => ?_)
      go_simp
      exact hK _ _ ⟨rfl, hM⟩
    · cases ho9
      have r19 := hD.on 2 19 _ rfl (getD_true (hd9 ⟨2, .data⟩ (by simp) rfl))
      clear hD hd9 hi9
      refine wpOp_step rfl (fun K hK => ?_)
      go_simp
      go_wp2_with fail
      refine (rtop_any _ _ m1 h hm1 _).mono ?_
      rintro en w9 ⟨rfl, hb9⟩
      exact hK _ _ ⟨rfl, hM.kept hb9⟩
    · cases ho9
      have r3 := hD.old 3 _ rfl rfl
      clear hD hd9 hi9
      refine wpOp_step rfl (fun K hK => ?_)
      go_simp
      exact hK _ _ ⟨rfl, hM⟩
    · cases ho9
      have r21 := hD.on 4 21 _ rfl (getD_true (hd9 ⟨4, .data⟩ (by simp) rfl))
      have hM0 := hM
      have c9_0 := hM0.cellAt (b := w.heap.size) (cs := #[.int .i64 E, .int .i64 F]) (t := 23) (by simp) 1 _ rfl
      clear hM0
      clear hD hd9 hi9
      refine wpOp_step rfl (fun K hK => ?_)
      go_simp
      exact hK _ _ ⟨rfl, hM⟩
    · cases ho9
      have r22 := hD.on 5 22 _ rfl (getD_true (hd9 ⟨5, .data⟩ (by simp) rfl))
      clear hD hd9 hi9
      refine wpOp_step rfl (fun K hK => ?_)
      go_simp
      exact hK _ _ ⟨act_eq (by (show Value.int _ _ = Value.int _ _; congr 1; (first | rfl | omega | (rw [IntKind.wrap_i64]; omega) | (rw [IntKind.wrap_u64]; omega)))), hM⟩
    · cases ho9
      have r23 := hD.on 6 23 _ rfl (getD_true (hd9 ⟨6, .data⟩ (by simp) rfl))
      clear hD hd9 hi9
      refine wpOp_step rfl (fun K hK => ?_)
      go_simp
      go_wp2_with fail
      refine (rpow_any k m _ hk63 HM).mono ?_
      rintro en w9 ⟨rfl, hb9⟩
      exact hK _ _ ⟨rfl, hM.kept hb9⟩
    · cases ho9
      have r2 := hD.old 2 _ rfl rfl
      clear hD hd9 hi9
      refine wpOp_step rfl (fun K hK => ?_)
      go_simp
      exact hK _ _ ⟨rfl, hM⟩
    · cases ho9
      have r24 := hD.on 7 24 _ rfl (getD_true (hd9 ⟨7, .data⟩ (by simp) rfl))
      have r25 := hD.on 8 25 _ rfl (getD_true (hd9 ⟨8, .data⟩ (by simp) rfl))
      clear hD hd9 hi9
      refine wpOp_step rfl (fun K hK => ?_)
      go_simp
      exact hK _ _ ⟨act_eq (by (refine congrArg (Value.int _) ?_; have := unhide HFM; rw [IntKind.wrap_u64]; omega)), hM⟩
    · cases ho9
      have r17 := hD.on 0 17 _ rfl (getD_true (hd9 ⟨0, .data⟩ (by simp) rfl))
      have r18 := hD.on 1 18 _ rfl (getD_true (hd9 ⟨1, .data⟩ (by simp) rfl))
      have r20 := hD.on 3 20 _ rfl (getD_true (hd9 ⟨3, .data⟩ (by simp) rfl))
      have r26 := hD.on 9 26 _ rfl (getD_true (hd9 ⟨9, .data⟩ (by simp) rfl))
      clear hD hd9 hi9
      refine wpOp_step rfl (fun K hK => ?_)
      go_simp
      go_wp2_with fail
      refine (rknown_ok _ _ b m1 fr neg h (unhide HB) _).mono ?_
      rintro en w9 ⟨rfl, hb9⟩
      exact hK _ _ ⟨rfl, hM.kept hb9⟩
    · cases ho9
      have r27 := hD.on 10 27 _ rfl (getD_true (hd9 ⟨10, .data⟩ (by simp) rfl))
      clear hD hd9 hi9
      refine wpOp_step rfl (fun K hK => ?_)
      go_simp
      exact hK _ _ ⟨rfl, hM⟩
    · cases ho9
      have r27 := hD.on 10 27 _ rfl (getD_true (hd9 ⟨10, .data⟩ (by simp) rfl))
      clear hD hd9 hi9
      refine wpOp_step rfl (fun K hK => ?_)
      go_simp
      exact hK _ _ ⟨rfl, hM⟩
    · cases ho9
      have r28 := hD.on 11 28 _ rfl (getD_true (hd9 ⟨11, .data⟩ (by simp) rfl))
      clear hD hd9 hi9
      refine wpOp_step rfl (fun K hK => ?_)
      go_simp
      exact hK _ _ ⟨rfl, hM⟩
    · cases ho9
      have r29 := hD.on 12 29 _ rfl (getD_true (hd9 ⟨12, .data⟩ (by simp) rfl))
      clear hD hd9 hi9
      refine wpOp_step rfl (fun K hK => ?_)
      go_simp
      exact hK _ _ ⟨rfl, hM⟩
  · intro l9 W9 hl9 hM
    clear hl9
    clear hS z2_0_0 z2_0_1
    have hS := hM
    clear hM
    simp only [Puts.lay, List.setIfInBounds_toArray, List.set_cons_zero, List.set_cons_succ]
    obtain ⟨⟨z3_0_0, z3_0_1, -⟩, -⟩ := hS.cells
    go_wp2
    go_ret2
    exact ⟨rfl, hS.fr⟩

end Go.Proofs.Ytafeioonnhnpcaa
