/- The document on Class, Payload and Range. -/
import Derived.Test.YtafeioonnhnpcaaFmRef2
namespace Go.Proofs.Ytafeioonnhnpcaa
open Go.RowKit

set_option maxHeartbeats 400000 in
theorem rClass_many (E F b : Nat) (h : Fo E F) (hb : 2 ^ (F + E + 1) ≤ b) (hb64 : b < 18446744073709551616) (w : World) : Calls Try.prog 13 #[.agg #[.int .i64 E, .int .i64 F], .int .u64 b] w fun e w' => e = .returned (.tuple #[.int .u8 0, .int .i64 6]) ∧ Below w.heap.size w w' := by
  have HB := hide hb
  clear hb
  go_enter Try.func13, Try.ntmps13
  go_wp2_with fail
  refine (rSplit_many _ _ _ h (unhide HB) hb64 _).mono ?_
  rintro e w1 ⟨rfl, hb1⟩
  have hS := (Fs.one w _ _).kept hb1
  obtain ⟨⟨z1_0_0, z1_0_1, -⟩, -⟩ := hS.cells
  replace hS := hS.kept (gr_alloc w1 (.cells #[.bool false, .int .i64 0, .int .u64 0] 27))
  go_wp2
  go_ret2
  exact ⟨rfl, hS.fr⟩

set_option maxHeartbeats 400000 in
theorem rClass_bad (E F : Int) (hbad : NoFo E F) (b : Int) (w : World) : Calls Try.prog 13 #[.agg #[.int .i64 E, .int .i64 F], .int .u64 b] w fun e w' => e = .returned (.tuple #[.int .u8 0, .int .i64 5]) ∧ Below w.heap.size w w' := by
  have HB := hide hbad
  clear hbad
  go_enter Try.func13, Try.ntmps13
  go_wp2_with fail
  refine (rSplit_bad _ _ (unhide HB) _ _).mono ?_
  rintro e w1 ⟨rfl, hb1⟩
  have hS := (Fs.one w _ _).kept hb1
  obtain ⟨⟨z1_0_0, z1_0_1, -⟩, -⟩ := hS.cells
  replace hS := hS.kept (gr_alloc w1 (.cells #[.bool false, .int .i64 0, .int .u64 0] 27))
  go_wp2
  go_ret2
  exact ⟨rfl, hS.fr⟩

set_option maxHeartbeats 400000 in
theorem rClass1 (E F b ex fr : Nat) (neg : Bool) (h : Fo E F) (hB : Bt E F b neg ex fr) (h0 : ex = 0) (h1 : fr = 0) (w : World) : Calls Try.prog 13 #[.agg #[.int .i64 E, .int .i64 F], .int .u64 b] w fun e w' => e = .returned (.tuple #[.int .u8 1, .int .i64 0]) ∧ Below w.heap.size w w' := by
  subst h0
  subst h1
  have HB := hide hB
  clear hB
  go_enter Try.func13, Try.ntmps13
  go_wp2_with fail
  refine (rSplit_ok _ _ b 0 0 neg h (unhide HB) _).mono ?_
  rintro e w1 ⟨rfl, hb1⟩
  have hS := (Fs.one w _ _).kept hb1
  obtain ⟨⟨z1_0_0, z1_0_1, -⟩, -⟩ := hS.cells
  have hlt : w.heap.size < w1.heap.size := block_lt (hS.bx ⟨w.heap.size, #[.int .i64 E, .int .i64 F], 23⟩ (by simp))
  replace hS := hS.alloc #[.bool neg, .int .i64 0, .int .u64 0] 27
  go_wp2
  go_ret2
  exact ⟨rfl, hS.fr⟩

set_option maxHeartbeats 400000 in
theorem rClass2 (E F b ex fr : Nat) (neg : Bool) (h : Fo E F) (hB : Bt E F b neg ex fr) (h0 : ex = 0) (h1 : 0 < fr) (w : World) : Calls Try.prog 13 #[.agg #[.int .i64 E, .int .i64 F], .int .u64 b] w fun e w' => e = .returned (.tuple #[.int .u8 2, .int .i64 0]) ∧ Below w.heap.size w w' := by
  subst h0
  have HB := hide hB
  clear hB
  go_enter Try.func13, Try.ntmps13
  go_wp2_with fail
  refine (rSplit_ok _ _ b 0 fr neg h (unhide HB) _).mono ?_
  rintro e w1 ⟨rfl, hb1⟩
  have hS := (Fs.one w _ _).kept hb1
  obtain ⟨⟨z1_0_0, z1_0_1, -⟩, -⟩ := hS.cells
  have hlt : w.heap.size < w1.heap.size := block_lt (hS.bx ⟨w.heap.size, #[.int .i64 E, .int .i64 F], 23⟩ (by simp))
  replace hS := hS.alloc #[.bool neg, .int .i64 0, .int .u64 fr] 27
  go_wp2
  go_ret2
  exact ⟨rfl, hS.fr⟩

set_option maxHeartbeats 400000 in
theorem rClass3 (E F b ex fr : Nat) (neg : Bool) (h : Fo E F) (hB : Bt E F b neg ex fr) (top : Nat) (ht : Hid (top = 2 ^ E - 1)) (h0 : 0 < ex) (h1 : ex < top) (w : World) : Calls Try.prog 13 #[.agg #[.int .i64 E, .int .i64 F], .int .u64 b] w fun e w' => e = .returned (.tuple #[.int .u8 3, .int .i64 0]) ∧ Below w.heap.size w w' := by
  have HB := hide hB
  clear hB
  go_enter Try.func13, Try.ntmps13
  go_wp2_with fail
  refine (rSplit_ok _ _ b ex fr neg h (unhide HB) _).mono ?_
  rintro e w1 ⟨rfl, hb1⟩
  have hS := (Fs.one w _ _).kept hb1
  obtain ⟨⟨z1_0_0, z1_0_1, -⟩, -⟩ := hS.cells
  have hlt : w.heap.size < w1.heap.size := block_lt (hS.bx ⟨w.heap.size, #[.int .i64 E, .int .i64 F], 23⟩ (by simp))
  replace hS := hS.alloc #[.bool neg, .int .i64 ex, .int .u64 fr] 27
  go_wp2_with fail
  refine wp_region_any (by kernel_rfl) ?_
  refine wpAny_det [some (31, .pointer (some ⟨w1.heap.size, 1, none⟩)), some (32, .int .i64 ex), some (33, .agg #[.int .i64 E, .int .i64 F]), some (34, .int .i64 top), some (35, .bool true), some (30, .bool true)]
    (fun _ W9 => Fs w W9 [⟨w1.heap.size, #[.bool neg, .int .i64 ex, .int .u64 fr], 27⟩, ⟨w.heap.size, #[.int .i64 E, .int .i64 F], 23⟩]) _ _ rfl (by kernel_rfl) rfl rfl ?_ ?_ (hS).drew
  · intro l9 t9 W9 i9 hD hi9 hl9 hM
    obtain ⟨o9, ho9, hd9⟩ := (mem_ready.1 hi9).2
    have hin9 : i9 < 6 := by
      by_cases h : i9 < 6
      · exact h
      · rw [Array.getElem?_eq_none (by rw [hD.len]; simp; omega)] at hl9; cases hl9
    have hcase : i9 = 0 ∨ i9 = 1 ∨ i9 = 2 ∨ i9 = 3 ∨ i9 = 4 ∨ i9 = 5 := by omega
    clear hin9
    rcases hcase with rfl | rfl | rfl | rfl | rfl | rfl
    · cases ho9
      have r6 := hD.old 6 _ rfl rfl
      clear hD hd9 hi9
      refine wpOp_step rfl (fun K hK => ?_)
      go_simp
      exact hK _ _ ⟨rfl, hM⟩
    · cases ho9
      have r31 := hD.on 0 31 _ rfl (getD_true (hd9 ⟨0, .data⟩ (by simp) rfl))
      have hM0 := hM
      have c9_0 := hM0.cellAt (b := w1.heap.size) (cs := #[.bool neg, .int .i64 ex, .int .u64 fr]) (t := 27) (by simp) 1 _ rfl
      clear hM0
      clear hD hd9 hi9
      refine wpOp_step rfl (fun K hK => ?_)
      go_simp
      exact hK _ _ ⟨rfl, hM⟩
    · cases ho9
      have r2 := hD.old 2 _ rfl rfl
      have hM0 := hM
      have c9_0 := hM0.cellAt (b := w.heap.size) (cs := #[.int .i64 E, .int .i64 F]) (t := 23) (by simp) 0 _ rfl
      have c9_1 := hM0.cellAt (b := w.heap.size) (cs := #[.int .i64 E, .int .i64 F]) (t := 23) (by simp) 1 _ rfl
      clear hM0
      clear hD hd9 hi9
      refine wpOp_step rfl (fun K hK => ?_)
      go_simp
      exact hK _ _ ⟨rfl, hM⟩
    · cases ho9
      have r33 := hD.on 2 33 _ rfl (getD_true (hd9 ⟨2, .data⟩ (by simp) rfl))
      clear hD hd9 hi9
      refine wpOp_step rfl (fun K hK => ?_)
      go_simp
      go_wp2_with fail
      refine (rtop_any _ _ top h ht _).mono ?_
      rintro en w9 ⟨rfl, hb9⟩
      exact hK _ _ ⟨rfl, hM.kept hb9⟩
    · cases ho9
      have r32 := hD.on 1 32 _ rfl (getD_true (hd9 ⟨1, .data⟩ (by simp) rfl))
      have r34 := hD.on 3 34 _ rfl (getD_true (hd9 ⟨3, .data⟩ (by simp) rfl))
      clear hD hd9 hi9
      refine wpOp_step rfl (fun K hK => ?_)
      go_simp
      exact hK _ _ ⟨act_eq (by (first | rfl | skip); all_goals (rw [Value.bool.injEq]; first | (simp; done) | (simp; omega) | (rw [decide_eq_false_iff_not]; omega) | (rw [decide_eq_true_iff]; omega))), hM⟩
    · cases ho9
      have r35 := hD.on 4 35 _ rfl (getD_true (hd9 ⟨4, .data⟩ (by simp) rfl))
      clear hD hd9 hi9
      refine wpOp_step rfl (fun K hK => ?_)
      go_simp
      exact hK _ _ ⟨rfl, hM⟩
  · intro l9 W9 hl9 hM
    clear hl9
    clear hS z1_0_0 z1_0_1
    have hS := hM
    clear hM
    simp only [Puts.lay, List.setIfInBounds_toArray, List.set_cons_zero, List.set_cons_succ]
    obtain ⟨⟨z2_0_0, z2_0_1, z2_0_2, -⟩, ⟨z2_1_0, z2_1_1, -⟩, -⟩ := hS.cells
    go_wp2
    go_ret2
    exact ⟨rfl, hS.fr⟩

set_option maxHeartbeats 400000 in
theorem rClass4 (E F b ex fr : Nat) (neg : Bool) (h : Fo E F) (hB : Bt E F b neg ex fr) (top : Nat) (ht : Hid (top = 2 ^ E - 1)) (h0 : 0 < ex) (h1 : top ≤ ex) (h2 : fr = 0) (w : World) : Calls Try.prog 13 #[.agg #[.int .i64 E, .int .i64 F], .int .u64 b] w fun e w' => e = .returned (.tuple #[.int .u8 4, .int .i64 0]) ∧ Below w.heap.size w w' := by
  subst h2
  have HB := hide hB
  clear hB
  go_enter Try.func13, Try.ntmps13
  go_wp2_with fail
  refine (rSplit_ok _ _ b ex 0 neg h (unhide HB) _).mono ?_
  rintro e w1 ⟨rfl, hb1⟩
  have hS := (Fs.one w _ _).kept hb1
  obtain ⟨⟨z1_0_0, z1_0_1, -⟩, -⟩ := hS.cells
  have hlt : w.heap.size < w1.heap.size := block_lt (hS.bx ⟨w.heap.size, #[.int .i64 E, .int .i64 F], 23⟩ (by simp))
  replace hS := hS.alloc #[.bool neg, .int .i64 ex, .int .u64 0] 27
  go_wp2_with fail
  refine wp_region_any (by kernel_rfl) ?_
  refine wpAny_det [some (31, .pointer (some ⟨w1.heap.size, 1, none⟩)), some (32, .int .i64 ex), some (33, .agg #[.int .i64 E, .int .i64 F]), some (34, .int .i64 top), some (35, .bool false), some (30, .bool false)]
    (fun _ W9 => Fs w W9 [⟨w1.heap.size, #[.bool neg, .int .i64 ex, .int .u64 0], 27⟩, ⟨w.heap.size, #[.int .i64 E, .int .i64 F], 23⟩]) _ _ rfl (by kernel_rfl) rfl rfl ?_ ?_ (hS).drew
  · intro l9 t9 W9 i9 hD hi9 hl9 hM
    obtain ⟨o9, ho9, hd9⟩ := (mem_ready.1 hi9).2
    have hin9 : i9 < 6 := by
      by_cases h : i9 < 6
      · exact h
      · rw [Array.getElem?_eq_none (by rw [hD.len]; simp; omega)] at hl9; cases hl9
    have hcase : i9 = 0 ∨ i9 = 1 ∨ i9 = 2 ∨ i9 = 3 ∨ i9 = 4 ∨ i9 = 5 := by omega
    clear hin9
    rcases hcase with rfl | rfl | rfl | rfl | rfl | rfl
    · cases ho9
      have r6 := hD.old 6 _ rfl rfl
      clear hD hd9 hi9
      refine wpOp_step rfl (fun K hK => ?_)
      go_simp
      exact hK _ _ ⟨rfl, hM⟩
    · cases ho9
      have r31 := hD.on 0 31 _ rfl (getD_true (hd9 ⟨0, .data⟩ (by simp) rfl))
      have hM0 := hM
      have c9_0 := hM0.cellAt (b := w1.heap.size) (cs := #[.bool neg, .int .i64 ex, .int .u64 0]) (t := 27) (by simp) 1 _ rfl
      clear hM0
      clear hD hd9 hi9
      refine wpOp_step rfl (fun K hK => ?_)
      go_simp
      exact hK _ _ ⟨rfl, hM⟩
    · cases ho9
      have r2 := hD.old 2 _ rfl rfl
      have hM0 := hM
      have c9_0 := hM0.cellAt (b := w.heap.size) (cs := #[.int .i64 E, .int .i64 F]) (t := 23) (by simp) 0 _ rfl
      have c9_1 := hM0.cellAt (b := w.heap.size) (cs := #[.int .i64 E, .int .i64 F]) (t := 23) (by simp) 1 _ rfl
      clear hM0
      clear hD hd9 hi9
      refine wpOp_step rfl (fun K hK => ?_)
      go_simp
      exact hK _ _ ⟨rfl, hM⟩
    · cases ho9
      have r33 := hD.on 2 33 _ rfl (getD_true (hd9 ⟨2, .data⟩ (by simp) rfl))
      clear hD hd9 hi9
      refine wpOp_step rfl (fun K hK => ?_)
      go_simp
      go_wp2_with fail
      refine (rtop_any _ _ top h ht _).mono ?_
      rintro en w9 ⟨rfl, hb9⟩
      exact hK _ _ ⟨rfl, hM.kept hb9⟩
    · cases ho9
      have r32 := hD.on 1 32 _ rfl (getD_true (hd9 ⟨1, .data⟩ (by simp) rfl))
      have r34 := hD.on 3 34 _ rfl (getD_true (hd9 ⟨3, .data⟩ (by simp) rfl))
      clear hD hd9 hi9
      refine wpOp_step rfl (fun K hK => ?_)
      go_simp
      exact hK _ _ ⟨act_eq (by (first | rfl | skip); all_goals (rw [Value.bool.injEq]; first | (simp; done) | (simp; omega) | (rw [decide_eq_false_iff_not]; omega) | (rw [decide_eq_true_iff]; omega))), hM⟩
    · cases ho9
      have r35 := hD.on 4 35 _ rfl (getD_true (hd9 ⟨4, .data⟩ (by simp) rfl))
      clear hD hd9 hi9
      refine wpOp_step rfl (fun K hK => ?_)
      go_simp
      exact hK _ _ ⟨rfl, hM⟩
  · intro l9 W9 hl9 hM
    clear hl9
    clear hS z1_0_0 z1_0_1
    have hS := hM
    clear hM
    simp only [Puts.lay, List.setIfInBounds_toArray, List.set_cons_zero, List.set_cons_succ]
    obtain ⟨⟨z2_0_0, z2_0_1, z2_0_2, -⟩, ⟨z2_1_0, z2_1_1, -⟩, -⟩ := hS.cells
    go_wp2
    go_ret2
    exact ⟨rfl, hS.fr⟩

set_option maxHeartbeats 400000 in
theorem rClass5 (E F b ex fr : Nat) (neg : Bool) (h : Fo E F) (hB : Bt E F b neg ex fr) (top : Nat) (ht : Hid (top = 2 ^ E - 1)) (h0 : 0 < ex) (h1 : top ≤ ex) (h2 : 0 < fr) (w : World) : Calls Try.prog 13 #[.agg #[.int .i64 E, .int .i64 F], .int .u64 b] w fun e w' => e = .returned (.tuple #[.int .u8 5, .int .i64 0]) ∧ Below w.heap.size w w' := by
  have HB := hide hB
  clear hB
  go_enter Try.func13, Try.ntmps13
  go_wp2_with fail
  refine (rSplit_ok _ _ b ex fr neg h (unhide HB) _).mono ?_
  rintro e w1 ⟨rfl, hb1⟩
  have hS := (Fs.one w _ _).kept hb1
  obtain ⟨⟨z1_0_0, z1_0_1, -⟩, -⟩ := hS.cells
  have hlt : w.heap.size < w1.heap.size := block_lt (hS.bx ⟨w.heap.size, #[.int .i64 E, .int .i64 F], 23⟩ (by simp))
  replace hS := hS.alloc #[.bool neg, .int .i64 ex, .int .u64 fr] 27
  go_wp2_with fail
  refine wp_region_any (by kernel_rfl) ?_
  refine wpAny_det [some (31, .pointer (some ⟨w1.heap.size, 1, none⟩)), some (32, .int .i64 ex), some (33, .agg #[.int .i64 E, .int .i64 F]), some (34, .int .i64 top), some (35, .bool false), some (30, .bool false)]
    (fun _ W9 => Fs w W9 [⟨w1.heap.size, #[.bool neg, .int .i64 ex, .int .u64 fr], 27⟩, ⟨w.heap.size, #[.int .i64 E, .int .i64 F], 23⟩]) _ _ rfl (by kernel_rfl) rfl rfl ?_ ?_ (hS).drew
  · intro l9 t9 W9 i9 hD hi9 hl9 hM
    obtain ⟨o9, ho9, hd9⟩ := (mem_ready.1 hi9).2
    have hin9 : i9 < 6 := by
      by_cases h : i9 < 6
      · exact h
      · rw [Array.getElem?_eq_none (by rw [hD.len]; simp; omega)] at hl9; cases hl9
    have hcase : i9 = 0 ∨ i9 = 1 ∨ i9 = 2 ∨ i9 = 3 ∨ i9 = 4 ∨ i9 = 5 := by omega
    clear hin9
    rcases hcase with rfl | rfl | rfl | rfl | rfl | rfl
    · cases ho9
      have r6 := hD.old 6 _ rfl rfl
      clear hD hd9 hi9
      refine wpOp_step rfl (fun K hK => ?_)
      go_simp
      exact hK _ _ ⟨rfl, hM⟩
    · cases ho9
      have r31 := hD.on 0 31 _ rfl (getD_true (hd9 ⟨0, .data⟩ (by simp) rfl))
      have hM0 := hM
      have c9_0 := hM0.cellAt (b := w1.heap.size) (cs := #[.bool neg, .int .i64 ex, .int .u64 fr]) (t := 27) (by simp) 1 _ rfl
      clear hM0
      clear hD hd9 hi9
      refine wpOp_step rfl (fun K hK => ?_)
      go_simp
      exact hK _ _ ⟨rfl, hM⟩
    · cases ho9
      have r2 := hD.old 2 _ rfl rfl
      have hM0 := hM
      have c9_0 := hM0.cellAt (b := w.heap.size) (cs := #[.int .i64 E, .int .i64 F]) (t := 23) (by simp) 0 _ rfl
      have c9_1 := hM0.cellAt (b := w.heap.size) (cs := #[.int .i64 E, .int .i64 F]) (t := 23) (by simp) 1 _ rfl
      clear hM0
      clear hD hd9 hi9
      refine wpOp_step rfl (fun K hK => ?_)
      go_simp
      exact hK _ _ ⟨rfl, hM⟩
    · cases ho9
      have r33 := hD.on 2 33 _ rfl (getD_true (hd9 ⟨2, .data⟩ (by simp) rfl))
      clear hD hd9 hi9
      refine wpOp_step rfl (fun K hK => ?_)
      go_simp
      go_wp2_with fail
      refine (rtop_any _ _ top h ht _).mono ?_
      rintro en w9 ⟨rfl, hb9⟩
      exact hK _ _ ⟨rfl, hM.kept hb9⟩
    · cases ho9
      have r32 := hD.on 1 32 _ rfl (getD_true (hd9 ⟨1, .data⟩ (by simp) rfl))
      have r34 := hD.on 3 34 _ rfl (getD_true (hd9 ⟨3, .data⟩ (by simp) rfl))
      clear hD hd9 hi9
      refine wpOp_step rfl (fun K hK => ?_)
      go_simp
      exact hK _ _ ⟨act_eq (by (first | rfl | skip); all_goals (rw [Value.bool.injEq]; first | (simp; done) | (simp; omega) | (rw [decide_eq_false_iff_not]; omega) | (rw [decide_eq_true_iff]; omega))), hM⟩
    · cases ho9
      have r35 := hD.on 4 35 _ rfl (getD_true (hd9 ⟨4, .data⟩ (by simp) rfl))
      clear hD hd9 hi9
      refine wpOp_step rfl (fun K hK => ?_)
      go_simp
      exact hK _ _ ⟨rfl, hM⟩
  · intro l9 W9 hl9 hM
    clear hl9
    clear hS z1_0_0 z1_0_1
    have hS := hM
    clear hM
    simp only [Puts.lay, List.setIfInBounds_toArray, List.set_cons_zero, List.set_cons_succ]
    obtain ⟨⟨z2_0_0, z2_0_1, z2_0_2, -⟩, ⟨z2_1_0, z2_1_1, -⟩, -⟩ := hS.cells
    go_wp2
    go_ret2
    exact ⟨rfl, hS.fr⟩

theorem rClass_ok (E F b ex fr : Nat) (neg : Bool) (h : Fo E F) (hB : Bt E F b neg ex fr) (top : Nat) (ht : Hid (top = 2 ^ E - 1)) (w : World) : Calls Try.prog 13 #[.agg #[.int .i64 E, .int .i64 F], .int .u64 b] w fun e w' => e = .returned (.tuple #[.int .u8 (cls ex fr top : Int), .int .i64 0]) ∧ Below w.heap.size w w' := by
  unfold cls
  by_cases h0 : ex = 0
  · by_cases h1 : fr = 0
    · rw [if_pos ⟨h0, h1⟩]; exact rClass1 E F b ex fr neg h hB h0 h1 w
    · rw [if_neg (fun h => h1 h.2), if_pos h0]; exact rClass2 E F b ex fr neg h hB h0 (by omega) w
  · rw [if_neg (fun h => h0 h.1), if_neg h0]
    by_cases h1 : ex < top
    · rw [if_pos h1]; exact rClass3 E F b ex fr neg h hB top ht (by omega) h1 w
    · rw [if_neg h1]
      by_cases h2 : fr = 0
      · rw [if_pos h2]; exact rClass4 E F b ex fr neg h hB top ht (by omega) (by omega) h2 w
      · rw [if_neg h2]; exact rClass5 E F b ex fr neg h hB top ht (by omega) (by omega) (by omega) w

set_option maxHeartbeats 400000 in
theorem rPayload_many (E F b : Nat) (h : Fo E F) (hb : 2 ^ (F + E + 1) ≤ b) (hb64 : b < 18446744073709551616) (w : World) : Calls Try.prog 15 #[.agg #[.int .i64 E, .int .i64 F], .int .u64 b] w fun e w' => e = .returned (.tuple #[.int .u64 0, .bool false, .int .i64 6]) ∧ Below w.heap.size w w' := by
  have HB := hide hb
  clear hb
  go_enter Try.func15, Try.ntmps15
  go_wp2_with fail
  refine (rClass_many _ _ _ h (unhide HB) hb64 _).mono ?_
  rintro e w1 ⟨rfl, hb1⟩
  have hS := (Fs.one w _ _).kept hb1
  obtain ⟨⟨z1_0_0, z1_0_1, -⟩, -⟩ := hS.cells
  go_wp2
  go_ret3
  exact ⟨rfl, hS.fr⟩

set_option maxHeartbeats 400000 in
theorem rPayload_bad (E F : Int) (hbad : NoFo E F) (b : Int) (w : World) : Calls Try.prog 15 #[.agg #[.int .i64 E, .int .i64 F], .int .u64 b] w fun e w' => e = .returned (.tuple #[.int .u64 0, .bool false, .int .i64 5]) ∧ Below w.heap.size w w' := by
  have HB := hide hbad
  clear hbad
  go_enter Try.func15, Try.ntmps15
  go_wp2_with fail
  refine (rClass_bad _ _ (unhide HB) _ _).mono ?_
  rintro e w1 ⟨rfl, hb1⟩
  have hS := (Fs.one w _ _).kept hb1
  obtain ⟨⟨z1_0_0, z1_0_1, -⟩, -⟩ := hS.cells
  go_wp2
  go_ret3
  exact ⟨rfl, hS.fr⟩

set_option maxHeartbeats 400000 in
theorem rPayload_num (E F b ex fr : Nat) (neg : Bool) (h : Fo E F) (hB : Bt E F b neg ex fr) (hc : cls ex fr (2 ^ E - 1) ≠ 5) (w : World) : Calls Try.prog 15 #[.agg #[.int .i64 E, .int .i64 F], .int .u64 b] w fun e w' => e = .returned (.tuple #[.int .u64 0, .bool false, .int .i64 2]) ∧ Below w.heap.size w w' := by
  have HB := hide hB
  obtain ⟨c, hcc⟩ : ∃ c, c = cls ex fr (2 ^ E - 1) := ⟨_, rfl⟩
  have h5 : c ≠ 5 := by rw [hcc]; exact hc
  have CC : ∀ W : World, Calls Try.prog 13 #[.agg #[.int .i64 E, .int .i64 F], .int .u64 b] W fun e w' => e = .returned (.tuple #[.int .u8 (c : Int), .int .i64 0]) ∧ Below W.heap.size W w' := fun W => by rw [hcc]; exact rClass_ok E F b ex fr neg h (unhide HB) _ (hide rfl) W
  have HC := hide CC
  clear hB hcc hc CC
  go_enter Try.func15, Try.ntmps15
  go_wp2_with fail
  refine (unhide HC _).mono ?_
  rintro e w1 ⟨rfl, hb1⟩
  have hS := (Fs.one w _ _).kept hb1
  obtain ⟨⟨z1_0_0, z1_0_1, -⟩, -⟩ := hS.cells
  go_wp2
  go_ret3
  exact ⟨rfl, hS.fr⟩

set_option maxHeartbeats 400000 in
theorem rPayload_nan (E F b ex fr : Nat) (neg : Bool) (h : Fo E F) (hB : Bt E F b neg ex fr) (pl : Nat) (q : Bool) (hc : cls ex fr (2 ^ E - 1) = 5) (hp : Hid (pl = fr % 2 ^ (F - 1))) (hq : Hid (q = decide (2 ^ (F - 1) ≤ fr))) (w : World) : Calls Try.prog 15 #[.agg #[.int .i64 E, .int .i64 F], .int .u64 b] w fun e w' => e = .returned (.tuple #[.int .u64 (pl : Int), .bool q, .int .i64 0]) ∧ Below w.heap.size w w' := by
  have HB := hide hB
  have CC : ∀ W : World, Calls Try.prog 13 #[.agg #[.int .i64 E, .int .i64 F], .int .u64 b] W fun e w' => e = .returned (.tuple #[.int .u8 5, .int .i64 0]) ∧ Below W.heap.size W w' := fun W => by have := rClass_ok E F b ex fr neg h (unhide HB) _ (hide rfl) W; rw [hc] at this; exact this
  have HC := hide CC
  obtain ⟨k, hk⟩ : ∃ k, k = F - 1 := ⟨_, rfl⟩
  have hkF : (F : Int) - 1 = (k : Int) := by have := h.f1; omega
  have hk63 : k ≤ 63 := by have := h.f52; omega
  have h52 := h.f52
  have hF1 := h.f1
  obtain ⟨m, hm⟩ : ∃ m, m = 2 ^ k := ⟨_, rfl⟩
  have HM := hide hm
  have hm0 : 0 < m := by rw [hm]; exact pow_pos2 _
  have HD : Hid ((fr : Int) % (m : Int) = (pl : Int)) := hide (by rw [unhide hp, hm, hk]; simp)
  have HQ : Hid (decide (m ≤ fr) = q) := hide (by rw [unhide hq, hm, hk])
  clear hB hc CC hm hk hp hq
  go_enter Try.func15, Try.ntmps15
  go_wp2_with fail
  refine (unhide HC _).mono ?_
  rintro e w1 ⟨rfl, hb1⟩
  have hS := (Fs.one w _ _).kept hb1
  obtain ⟨⟨z1_0_0, z1_0_1, -⟩, -⟩ := hS.cells
  go_wp2_with fail
  refine (rSplit_ok _ _ b ex fr neg h (unhide HB) _).mono ?_
  rintro e w2 ⟨rfl, hb2⟩
  replace hS := hS.kept hb2
  clear z1_0_0 z1_0_1
  obtain ⟨⟨z2_0_0, z2_0_1, -⟩, -⟩ := hS.cells
  have hlt : w.heap.size < w2.heap.size := block_lt (hS.bx ⟨w.heap.size, #[.int .i64 E, .int .i64 F], 23⟩ (by simp))
  replace hS := hS.alloc #[.bool neg, .int .i64 ex, .int .u64 fr] 27
  go_wp2_with fail
  refine (rpow_any k m _ hk63 HM).mono ?_
  rintro e w3 ⟨rfl, hb3⟩
  replace hS := hS.kept hb3
  clear z2_0_0 z2_0_1
  obtain ⟨⟨z3_0_0, z3_0_1, z3_0_2, -⟩, ⟨z3_1_0, z3_1_1, -⟩, -⟩ := hS.cells
  go_wp2_with fail
  refine wp_region_any (by kernel_rfl) ?_
  refine wpAny_det [some (33, .pointer (some ⟨w2.heap.size, 2, none⟩)), some (34, .int .u64 fr), some (35, .int .u64 m), some (36, .int .u64 pl), some (37, .pointer (some ⟨w2.heap.size, 2, none⟩)), some (38, .int .u64 fr), some (39, .int .u64 m), some (40, .bool q), some (4, .int .u64 pl), some (5, .bool q), some (6, .int .i64 0)]
    (fun _ W9 => Fs w W9 [⟨w2.heap.size, #[.bool neg, .int .i64 ex, .int .u64 fr], 27⟩, ⟨w.heap.size, #[.int .i64 E, .int .i64 F], 23⟩]) _ _ rfl (by kernel_rfl) rfl rfl ?_ ?_ (hS).drew
  · intro l9 t9 W9 i9 hD hi9 hl9 hM
    obtain ⟨o9, ho9, hd9⟩ := (mem_ready.1 hi9).2
    have hin9 : i9 < 11 := by
      by_cases h : i9 < 11
      · exact h
      · rw [Array.getElem?_eq_none (by rw [hD.len]; simp; omega)] at hl9; cases hl9
    have hcase : i9 = 0 ∨ i9 = 1 ∨ i9 = 2 ∨ i9 = 3 ∨ i9 = 4 ∨ i9 = 5 ∨ i9 = 6 ∨ i9 = 7 ∨ i9 = 8 ∨ i9 = 9 ∨ i9 = 10 := by omega
    clear hin9
    rcases hcase with rfl | rfl | rfl | rfl | rfl | rfl | rfl | rfl | rfl | rfl | rfl
    · cases ho9
      have r9 := hD.old 9 _ rfl rfl
      clear hD hd9 hi9
      refine wpOp_step rfl (fun K hK => ?_)
      go_simp
      exact hK _ _ ⟨rfl, hM⟩
    · cases ho9
      have r33 := hD.on 0 33 _ rfl (getD_true (hd9 ⟨0, .data⟩ (by simp) rfl))
      have hM0 := hM
      have c9_0 := hM0.cellAt (b := w2.heap.size) (cs := #[.bool neg, .int .i64 ex, .int .u64 fr]) (t := 27) (by simp) 2 _ rfl
      clear hM0
      clear hD hd9 hi9
      refine wpOp_step rfl (fun K hK => ?_)
      go_simp
      exact hK _ _ ⟨rfl, hM⟩
    · cases ho9
      have r11 := hD.old 11 _ rfl rfl
      clear hD hd9 hi9
      refine wpOp_step rfl (fun K hK => ?_)
      go_simp
      exact hK _ _ ⟨rfl, hM⟩
    · cases ho9
      have r34 := hD.on 1 34 _ rfl (getD_true (hd9 ⟨1, .data⟩ (by simp) rfl))
      have r35 := hD.on 2 35 _ rfl (getD_true (hd9 ⟨2, .data⟩ (by simp) rfl))
      clear hD hd9 hi9
      refine wpOp_step rfl (fun K hK => ?_)
      go_simp
      go_wp2_with fail
      exact ⟨act_eq (by (refine congrArg (Value.int _) ?_; exact unhide HD)), hM⟩
    · cases ho9
      have r9 := hD.old 9 _ rfl rfl
      clear hD hd9 hi9
      refine wpOp_step rfl (fun K hK => ?_)
      go_simp
      exact hK _ _ ⟨rfl, hM⟩
    · cases ho9
      have r37 := hD.on 4 37 _ rfl (getD_true (hd9 ⟨4, .data⟩ (by simp) rfl))
      have hM0 := hM
      have c9_0 := hM0.cellAt (b := w2.heap.size) (cs := #[.bool neg, .int .i64 ex, .int .u64 fr]) (t := 27) (by simp) 2 _ rfl
      clear hM0
      clear hD hd9 hi9
      refine wpOp_step rfl (fun K hK => ?_)
      go_simp
      exact hK _ _ ⟨rfl, hM⟩
    · cases ho9
      have r11 := hD.old 11 _ rfl rfl
      clear hD hd9 hi9
      refine wpOp_step rfl (fun K hK => ?_)
      go_simp
      exact hK _ _ ⟨rfl, hM⟩
    · cases ho9
      have r38 := hD.on 5 38 _ rfl (getD_true (hd9 ⟨5, .data⟩ (by simp) rfl))
      have r39 := hD.on 6 39 _ rfl (getD_true (hd9 ⟨6, .data⟩ (by simp) rfl))
      clear hD hd9 hi9
      refine wpOp_step rfl (fun K hK => ?_)
      go_simp
      exact hK _ _ ⟨act_eq (by (refine congrArg Value.bool ?_; exact unhide HQ)), hM⟩
    · cases ho9
      have r36 := hD.on 3 36 _ rfl (getD_true (hd9 ⟨3, .data⟩ (by simp) rfl))
      clear hD hd9 hi9
      refine wpOp_step rfl (fun K hK => ?_)
      go_simp
      exact hK _ _ ⟨rfl, hM⟩
    · cases ho9
      have r40 := hD.on 7 40 _ rfl (getD_true (hd9 ⟨7, .data⟩ (by simp) rfl))
      clear hD hd9 hi9
      refine wpOp_step rfl (fun K hK => ?_)
      go_simp
      exact hK _ _ ⟨rfl, hM⟩
    · cases ho9
      clear hD hd9 hi9
      refine wpOp_step rfl (fun K hK => ?_)
      go_simp
      exact hK _ _ ⟨rfl, hM⟩
  · intro l9 W9 hl9 hM
    clear hl9
    clear hS z3_0_0 z3_0_1 z3_0_2 z3_1_0 z3_1_1
    have hS := hM
    clear hM
    simp only [Puts.lay, List.setIfInBounds_toArray, List.set_cons_zero, List.set_cons_succ]
    obtain ⟨⟨z4_0_0, z4_0_1, z4_0_2, -⟩, ⟨z4_1_0, z4_1_1, -⟩, -⟩ := hS.cells
    go_wp2
    go_ret3
    exact ⟨rfl, hS.fr⟩

set_option maxHeartbeats 400000 in
theorem rRange_ok (E F m : Nat) (h : Fo E F) (hm : Hid (m = 2 ^ (E - 1) - 1)) (w : World) : Calls Try.prog 35 #[.agg #[.int .i64 E, .int .i64 F]] w fun e w' => e = .returned (.tuple #[.int .i64 (1 - (m : Int) - (F : Int)), .int .i64 (m : Int), .int .i64 0]) ∧ Below w.heap.size w w' := by
  have hml : m < 1024 := by have := pow_bound (show E - 1 ≤ 10 by have := h.e11; omega); have := pow_pos2 (E - 1); rw [unhide hm]; omega
  have h4 := h.f52
  go_enter Try.func35, Try.ntmps35
  go_wp2_with fail
  refine (rcheck_ok _ _ _ h).mono ?_
  rintro e w1 ⟨rfl, hb1⟩
  have hS := (Fs.one w _ _).kept hb1
  obtain ⟨⟨z1_0_0, z1_0_1, -⟩, -⟩ := hS.cells
  go_wp2_with fail
  refine wp_region_any (by kernel_rfl) ?_
  refine wpAny_det [some (8, .agg #[.int .i64 E, .int .i64 F]), some (9, .int .i64 m), some (10, .int .i64 (1 - (m : Int))), some (11, .pointer (some ⟨w.heap.size, 1, none⟩)), some (12, .int .i64 F), some (13, .int .i64 (1 - (m : Int) - (F : Int))), some (14, .agg #[.int .i64 E, .int .i64 F]), some (15, .int .i64 m), some (2, .int .i64 (1 - (m : Int) - (F : Int))), some (3, .int .i64 m), some (4, .int .i64 0)]
    (fun _ W9 => Fs w W9 [⟨w.heap.size, #[.int .i64 E, .int .i64 F], 23⟩]) _ _ rfl (by kernel_rfl) rfl rfl ?_ ?_ (hS).drew
  · intro l9 t9 W9 i9 hD hi9 hl9 hM
    obtain ⟨o9, ho9, hd9⟩ := (mem_ready.1 hi9).2
    have hin9 : i9 < 11 := by
      by_cases h : i9 < 11
      · exact h
      · rw [Array.getElem?_eq_none (by rw [hD.len]; simp; omega)] at hl9; cases hl9
    have hcase : i9 = 0 ∨ i9 = 1 ∨ i9 = 2 ∨ i9 = 3 ∨ i9 = 4 ∨ i9 = 5 ∨ i9 = 6 ∨ i9 = 7 ∨ i9 = 8 ∨ i9 = 9 ∨ i9 = 10 := by omega
    clear hin9
    rcases hcase with rfl | rfl | rfl | rfl | rfl | rfl | rfl | rfl | rfl | rfl | rfl
    · cases ho9
      have r1 := hD.old 1 _ rfl rfl
      have hM0 := hM
      have c9_0 := hM0.cellAt (b := w.heap.size) (cs := #[.int .i64 E, .int .i64 F]) (t := 23) (by simp) 0 _ rfl
      have c9_1 := hM0.cellAt (b := w.heap.size) (cs := #[.int .i64 E, .int .i64 F]) (t := 23) (by simp) 1 _ rfl
      clear hM0
      clear hD hd9 hi9
      refine wpOp_step rfl (fun K hK => ?_)
      go_simp
      exact hK _ _ ⟨rfl, hM⟩
    · cases ho9
      have r8 := hD.on 0 8 _ rfl (getD_true (hd9 ⟨0, .data⟩ (by simp) rfl))
      clear hD hd9 hi9
      refine wpOp_step rfl (fun K hK => ?_)
      go_simp
      go_wp2_with fail
      refine (rbias_any _ _ m h hm _).mono ?_
      rintro en w9 ⟨rfl, hb9⟩
      exact hK _ _ ⟨rfl, hM.kept hb9⟩
    · cases ho9
      have r9 := hD.on 1 9 _ rfl (getD_true (hd9 ⟨1, .data⟩ (by simp) rfl))
      clear hD hd9 hi9
      refine wpOp_step rfl (fun K hK => ?_)
      go_simp
      exact hK _ _ ⟨act_eq (by (show Value.int _ _ = Value.int _ _; congr 1; (first | rfl | omega | (rw [IntKind.wrap_i64]; omega) | (rw [IntKind.wrap_u64]; omega)))), hM⟩
    · cases ho9
      have r1 := hD.old 1 _ rfl rfl
      clear hD hd9 hi9
      refine wpOp_step rfl (fun K hK => ?_)
      go_simp
      exact hK _ _ ⟨rfl, hM⟩
    · cases ho9
      have r11 := hD.on 3 11 _ rfl (getD_true (hd9 ⟨3, .data⟩ (by simp) rfl))
      have hM0 := hM
      have c9_0 := hM0.cellAt (b := w.heap.size) (cs := #[.int .i64 E, .int .i64 F]) (t := 23) (by simp) 1 _ rfl
      clear hM0
      clear hD hd9 hi9
      refine wpOp_step rfl (fun K hK => ?_)
      go_simp
      exact hK _ _ ⟨rfl, hM⟩
    · cases ho9
      have r10 := hD.on 2 10 _ rfl (getD_true (hd9 ⟨2, .data⟩ (by simp) rfl))
      have r12 := hD.on 4 12 _ rfl (getD_true (hd9 ⟨4, .data⟩ (by simp) rfl))
      clear hD hd9 hi9
      refine wpOp_step rfl (fun K hK => ?_)
      go_simp
      exact hK _ _ ⟨act_eq (by (show Value.int _ _ = Value.int _ _; congr 1; (first | rfl | omega | (rw [IntKind.wrap_i64]; omega) | (rw [IntKind.wrap_u64]; omega)))), hM⟩
    · cases ho9
      have r1 := hD.old 1 _ rfl rfl
      have hM0 := hM
      have c9_0 := hM0.cellAt (b := w.heap.size) (cs := #[.int .i64 E, .int .i64 F]) (t := 23) (by simp) 0 _ rfl
      have c9_1 := hM0.cellAt (b := w.heap.size) (cs := #[.int .i64 E, .int .i64 F]) (t := 23) (by simp) 1 _ rfl
      clear hM0
      clear hD hd9 hi9
      refine wpOp_step rfl (fun K hK => ?_)
      go_simp
      exact hK _ _ ⟨rfl, hM⟩
    · cases ho9
      have r14 := hD.on 6 14 _ rfl (getD_true (hd9 ⟨6, .data⟩ (by simp) rfl))
      clear hD hd9 hi9
      refine wpOp_step rfl (fun K hK => ?_)
      go_simp
      go_wp2_with fail
      refine (rbias_any _ _ m h hm _).mono ?_
      rintro en w9 ⟨rfl, hb9⟩
      exact hK _ _ ⟨rfl, hM.kept hb9⟩
    · cases ho9
      have r13 := hD.on 5 13 _ rfl (getD_true (hd9 ⟨5, .data⟩ (by simp) rfl))
      clear hD hd9 hi9
      refine wpOp_step rfl (fun K hK => ?_)
      go_simp
      exact hK _ _ ⟨rfl, hM⟩
    · cases ho9
      have r15 := hD.on 7 15 _ rfl (getD_true (hd9 ⟨7, .data⟩ (by simp) rfl))
      clear hD hd9 hi9
      refine wpOp_step rfl (fun K hK => ?_)
      go_simp
      exact hK _ _ ⟨rfl, hM⟩
    · cases ho9
      clear hD hd9 hi9
      refine wpOp_step rfl (fun K hK => ?_)
      go_simp
      exact hK _ _ ⟨rfl, hM⟩
  · intro l9 W9 hl9 hM
    clear hl9
    clear hS z1_0_0 z1_0_1
    have hS := hM
    clear hM
    simp only [Puts.lay, List.setIfInBounds_toArray, List.set_cons_zero, List.set_cons_succ]
    obtain ⟨⟨z2_0_0, z2_0_1, -⟩, -⟩ := hS.cells
    go_wp2
    go_ret3
    exact ⟨rfl, hS.fr⟩

set_option maxHeartbeats 400000 in
theorem rRange_bad (E F : Int) (hbad : NoFo E F)  (w : World) : Calls Try.prog 35 #[.agg #[.int .i64 E, .int .i64 F]] w fun e w' => e = .returned (.tuple #[.int .i64 0, .int .i64 0, .int .i64 5]) ∧ Below w.heap.size w w' := by
  have HB := hide hbad
  clear hbad
  go_enter Try.func35, Try.ntmps35
  go_wp2_with fail
  refine (rcheck_bad _ _ _ (unhide HB)).mono ?_
  rintro e w1 ⟨rfl, hb1⟩
  have hS := (Fs.one w _ _).kept hb1
  obtain ⟨⟨z1_0_0, z1_0_1, -⟩, -⟩ := hS.cells
  go_wp2
  go_ret3
  exact ⟨rfl, hS.fr⟩

end Go.Proofs.Ytafeioonnhnpcaa
