/- The calls Join and Range. -/
import Derived.Test.YtafeioonnhnpcaaFmCall
namespace Go.Proofs.Ytafeioonnhnpcaa
open Go.RowKit

set_option maxHeartbeats 400000 in
theorem Join_ok (E F b ex fr : Nat) (neg : Bool) (h : Fo E F) (hB : Bt E F b neg ex fr) (w : World) : Calls Try.prog 20 #[.agg #[.int .i64 E, .int .i64 F], .agg #[.bool neg, .int .i64 ex, .int .u64 fr]] w fun e w' => e = .returned (.tuple #[.int .u64 b, .int .i64 0]) ∧ Below w.heap.size w w' := by
  obtain ⟨m1, hm1⟩ : ∃ m1, m1 = 2 ^ E - 1 := ⟨_, rfl⟩
  obtain ⟨m0, hm0⟩ : ∃ m0, m0 = 2 ^ F - 1 := ⟨_, rfl⟩
  have HM1 := hide hm1
  have HM0 := hide hm0
  have hpE := pow_pos2 E
  have hpF := pow_pos2 F
  have HB := hide hB
  have hx := hB.ex_lt
  have hf := hB.fr_lt
  have hexl := hB.ex64 h
  have hx1 : ex ≤ m1 := by omega
  have hf1 : fr ≤ m0 := by omega
  clear hB hm1 hm0 hpE hpF hx hf
  go_enter Try.func20, Try.ntmps20
  go_wp2_with fail
  refine (check_ok _ _ _ h).mono ?_
  rintro e w1 ⟨rfl, hb1⟩
  have hS := (Fs.two w _ _ _ _).kept hb1
  obtain ⟨⟨z1_0_0, z1_0_1, -⟩, ⟨z1_1_0, z1_1_1, z1_1_2, -⟩, -⟩ := hS.cells
  go_wp2_with fail
  refine wp_region_any (by kernel_rfl) ?_
  refine wpAny_det [some (12, .pointer (some ⟨w.heap.size + 1, 1, none⟩)), some (13, .int .i64 ex), some (14, .bool false), some (15, .bool false), some (16, .pointer (some ⟨w.heap.size + 1, 1, none⟩)), some (17, .int .i64 ex), some (18, .int .u64 ex), some (19, .agg #[.int .i64 E, .int .i64 F]), some (20, .int .u64 m1), some (21, .bool false), some (22, .bool false), some (23, .bool false), some (24, .pointer (some ⟨w.heap.size + 1, 2, none⟩)), some (25, .int .u64 fr), some (26, .agg #[.int .i64 E, .int .i64 F]), some (27, .int .u64 m0), some (28, .bool false), some (29, .bool false)]
    (fun _ W9 => Fs w W9 [⟨w.heap.size, #[.int .i64 E, .int .i64 F], 23⟩, ⟨w.heap.size + 1, #[.bool neg, .int .i64 ex, .int .u64 fr], 27⟩]) _ _ rfl (by kernel_rfl) rfl rfl ?_ ?_ (hS).drew
  · intro l9 t9 W9 i9 hD hi9 hl9 hM
    obtain ⟨o9, ho9, hd9⟩ := (mem_ready.1 hi9).2
    have hin9 : i9 < 18 := by
      by_cases h : i9 < 18
      · exact h
      · rw [Array.getElem?_eq_none (by rw [hD.len]; simp; omega)] at hl9; cases hl9
    have hcase : i9 = 0 ∨ i9 = 1 ∨ i9 = 2 ∨ i9 = 3 ∨ i9 = 4 ∨ i9 = 5 ∨ i9 = 6 ∨ i9 = 7 ∨ i9 = 8 ∨ i9 = 9 ∨ i9 = 10 ∨ i9 = 11 ∨ i9 = 12 ∨ i9 = 13 ∨ i9 = 14 ∨ i9 = 15 ∨ i9 = 16 ∨ i9 = 17 := by omega
    clear hin9
    rcases hcase with rfl | rfl | rfl | rfl | rfl | rfl | rfl | rfl | rfl | rfl | rfl | rfl | rfl | rfl | rfl | rfl | rfl | rfl
    · cases ho9
      have r3 := hD.old 3 _ rfl rfl
      clear hD hd9 hi9
      refine wpOp_step rfl (fun K hK => ?_)
      go_simp
      exact hK _ _ ⟨rfl, hM⟩
    · cases ho9
      have r12 := hD.on 0 12 _ rfl (getD_true (hd9 ⟨0, .data⟩ (by simp) rfl))
      have hM0 := hM
      have c9_0 := hM0.cellAt (b := w.heap.size + 1) (cs := #[.bool neg, .int .i64 ex, .int .u64 fr]) (t := 27) (by simp) 1 _ rfl
      clear hM0
      clear hD hd9 hi9
      refine wpOp_step rfl (fun K hK => ?_)
      go_simp
      exact hK _ _ ⟨rfl, hM⟩
    · cases ho9
      have r13 := hD.on 1 13 _ rfl (getD_true (hd9 ⟨1, .data⟩ (by simp) rfl))
      clear hD hd9 hi9
      refine wpOp_step rfl (fun K hK => ?_)
      go_simp
      exact hK _ _ ⟨act_eq (by (first | rfl | skip); all_goals (rw [Value.bool.injEq]; first | (simp; done) | (simp; omega) | (rw [decide_eq_false_iff_not]; omega) | (rw [decide_eq_true_iff]; omega))), hM⟩
    · cases ho9
      have r14 := hD.on 2 14 _ rfl (getD_true (hd9 ⟨2, .data⟩ (by simp) rfl))
      clear hD hd9 hi9
      refine wpOp_step rfl (fun K hK => ?_)
      go_simp
      exact hK _ _ ⟨rfl, hM⟩
    · cases ho9
      have r15 := hD.on 3 15 _ rfl (getD_true (hd9 ⟨3, .guard⟩ (by simp) rfl))
      have r3 := hD.old 3 _ rfl rfl
      clear hD hd9 hi9
      refine wpOp_step rfl (fun K hK => ?_)
      go_simp
      exact hK _ _ ⟨rfl, hM⟩
    · cases ho9
      have r15 := hD.on 3 15 _ rfl (getD_true (hd9 ⟨3, .guard⟩ (by simp) rfl))
      have r16 := hD.on 4 16 _ rfl (getD_true (hd9 ⟨4, .data⟩ (by simp) rfl))
      have hM0 := hM
      have c9_0 := hM0.cellAt (b := w.heap.size + 1) (cs := #[.bool neg, .int .i64 ex, .int .u64 fr]) (t := 27) (by simp) 1 _ rfl
      clear hM0
      clear hD hd9 hi9
      refine wpOp_step rfl (fun K hK => ?_)
      go_simp
      exact hK _ _ ⟨rfl, hM⟩
    · cases ho9
      have r15 := hD.on 3 15 _ rfl (getD_true (hd9 ⟨3, .guard⟩ (by simp) rfl))
      have r17 := hD.on 5 17 _ rfl (getD_true (hd9 ⟨5, .data⟩ (by simp) rfl))
      clear hD hd9 hi9
      refine wpOp_step rfl (fun K hK => ?_)
      go_simp
      exact hK _ _ ⟨act_eq (by (show Value.int _ _ = Value.int _ _; congr 1; (first | rfl | omega | (rw [IntKind.wrap_i64]; omega) | (rw [IntKind.wrap_u64]; omega)))), hM⟩
    · cases ho9
      have r15 := hD.on 3 15 _ rfl (getD_true (hd9 ⟨3, .guard⟩ (by simp) rfl))
      have r2 := hD.old 2 _ rfl rfl
      have hM0 := hM
      have c9_0 := hM0.cellAt (b := w.heap.size) (cs := #[.int .i64 E, .int .i64 F]) (t := 23) (by simp) 0 _ rfl
      have c9_1 := hM0.cellAt (b := w.heap.size) (cs := #[.int .i64 E, .int .i64 F]) (t := 23) (by simp) 1 _ rfl
      clear hM0
      clear hD hd9 hi9
      refine wpOp_step rfl (fun K hK => ?_)
      go_simp
      exact hK _ _ ⟨rfl, hM⟩
    · cases ho9
      have r15 := hD.on 3 15 _ rfl (getD_true (hd9 ⟨3, .chain⟩ (by simp) rfl))
      have r19 := hD.on 7 19 _ rfl (getD_true (hd9 ⟨7, .data⟩ (by simp) rfl))
      clear hD hd9 hi9
      refine wpOp_step rfl (fun K hK => ?_)
      go_simp
      go_wp2_with fail
      refine (full1 _ _ m1 _ h HM1).mono ?_
      rintro en w9 ⟨rfl, hb9⟩
      exact hK _ _ ⟨rfl, hM.kept hb9⟩
    · cases ho9
      have r15 := hD.on 3 15 _ rfl (getD_true (hd9 ⟨3, .guard⟩ (by simp) rfl))
      have r18 := hD.on 6 18 _ rfl (getD_true (hd9 ⟨6, .data⟩ (by simp) rfl))
      have r20 := hD.on 8 20 _ rfl (getD_true (hd9 ⟨8, .data⟩ (by simp) rfl))
      clear hD hd9 hi9
      refine wpOp_step rfl (fun K hK => ?_)
      go_simp
      exact hK _ _ ⟨act_eq (by (first | rfl | skip); all_goals (rw [Value.bool.injEq]; first | (simp; done) | (simp; omega) | (rw [decide_eq_false_iff_not]; omega) | (rw [decide_eq_true_iff]; omega))), hM⟩
    · cases ho9
      have r15 := hD.on 3 15 _ rfl (getD_true (hd9 ⟨3, .data⟩ (by simp) rfl))
      have r21 := hD.on 9 21 _ rfl (getD_true (hd9 ⟨9, .data⟩ (by simp) rfl))
      clear hD hd9 hi9
      refine wpOp_step rfl (fun K hK => ?_)
      go_simp
      exact hK _ _ ⟨rfl, hM⟩
    · cases ho9
      have r22 := hD.on 10 22 _ rfl (getD_true (hd9 ⟨10, .data⟩ (by simp) rfl))
      clear hD hd9 hi9
      refine wpOp_step rfl (fun K hK => ?_)
      go_simp
      exact hK _ _ ⟨rfl, hM⟩
    · cases ho9
      have r23 := hD.on 11 23 _ rfl (getD_true (hd9 ⟨11, .guard⟩ (by simp) rfl))
      have r3 := hD.old 3 _ rfl rfl
      clear hD hd9 hi9
      refine wpOp_step rfl (fun K hK => ?_)
      go_simp
      exact hK _ _ ⟨rfl, hM⟩
    · cases ho9
      have r23 := hD.on 11 23 _ rfl (getD_true (hd9 ⟨11, .guard⟩ (by simp) rfl))
      have r24 := hD.on 12 24 _ rfl (getD_true (hd9 ⟨12, .data⟩ (by simp) rfl))
      have hM0 := hM
      have c9_0 := hM0.cellAt (b := w.heap.size + 1) (cs := #[.bool neg, .int .i64 ex, .int .u64 fr]) (t := 27) (by simp) 2 _ rfl
      clear hM0
      clear hD hd9 hi9
      refine wpOp_step rfl (fun K hK => ?_)
      go_simp
      exact hK _ _ ⟨rfl, hM⟩
    · cases ho9
      have r23 := hD.on 11 23 _ rfl (getD_true (hd9 ⟨11, .guard⟩ (by simp) rfl))
      have r2 := hD.old 2 _ rfl rfl
      have hM0 := hM
      have c9_0 := hM0.cellAt (b := w.heap.size) (cs := #[.int .i64 E, .int .i64 F]) (t := 23) (by simp) 0 _ rfl
      have c9_1 := hM0.cellAt (b := w.heap.size) (cs := #[.int .i64 E, .int .i64 F]) (t := 23) (by simp) 1 _ rfl
      clear hM0
      clear hD hd9 hi9
      refine wpOp_step rfl (fun K hK => ?_)
      go_simp
      exact hK _ _ ⟨rfl, hM⟩
    · cases ho9
      have r23 := hD.on 11 23 _ rfl (getD_true (hd9 ⟨11, .chain⟩ (by simp) rfl))
      have r26 := hD.on 14 26 _ rfl (getD_true (hd9 ⟨14, .data⟩ (by simp) rfl))
      clear hD hd9 hi9
      refine wpOp_step rfl (fun K hK => ?_)
      go_simp
      go_wp2_with fail
      refine (full0 _ _ m0 _ h HM0).mono ?_
      rintro en w9 ⟨rfl, hb9⟩
      exact hK _ _ ⟨rfl, hM.kept hb9⟩
    · cases ho9
      have r23 := hD.on 11 23 _ rfl (getD_true (hd9 ⟨11, .guard⟩ (by simp) rfl))
      have r25 := hD.on 13 25 _ rfl (getD_true (hd9 ⟨13, .data⟩ (by simp) rfl))
      have r27 := hD.on 15 27 _ rfl (getD_true (hd9 ⟨15, .data⟩ (by simp) rfl))
      clear hD hd9 hi9
      refine wpOp_step rfl (fun K hK => ?_)
      go_simp
      exact hK _ _ ⟨act_eq (by (first | rfl | skip); all_goals (rw [Value.bool.injEq]; first | (simp; done) | (simp; omega) | (rw [decide_eq_false_iff_not]; omega) | (rw [decide_eq_true_iff]; omega))), hM⟩
    · cases ho9
      have r23 := hD.on 11 23 _ rfl (getD_true (hd9 ⟨11, .data⟩ (by simp) rfl))
      have r28 := hD.on 16 28 _ rfl (getD_true (hd9 ⟨16, .data⟩ (by simp) rfl))
      clear hD hd9 hi9
      refine wpOp_step rfl (fun K hK => ?_)
      go_simp
      exact hK _ _ ⟨rfl, hM⟩
  · intro l9 W9 hl9 hM
    clear hl9
    clear hS z1_0_0 z1_0_1 z1_1_0 z1_1_1 z1_1_2
    have hS := hM
    clear hM
    simp only [Puts.lay, List.setIfInBounds_toArray, List.set_cons_zero, List.set_cons_succ]
    obtain ⟨⟨z2_0_0, z2_0_1, -⟩, ⟨z2_1_0, z2_1_1, z2_1_2, -⟩, -⟩ := hS.cells
    go_wp2_with fail
    refine (join_any _ _ b ex fr neg _ h (unhide HB)).mono ?_
    rintro e w2 ⟨rfl, hb2⟩
    replace hS := hS.kept hb2
    clear z2_0_0 z2_0_1 z2_1_0 z2_1_1 z2_1_2
    obtain ⟨⟨z3_0_0, z3_0_1, -⟩, ⟨z3_1_0, z3_1_1, z3_1_2, -⟩, -⟩ := hS.cells
    go_wp2
    go_ret2
    exact ⟨rfl, hS.fr⟩

set_option maxHeartbeats 400000 in
theorem Join_neg (E F fr : Nat) (x : Int) (neg : Bool) (h : Fo E F) (hx : x < 0) (w : World) : Calls Try.prog 20 #[.agg #[.int .i64 E, .int .i64 F], .agg #[.bool neg, .int .i64 x, .int .u64 fr]] w fun e w' => e = .returned (.tuple #[.int .u64 0, .int .i64 30]) ∧ Below w.heap.size w w' := by
  go_enter Try.func20, Try.ntmps20
  go_wp2_with fail
  refine (check_ok _ _ _ h).mono ?_
  rintro e w1 ⟨rfl, hb1⟩
  have hS := (Fs.two w _ _ _ _).kept hb1
  obtain ⟨⟨z1_0_0, z1_0_1, -⟩, ⟨z1_1_0, z1_1_1, z1_1_2, -⟩, -⟩ := hS.cells
  go_wp2_with fail
  refine wp_region_any (by kernel_rfl) ?_
  refine wpAny_det [some (12, .pointer (some ⟨w.heap.size + 1, 1, none⟩)), some (13, .int .i64 x), some (14, .bool true), some (15, .bool true), some (16, undef), some (17, undef), some (18, undef), some (19, undef), some (20, undef), some (21, undef), some (22, .bool true), some (23, .bool true), some (24, undef), some (25, undef), some (26, undef), some (27, undef), some (28, undef), some (29, .bool true)]
    (fun _ W9 => Fs w W9 [⟨w.heap.size, #[.int .i64 E, .int .i64 F], 23⟩, ⟨w.heap.size + 1, #[.bool neg, .int .i64 x, .int .u64 fr], 27⟩]) _ _ rfl (by kernel_rfl) rfl rfl ?_ ?_ (hS).drew
  · intro l9 t9 W9 i9 hD hi9 hl9 hM
    obtain ⟨o9, ho9, hd9⟩ := (mem_ready.1 hi9).2
    have hin9 : i9 < 18 := by
      by_cases h : i9 < 18
      · exact h
      · rw [Array.getElem?_eq_none (by rw [hD.len]; simp; omega)] at hl9; cases hl9
    have hcase : i9 = 0 ∨ i9 = 1 ∨ i9 = 2 ∨ i9 = 3 ∨ i9 = 4 ∨ i9 = 5 ∨ i9 = 6 ∨ i9 = 7 ∨ i9 = 8 ∨ i9 = 9 ∨ i9 = 10 ∨ i9 = 11 ∨ i9 = 12 ∨ i9 = 13 ∨ i9 = 14 ∨ i9 = 15 ∨ i9 = 16 ∨ i9 = 17 := by omega
    clear hin9
    rcases hcase with rfl | rfl | rfl | rfl | rfl | rfl | rfl | rfl | rfl | rfl | rfl | rfl | rfl | rfl | rfl | rfl | rfl | rfl
    · cases ho9
      have r3 := hD.old 3 _ rfl rfl
      clear hD hd9 hi9
      refine wpOp_step rfl (fun K hK => ?_)
      go_simp
      exact hK _ _ ⟨rfl, hM⟩
    · cases ho9
      have r12 := hD.on 0 12 _ rfl (getD_true (hd9 ⟨0, .data⟩ (by simp) rfl))
      have hM0 := hM
      have c9_0 := hM0.cellAt (b := w.heap.size + 1) (cs := #[.bool neg, .int .i64 x, .int .u64 fr]) (t := 27) (by simp) 1 _ rfl
      clear hM0
      clear hD hd9 hi9
      refine wpOp_step rfl (fun K hK => ?_)
      go_simp
      exact hK _ _ ⟨rfl, hM⟩
    · cases ho9
      have r13 := hD.on 1 13 _ rfl (getD_true (hd9 ⟨1, .data⟩ (by simp) rfl))
      clear hD hd9 hi9
      refine wpOp_step rfl (fun K hK => ?_)
      go_simp
      exact hK _ _ ⟨act_eq (by (first | rfl | skip); all_goals (rw [Value.bool.injEq]; first | (simp; done) | (simp; omega) | (rw [decide_eq_false_iff_not]; omega) | (rw [decide_eq_true_iff]; omega))), hM⟩
    · cases ho9
      have r14 := hD.on 2 14 _ rfl (getD_true (hd9 ⟨2, .data⟩ (by simp) rfl))
      clear hD hd9 hi9
      refine wpOp_step rfl (fun K hK => ?_)
      go_simp
      exact hK _ _ ⟨rfl, hM⟩
    · cases ho9
      have r15 := hD.on 3 15 _ rfl (getD_true (hd9 ⟨3, .guard⟩ (by simp) rfl))
      clear hD hd9 hi9
      refine wpOp_step rfl (fun K hK => ?_)
      go_simp
      exact hK _ _ ⟨rfl, hM⟩
    · cases ho9
      have r15 := hD.on 3 15 _ rfl (getD_true (hd9 ⟨3, .guard⟩ (by simp) rfl))
      clear hD hd9 hi9
      refine wpOp_step rfl (fun K hK => ?_)
      go_simp
      exact hK _ _ ⟨rfl, hM⟩
    · cases ho9
      have r15 := hD.on 3 15 _ rfl (getD_true (hd9 ⟨3, .guard⟩ (by simp) rfl))
      clear hD hd9 hi9
      refine wpOp_step rfl (fun K hK => ?_)
      go_simp
      exact hK _ _ ⟨rfl, hM⟩
    · cases ho9
      have r15 := hD.on 3 15 _ rfl (getD_true (hd9 ⟨3, .guard⟩ (by simp) rfl))
      clear hD hd9 hi9
      refine wpOp_step rfl (fun K hK => ?_)
      go_simp
      exact hK _ _ ⟨rfl, hM⟩
    · cases ho9
      have r15 := hD.on 3 15 _ rfl (getD_true (hd9 ⟨3, .chain⟩ (by simp) rfl))
      clear hD hd9 hi9
      refine wpOp_step rfl (fun K hK => ?_)
      go_simp
      exact hK _ _ ⟨rfl, hM⟩
    · cases ho9
      have r15 := hD.on 3 15 _ rfl (getD_true (hd9 ⟨3, .guard⟩ (by simp) rfl))
      clear hD hd9 hi9
      refine wpOp_step rfl (fun K hK => ?_)
      go_simp
      exact hK _ _ ⟨rfl, hM⟩
    · cases ho9
      have r15 := hD.on 3 15 _ rfl (getD_true (hd9 ⟨3, .data⟩ (by simp) rfl))
      have r21 := hD.on 9 21 _ rfl (getD_true (hd9 ⟨9, .data⟩ (by simp) rfl))
      clear hD hd9 hi9
      refine wpOp_step rfl (fun K hK => ?_)
      go_simp
      exact hK _ _ ⟨rfl, hM⟩
    · cases ho9
      have r22 := hD.on 10 22 _ rfl (getD_true (hd9 ⟨10, .data⟩ (by simp) rfl))
      clear hD hd9 hi9
      refine wpOp_step rfl (fun K hK => ?_)
      go_simp
      exact hK _ _ ⟨rfl, hM⟩
    · cases ho9
      have r23 := hD.on 11 23 _ rfl (getD_true (hd9 ⟨11, .guard⟩ (by simp) rfl))
      clear hD hd9 hi9
      refine wpOp_step rfl (fun K hK => ?_)
      go_simp
      exact hK _ _ ⟨rfl, hM⟩
    · cases ho9
      have r23 := hD.on 11 23 _ rfl (getD_true (hd9 ⟨11, .guard⟩ (by simp) rfl))
      clear hD hd9 hi9
      refine wpOp_step rfl (fun K hK => ?_)
      go_simp
      exact hK _ _ ⟨rfl, hM⟩
    · cases ho9
      have r23 := hD.on 11 23 _ rfl (getD_true (hd9 ⟨11, .guard⟩ (by simp) rfl))
      clear hD hd9 hi9
      refine wpOp_step rfl (fun K hK => ?_)
      go_simp
      exact hK _ _ ⟨rfl, hM⟩
    · cases ho9
      have r23 := hD.on 11 23 _ rfl (getD_true (hd9 ⟨11, .chain⟩ (by simp) rfl))
      clear hD hd9 hi9
      refine wpOp_step rfl (fun K hK => ?_)
      go_simp
      exact hK _ _ ⟨rfl, hM⟩
    · cases ho9
      have r23 := hD.on 11 23 _ rfl (getD_true (hd9 ⟨11, .guard⟩ (by simp) rfl))
      clear hD hd9 hi9
      refine wpOp_step rfl (fun K hK => ?_)
      go_simp
      exact hK _ _ ⟨rfl, hM⟩
    · cases ho9
      have r23 := hD.on 11 23 _ rfl (getD_true (hd9 ⟨11, .data⟩ (by simp) rfl))
      have r28 := hD.on 16 28 _ rfl (getD_true (hd9 ⟨16, .data⟩ (by simp) rfl))
      clear hD hd9 hi9
      refine wpOp_step rfl (fun K hK => ?_)
      go_simp
      exact hK _ _ ⟨rfl, hM⟩
  · intro l9 W9 hl9 hM
    clear hl9
    clear hS z1_0_0 z1_0_1 z1_1_0 z1_1_1 z1_1_2
    have hS := hM
    clear hM
    simp only [Puts.lay, List.setIfInBounds_toArray, List.set_cons_zero, List.set_cons_succ]
    obtain ⟨⟨z2_0_0, z2_0_1, -⟩, ⟨z2_1_0, z2_1_1, z2_1_2, -⟩, -⟩ := hS.cells
    go_wp2
    go_ret2
    exact ⟨rfl, hS.fr⟩

set_option maxHeartbeats 400000 in
theorem Join_exp (E F ex fr : Nat) (neg : Bool) (h : Fo E F) (hx : 2 ^ E ≤ ex) (hx63 : ex < 9223372036854775808) (w : World) : Calls Try.prog 20 #[.agg #[.int .i64 E, .int .i64 F], .agg #[.bool neg, .int .i64 ex, .int .u64 fr]] w fun e w' => e = .returned (.tuple #[.int .u64 0, .int .i64 30]) ∧ Below w.heap.size w w' := by
  obtain ⟨m1, hm1⟩ : ∃ m1, m1 = 2 ^ E - 1 := ⟨_, rfl⟩
  obtain ⟨m0, hm0⟩ : ∃ m0, m0 = 2 ^ F - 1 := ⟨_, rfl⟩
  have HM1 := hide hm1
  have HM0 := hide hm0
  have hpE := pow_pos2 E
  have hpF := pow_pos2 F
  have hx1 : m1 < ex := by omega
  clear hm1 hm0 hpE hpF hx HM0 m0
  go_enter Try.func20, Try.ntmps20
  go_wp2_with fail
  refine (check_ok _ _ _ h).mono ?_
  rintro e w1 ⟨rfl, hb1⟩
  have hS := (Fs.two w _ _ _ _).kept hb1
  obtain ⟨⟨z1_0_0, z1_0_1, -⟩, ⟨z1_1_0, z1_1_1, z1_1_2, -⟩, -⟩ := hS.cells
  go_wp2_with fail
  refine wp_region_any (by kernel_rfl) ?_
  refine wpAny_det [some (12, .pointer (some ⟨w.heap.size + 1, 1, none⟩)), some (13, .int .i64 ex), some (14, .bool false), some (15, .bool false), some (16, .pointer (some ⟨w.heap.size + 1, 1, none⟩)), some (17, .int .i64 ex), some (18, .int .u64 ex), some (19, .agg #[.int .i64 E, .int .i64 F]), some (20, .int .u64 m1), some (21, .bool true), some (22, .bool true), some (23, .bool true), some (24, undef), some (25, undef), some (26, undef), some (27, undef), some (28, undef), some (29, .bool true)]
    (fun _ W9 => Fs w W9 [⟨w.heap.size, #[.int .i64 E, .int .i64 F], 23⟩, ⟨w.heap.size + 1, #[.bool neg, .int .i64 ex, .int .u64 fr], 27⟩]) _ _ rfl (by kernel_rfl) rfl rfl ?_ ?_ (hS).drew
  · intro l9 t9 W9 i9 hD hi9 hl9 hM
    obtain ⟨o9, ho9, hd9⟩ := (mem_ready.1 hi9).2
    have hin9 : i9 < 18 := by
      by_cases h : i9 < 18
      · exact h
      · rw [Array.getElem?_eq_none (by rw [hD.len]; simp; omega)] at hl9; cases hl9
    have hcase : i9 = 0 ∨ i9 = 1 ∨ i9 = 2 ∨ i9 = 3 ∨ i9 = 4 ∨ i9 = 5 ∨ i9 = 6 ∨ i9 = 7 ∨ i9 = 8 ∨ i9 = 9 ∨ i9 = 10 ∨ i9 = 11 ∨ i9 = 12 ∨ i9 = 13 ∨ i9 = 14 ∨ i9 = 15 ∨ i9 = 16 ∨ i9 = 17 := by omega
    clear hin9
    rcases hcase with rfl | rfl | rfl | rfl | rfl | rfl | rfl | rfl | rfl | rfl | rfl | rfl | rfl | rfl | rfl | rfl | rfl | rfl
    · cases ho9
      have r3 := hD.old 3 _ rfl rfl
      clear hD hd9 hi9
      refine wpOp_step rfl (fun K hK => ?_)
      go_simp
      exact hK _ _ ⟨rfl, hM⟩
    · cases ho9
      have r12 := hD.on 0 12 _ rfl (getD_true (hd9 ⟨0, .data⟩ (by simp) rfl))
      have hM0 := hM
      have c9_0 := hM0.cellAt (b := w.heap.size + 1) (cs := #[.bool neg, .int .i64 ex, .int .u64 fr]) (t := 27) (by simp) 1 _ rfl
      clear hM0
      clear hD hd9 hi9
      refine wpOp_step rfl (fun K hK => ?_)
      go_simp
      exact hK _ _ ⟨rfl, hM⟩
    · cases ho9
      have r13 := hD.on 1 13 _ rfl (getD_true (hd9 ⟨1, .data⟩ (by simp) rfl))
      clear hD hd9 hi9
      refine wpOp_step rfl (fun K hK => ?_)
      go_simp
      exact hK _ _ ⟨act_eq (by (first | rfl | skip); all_goals (rw [Value.bool.injEq]; first | (simp; done) | (simp; omega) | (rw [decide_eq_false_iff_not]; omega) | (rw [decide_eq_true_iff]; omega))), hM⟩
    · cases ho9
      have r14 := hD.on 2 14 _ rfl (getD_true (hd9 ⟨2, .data⟩ (by simp) rfl))
      clear hD hd9 hi9
      refine wpOp_step rfl (fun K hK => ?_)
      go_simp
      exact hK _ _ ⟨rfl, hM⟩
    · cases ho9
      have r15 := hD.on 3 15 _ rfl (getD_true (hd9 ⟨3, .guard⟩ (by simp) rfl))
      have r3 := hD.old 3 _ rfl rfl
      clear hD hd9 hi9
      refine wpOp_step rfl (fun K hK => ?_)
      go_simp
      exact hK _ _ ⟨rfl, hM⟩
    · cases ho9
      have r15 := hD.on 3 15 _ rfl (getD_true (hd9 ⟨3, .guard⟩ (by simp) rfl))
      have r16 := hD.on 4 16 _ rfl (getD_true (hd9 ⟨4, .data⟩ (by simp) rfl))
      have hM0 := hM
      have c9_0 := hM0.cellAt (b := w.heap.size + 1) (cs := #[.bool neg, .int .i64 ex, .int .u64 fr]) (t := 27) (by simp) 1 _ rfl
      clear hM0
      clear hD hd9 hi9
      refine wpOp_step rfl (fun K hK => ?_)
      go_simp
      exact hK _ _ ⟨rfl, hM⟩
    · cases ho9
      have r15 := hD.on 3 15 _ rfl (getD_true (hd9 ⟨3, .guard⟩ (by simp) rfl))
      have r17 := hD.on 5 17 _ rfl (getD_true (hd9 ⟨5, .data⟩ (by simp) rfl))
      clear hD hd9 hi9
      refine wpOp_step rfl (fun K hK => ?_)
      go_simp
      exact hK _ _ ⟨act_eq (by (show Value.int _ _ = Value.int _ _; congr 1; (first | rfl | omega | (rw [IntKind.wrap_i64]; omega) | (rw [IntKind.wrap_u64]; omega)))), hM⟩
    · cases ho9
      have r15 := hD.on 3 15 _ rfl (getD_true (hd9 ⟨3, .guard⟩ (by simp) rfl))
      have r2 := hD.old 2 _ rfl rfl
      have hM0 := hM
      have c9_0 := hM0.cellAt (b := w.heap.size) (cs := #[.int .i64 E, .int .i64 F]) (t := 23) (by simp) 0 _ rfl
      have c9_1 := hM0.cellAt (b := w.heap.size) (cs := #[.int .i64 E, .int .i64 F]) (t := 23) (by simp) 1 _ rfl
      clear hM0
      clear hD hd9 hi9
      refine wpOp_step rfl (fun K hK => ?_)
      go_simp
      exact hK _ _ ⟨rfl, hM⟩
    · cases ho9
      have r15 := hD.on 3 15 _ rfl (getD_true (hd9 ⟨3, .chain⟩ (by simp) rfl))
      have r19 := hD.on 7 19 _ rfl (getD_true (hd9 ⟨7, .data⟩ (by simp) rfl))
      clear hD hd9 hi9
      refine wpOp_step rfl (fun K hK => ?_)
      go_simp
      go_wp2_with fail
      refine (full1 _ _ m1 _ h HM1).mono ?_
      rintro en w9 ⟨rfl, hb9⟩
      exact hK _ _ ⟨rfl, hM.kept hb9⟩
    · cases ho9
      have r15 := hD.on 3 15 _ rfl (getD_true (hd9 ⟨3, .guard⟩ (by simp) rfl))
      have r18 := hD.on 6 18 _ rfl (getD_true (hd9 ⟨6, .data⟩ (by simp) rfl))
      have r20 := hD.on 8 20 _ rfl (getD_true (hd9 ⟨8, .data⟩ (by simp) rfl))
      clear hD hd9 hi9
      refine wpOp_step rfl (fun K hK => ?_)
      go_simp
      exact hK _ _ ⟨act_eq (by (first | rfl | skip); all_goals (rw [Value.bool.injEq]; first | (simp; done) | (simp; omega) | (rw [decide_eq_false_iff_not]; omega) | (rw [decide_eq_true_iff]; omega))), hM⟩
    · cases ho9
      have r15 := hD.on 3 15 _ rfl (getD_true (hd9 ⟨3, .data⟩ (by simp) rfl))
      have r21 := hD.on 9 21 _ rfl (getD_true (hd9 ⟨9, .data⟩ (by simp) rfl))
      clear hD hd9 hi9
      refine wpOp_step rfl (fun K hK => ?_)
      go_simp
      exact hK _ _ ⟨rfl, hM⟩
    · cases ho9
      have r22 := hD.on 10 22 _ rfl (getD_true (hd9 ⟨10, .data⟩ (by simp) rfl))
      clear hD hd9 hi9
      refine wpOp_step rfl (fun K hK => ?_)
      go_simp
      exact hK _ _ ⟨rfl, hM⟩
    · cases ho9
      have r23 := hD.on 11 23 _ rfl (getD_true (hd9 ⟨11, .guard⟩ (by simp) rfl))
      clear hD hd9 hi9
      refine wpOp_step rfl (fun K hK => ?_)
      go_simp
      exact hK _ _ ⟨rfl, hM⟩
    · cases ho9
      have r23 := hD.on 11 23 _ rfl (getD_true (hd9 ⟨11, .guard⟩ (by simp) rfl))
      clear hD hd9 hi9
      refine wpOp_step rfl (fun K hK => ?_)
      go_simp
      exact hK _ _ ⟨rfl, hM⟩
    · cases ho9
      have r23 := hD.on 11 23 _ rfl (getD_true (hd9 ⟨11, .guard⟩ (by simp) rfl))
      clear hD hd9 hi9
      refine wpOp_step rfl (fun K hK => ?_)
      go_simp
      exact hK _ _ ⟨rfl, hM⟩
    · cases ho9
      have r23 := hD.on 11 23 _ rfl (getD_true (hd9 ⟨11, .chain⟩ (by simp) rfl))
      clear hD hd9 hi9
      refine wpOp_step rfl (fun K hK => ?_)
      go_simp
      exact hK _ _ ⟨rfl, hM⟩
    · cases ho9
      have r23 := hD.on 11 23 _ rfl (getD_true (hd9 ⟨11, .guard⟩ (by simp) rfl))
      clear hD hd9 hi9
      refine wpOp_step rfl (fun K hK => ?_)
      go_simp
      exact hK _ _ ⟨rfl, hM⟩
    · cases ho9
      have r23 := hD.on 11 23 _ rfl (getD_true (hd9 ⟨11, .data⟩ (by simp) rfl))
      have r28 := hD.on 16 28 _ rfl (getD_true (hd9 ⟨16, .data⟩ (by simp) rfl))
      clear hD hd9 hi9
      refine wpOp_step rfl (fun K hK => ?_)
      go_simp
      exact hK _ _ ⟨rfl, hM⟩
  · intro l9 W9 hl9 hM
    clear hl9
    clear hS z1_0_0 z1_0_1 z1_1_0 z1_1_1 z1_1_2
    have hS := hM
    clear hM
    simp only [Puts.lay, List.setIfInBounds_toArray, List.set_cons_zero, List.set_cons_succ]
    obtain ⟨⟨z2_0_0, z2_0_1, -⟩, ⟨z2_1_0, z2_1_1, z2_1_2, -⟩, -⟩ := hS.cells
    go_wp2
    go_ret2
    exact ⟨rfl, hS.fr⟩

set_option maxHeartbeats 400000 in
theorem Join_frac (E F ex fr : Nat) (neg : Bool) (h : Fo E F) (hx : ex < 2 ^ E) (hf : 2 ^ F ≤ fr) (w : World) : Calls Try.prog 20 #[.agg #[.int .i64 E, .int .i64 F], .agg #[.bool neg, .int .i64 ex, .int .u64 fr]] w fun e w' => e = .returned (.tuple #[.int .u64 0, .int .i64 30]) ∧ Below w.heap.size w w' := by
  obtain ⟨m1, hm1⟩ : ∃ m1, m1 = 2 ^ E - 1 := ⟨_, rfl⟩
  obtain ⟨m0, hm0⟩ : ∃ m0, m0 = 2 ^ F - 1 := ⟨_, rfl⟩
  have HM1 := hide hm1
  have HM0 := hide hm0
  have hpE := pow_pos2 E
  have hpF := pow_pos2 F
  have hexl : ex < 2048 := by have := pow_bound h.e11; omega
  have hx1 : ex ≤ m1 := by omega
  have hf1 : m0 < fr := by omega
  clear hm1 hm0 hpE hpF hx hf
  go_enter Try.func20, Try.ntmps20
  go_wp2_with fail
  refine (check_ok _ _ _ h).mono ?_
  rintro e w1 ⟨rfl, hb1⟩
  have hS := (Fs.two w _ _ _ _).kept hb1
  obtain ⟨⟨z1_0_0, z1_0_1, -⟩, ⟨z1_1_0, z1_1_1, z1_1_2, -⟩, -⟩ := hS.cells
  go_wp2_with fail
  refine wp_region_any (by kernel_rfl) ?_
  refine wpAny_det [some (12, .pointer (some ⟨w.heap.size + 1, 1, none⟩)), some (13, .int .i64 ex), some (14, .bool false), some (15, .bool false), some (16, .pointer (some ⟨w.heap.size + 1, 1, none⟩)), some (17, .int .i64 ex), some (18, .int .u64 ex), some (19, .agg #[.int .i64 E, .int .i64 F]), some (20, .int .u64 m1), some (21, .bool false), some (22, .bool false), some (23, .bool false), some (24, .pointer (some ⟨w.heap.size + 1, 2, none⟩)), some (25, .int .u64 fr), some (26, .agg #[.int .i64 E, .int .i64 F]), some (27, .int .u64 m0), some (28, .bool true), some (29, .bool true)]
    (fun _ W9 => Fs w W9 [⟨w.heap.size, #[.int .i64 E, .int .i64 F], 23⟩, ⟨w.heap.size + 1, #[.bool neg, .int .i64 ex, .int .u64 fr], 27⟩]) _ _ rfl (by kernel_rfl) rfl rfl ?_ ?_ (hS).drew
  · intro l9 t9 W9 i9 hD hi9 hl9 hM
    obtain ⟨o9, ho9, hd9⟩ := (mem_ready.1 hi9).2
    have hin9 : i9 < 18 := by
      by_cases h : i9 < 18
      · exact h
      · rw [Array.getElem?_eq_none (by rw [hD.len]; simp; omega)] at hl9; cases hl9
    have hcase : i9 = 0 ∨ i9 = 1 ∨ i9 = 2 ∨ i9 = 3 ∨ i9 = 4 ∨ i9 = 5 ∨ i9 = 6 ∨ i9 = 7 ∨ i9 = 8 ∨ i9 = 9 ∨ i9 = 10 ∨ i9 = 11 ∨ i9 = 12 ∨ i9 = 13 ∨ i9 = 14 ∨ i9 = 15 ∨ i9 = 16 ∨ i9 = 17 := by omega
    clear hin9
    rcases hcase with rfl | rfl | rfl | rfl | rfl | rfl | rfl | rfl | rfl | rfl | rfl | rfl | rfl | rfl | rfl | rfl | rfl | rfl
    · cases ho9
      have r3 := hD.old 3 _ rfl rfl
      clear hD hd9 hi9
      refine wpOp_step rfl (fun K hK => ?_)
      go_simp
      exact hK _ _ ⟨rfl, hM⟩
    · cases ho9
      have r12 := hD.on 0 12 _ rfl (getD_true (hd9 ⟨0, .data⟩ (by simp) rfl))
      have hM0 := hM
      have c9_0 := hM0.cellAt (b := w.heap.size + 1) (cs := #[.bool neg, .int .i64 ex, .int .u64 fr]) (t := 27) (by simp) 1 _ rfl
      clear hM0
      clear hD hd9 hi9
      refine wpOp_step rfl (fun K hK => ?_)
      go_simp
      exact hK _ _ ⟨rfl, hM⟩
    · cases ho9
      have r13 := hD.on 1 13 _ rfl (getD_true (hd9 ⟨1, .data⟩ (by simp) rfl))
      clear hD hd9 hi9
      refine wpOp_step rfl (fun K hK => ?_)
      go_simp
      exact hK _ _ ⟨act_eq (by (first | rfl | skip); all_goals (rw [Value.bool.injEq]; first | (simp; done) | (simp; omega) | (rw [decide_eq_false_iff_not]; omega) | (rw [decide_eq_true_iff]; omega))), hM⟩
    · cases ho9
      have r14 := hD.on 2 14 _ rfl (getD_true (hd9 ⟨2, .data⟩ (by simp) rfl))
      clear hD hd9 hi9
      refine wpOp_step rfl (fun K hK => ?_)
      go_simp
      exact hK _ _ ⟨rfl, hM⟩
    · cases ho9
      have r15 := hD.on 3 15 _ rfl (getD_true (hd9 ⟨3, .guard⟩ (by simp) rfl))
      have r3 := hD.old 3 _ rfl rfl
      clear hD hd9 hi9
      refine wpOp_step rfl (fun K hK => ?_)
      go_simp
      exact hK _ _ ⟨rfl, hM⟩
    · cases ho9
      have r15 := hD.on 3 15 _ rfl (getD_true (hd9 ⟨3, .guard⟩ (by simp) rfl))
      have r16 := hD.on 4 16 _ rfl (getD_true (hd9 ⟨4, .data⟩ (by simp) rfl))
      have hM0 := hM
      have c9_0 := hM0.cellAt (b := w.heap.size + 1) (cs := #[.bool neg, .int .i64 ex, .int .u64 fr]) (t := 27) (by simp) 1 _ rfl
      clear hM0
      clear hD hd9 hi9
      refine wpOp_step rfl (fun K hK => ?_)
      go_simp
      exact hK _ _ ⟨rfl, hM⟩
    · cases ho9
      have r15 := hD.on 3 15 _ rfl (getD_true (hd9 ⟨3, .guard⟩ (by simp) rfl))
      have r17 := hD.on 5 17 _ rfl (getD_true (hd9 ⟨5, .data⟩ (by simp) rfl))
      clear hD hd9 hi9
      refine wpOp_step rfl (fun K hK => ?_)
      go_simp
      exact hK _ _ ⟨act_eq (by (show Value.int _ _ = Value.int _ _; congr 1; (first | rfl | omega | (rw [IntKind.wrap_i64]; omega) | (rw [IntKind.wrap_u64]; omega)))), hM⟩
    · cases ho9
      have r15 := hD.on 3 15 _ rfl (getD_true (hd9 ⟨3, .guard⟩ (by simp) rfl))
      have r2 := hD.old 2 _ rfl rfl
      have hM0 := hM
      have c9_0 := hM0.cellAt (b := w.heap.size) (cs := #[.int .i64 E, .int .i64 F]) (t := 23) (by simp) 0 _ rfl
      have c9_1 := hM0.cellAt (b := w.heap.size) (cs := #[.int .i64 E, .int .i64 F]) (t := 23) (by simp) 1 _ rfl
      clear hM0
      clear hD hd9 hi9
      refine wpOp_step rfl (fun K hK => ?_)
      go_simp
      exact hK _ _ ⟨rfl, hM⟩
    · cases ho9
      have r15 := hD.on 3 15 _ rfl (getD_true (hd9 ⟨3, .chain⟩ (by simp) rfl))
      have r19 := hD.on 7 19 _ rfl (getD_true (hd9 ⟨7, .data⟩ (by simp) rfl))
      clear hD hd9 hi9
      refine wpOp_step rfl (fun K hK => ?_)
      go_simp
      go_wp2_with fail
      refine (full1 _ _ m1 _ h HM1).mono ?_
      rintro en w9 ⟨rfl, hb9⟩
      exact hK _ _ ⟨rfl, hM.kept hb9⟩
    · cases ho9
      have r15 := hD.on 3 15 _ rfl (getD_true (hd9 ⟨3, .guard⟩ (by simp) rfl))
      have r18 := hD.on 6 18 _ rfl (getD_true (hd9 ⟨6, .data⟩ (by simp) rfl))
      have r20 := hD.on 8 20 _ rfl (getD_true (hd9 ⟨8, .data⟩ (by simp) rfl))
      clear hD hd9 hi9
      refine wpOp_step rfl (fun K hK => ?_)
      go_simp
      exact hK _ _ ⟨act_eq (by (first | rfl | skip); all_goals (rw [Value.bool.injEq]; first | (simp; done) | (simp; omega) | (rw [decide_eq_false_iff_not]; omega) | (rw [decide_eq_true_iff]; omega))), hM⟩
    · cases ho9
      have r15 := hD.on 3 15 _ rfl (getD_true (hd9 ⟨3, .data⟩ (by simp) rfl))
      have r21 := hD.on 9 21 _ rfl (getD_true (hd9 ⟨9, .data⟩ (by simp) rfl))
      clear hD hd9 hi9
      refine wpOp_step rfl (fun K hK => ?_)
      go_simp
      exact hK _ _ ⟨rfl, hM⟩
    · cases ho9
      have r22 := hD.on 10 22 _ rfl (getD_true (hd9 ⟨10, .data⟩ (by simp) rfl))
      clear hD hd9 hi9
      refine wpOp_step rfl (fun K hK => ?_)
      go_simp
      exact hK _ _ ⟨rfl, hM⟩
    · cases ho9
      have r23 := hD.on 11 23 _ rfl (getD_true (hd9 ⟨11, .guard⟩ (by simp) rfl))
      have r3 := hD.old 3 _ rfl rfl
      clear hD hd9 hi9
      refine wpOp_step rfl (fun K hK => ?_)
      go_simp
      exact hK _ _ ⟨rfl, hM⟩
    · cases ho9
      have r23 := hD.on 11 23 _ rfl (getD_true (hd9 ⟨11, .guard⟩ (by simp) rfl))
      have r24 := hD.on 12 24 _ rfl (getD_true (hd9 ⟨12, .data⟩ (by simp) rfl))
      have hM0 := hM
      have c9_0 := hM0.cellAt (b := w.heap.size + 1) (cs := #[.bool neg, .int .i64 ex, .int .u64 fr]) (t := 27) (by simp) 2 _ rfl
      clear hM0
      clear hD hd9 hi9
      refine wpOp_step rfl (fun K hK => ?_)
      go_simp
      exact hK _ _ ⟨rfl, hM⟩
    · cases ho9
      have r23 := hD.on 11 23 _ rfl (getD_true (hd9 ⟨11, .guard⟩ (by simp) rfl))
      have r2 := hD.old 2 _ rfl rfl
      have hM0 := hM
      have c9_0 := hM0.cellAt (b := w.heap.size) (cs := #[.int .i64 E, .int .i64 F]) (t := 23) (by simp) 0 _ rfl
      have c9_1 := hM0.cellAt (b := w.heap.size) (cs := #[.int .i64 E, .int .i64 F]) (t := 23) (by simp) 1 _ rfl
      clear hM0
      clear hD hd9 hi9
      refine wpOp_step rfl (fun K hK => ?_)
      go_simp
      exact hK _ _ ⟨rfl, hM⟩
    · cases ho9
      have r23 := hD.on 11 23 _ rfl (getD_true (hd9 ⟨11, .chain⟩ (by simp) rfl))
      have r26 := hD.on 14 26 _ rfl (getD_true (hd9 ⟨14, .data⟩ (by simp) rfl))
      clear hD hd9 hi9
      refine wpOp_step rfl (fun K hK => ?_)
      go_simp
      go_wp2_with fail
      refine (full0 _ _ m0 _ h HM0).mono ?_
      rintro en w9 ⟨rfl, hb9⟩
      exact hK _ _ ⟨rfl, hM.kept hb9⟩
    · cases ho9
      have r23 := hD.on 11 23 _ rfl (getD_true (hd9 ⟨11, .guard⟩ (by simp) rfl))
      have r25 := hD.on 13 25 _ rfl (getD_true (hd9 ⟨13, .data⟩ (by simp) rfl))
      have r27 := hD.on 15 27 _ rfl (getD_true (hd9 ⟨15, .data⟩ (by simp) rfl))
      clear hD hd9 hi9
      refine wpOp_step rfl (fun K hK => ?_)
      go_simp
      exact hK _ _ ⟨act_eq (by (first | rfl | skip); all_goals (rw [Value.bool.injEq]; first | (simp; done) | (simp; omega) | (rw [decide_eq_false_iff_not]; omega) | (rw [decide_eq_true_iff]; omega))), hM⟩
    · cases ho9
      have r23 := hD.on 11 23 _ rfl (getD_true (hd9 ⟨11, .data⟩ (by simp) rfl))
      have r28 := hD.on 16 28 _ rfl (getD_true (hd9 ⟨16, .data⟩ (by simp) rfl))
      clear hD hd9 hi9
      refine wpOp_step rfl (fun K hK => ?_)
      go_simp
      exact hK _ _ ⟨rfl, hM⟩
  · intro l9 W9 hl9 hM
    clear hl9
    clear hS z1_0_0 z1_0_1 z1_1_0 z1_1_1 z1_1_2
    have hS := hM
    clear hM
    simp only [Puts.lay, List.setIfInBounds_toArray, List.set_cons_zero, List.set_cons_succ]
    obtain ⟨⟨z2_0_0, z2_0_1, -⟩, ⟨z2_1_0, z2_1_1, z2_1_2, -⟩, -⟩ := hS.cells
    go_wp2
    go_ret2
    exact ⟨rfl, hS.fr⟩

set_option maxHeartbeats 400000 in
theorem Join_bad (E F : Int) (hbad : NoFo E F) (x fr : Int) (neg : Bool) (w : World) : Calls Try.prog 20 #[.agg #[.int .i64 E, .int .i64 F], .agg #[.bool neg, .int .i64 x, .int .u64 fr]] w fun e w' => e = .returned (.tuple #[.int .u64 0, .int .i64 5]) ∧ Below w.heap.size w w' := by
  have HB := hide hbad
  clear hbad
  go_enter Try.func20, Try.ntmps20
  go_wp2_with fail
  refine (check_bad _ _ _ (unhide HB)).mono ?_
  rintro e w1 ⟨rfl, hb1⟩
  have hS := (Fs.two w _ _ _ _).kept hb1
  obtain ⟨⟨z1_0_0, z1_0_1, -⟩, ⟨z1_1_0, z1_1_1, z1_1_2, -⟩, -⟩ := hS.cells
  go_wp2
  go_ret2
  exact ⟨rfl, hS.fr⟩

set_option maxHeartbeats 400000 in
theorem Range_ok (E F m : Nat) (h : Fo E F) (hm : Hid (m = 2 ^ (E - 1) - 1)) (w : World) : Calls Try.prog 34 #[.agg #[.int .i64 E, .int .i64 F]] w fun e w' => e = .returned (.tuple #[.int .i64 (1 - (m : Int) - (F : Int)), .int .i64 (m : Int), .int .i64 0]) ∧ Below w.heap.size w w' := by
  have hml : m < 1024 := by have := pow_bound (show E - 1 ≤ 10 by have := h.e11; omega); have := pow_pos2 (E - 1); rw [unhide hm]; omega
  have h4 := h.f52
  go_enter Try.func34, Try.ntmps34
  go_wp2_with fail
  refine (check_ok _ _ _ h).mono ?_
  rintro e w1 ⟨rfl, hb1⟩
  have hS := (Fs.one w _ _).kept hb1
  obtain ⟨⟨z1_0_0, z1_0_1, -⟩, -⟩ := hS.cells
  go_wp2_with fail
  refine wp_region_any (by kernel_rfl) ?_
  refine wpAny_det [some (11, .agg #[.int .i64 E, .int .i64 F]), some (12, .int .i64 m), some (13, .int .i64 (1 - (m : Int))), some (14, .pointer (some ⟨w.heap.size, 1, none⟩)), some (15, .int .i64 F), some (16, .int .i64 (1 - (m : Int) - (F : Int))), some (17, .agg #[.int .i64 E, .int .i64 F]), some (18, .int .i64 m), some (2, .int .i64 (1 - (m : Int) - (F : Int))), some (3, .int .i64 m), some (4, .int .i64 0)]
    (fun _ W9 => Fs w W9 [⟨w.heap.size, #[.int .i64 E, .int .i64 F], 23⟩]) _ _ rfl (by kernel_rfl) rfl rfl ?_ ?_ (hS).drew
  · intro l9 t9 W9 i9 hD hi9 hl9 hM
    obtain ⟨o9, ho9, hd9⟩ := (mem_ready.1 hi9).2
    have hin9 : i9 < 11 := by
      by_cases h : i9 < 11
      · exact h
      · rw [Array.getElem?_eq_none (by rw [hD.len]; simp; omega)] at hl9; cases hl9
    have hcase : i9 = 0 ∨ i9 = 1 ∨ i9 = 2 ∨ i9 = 3 ∨ i9 = 4 ∨ i9 = 5 ∨ i9 = 6 ∨ i9 = 7 ∨ i9 = 8 ∨ i9 = 9 ∨ i9 = 10 := by omega
    clear hin9
    rcases hcase with rfl | rfl | rfl | rfl | rfl | rfl | rfl | rfl | rfl | rfl | rfl
    · cases ho9
      have r1 := hD.old 1 _ rfl rfl
      have hM0 := hM
      have c9_0 := hM0.cellAt (b := w.heap.size) (cs := #[.int .i64 E, .int .i64 F]) (t := 23) (by simp) 0 _ rfl
      have c9_1 := hM0.cellAt (b := w.heap.size) (cs := #[.int .i64 E, .int .i64 F]) (t := 23) (by simp) 1 _ rfl
      clear hM0
      clear hD hd9 hi9
      refine wpOp_step rfl (fun K hK => ?_)
      go_simp
      exact hK _ _ ⟨rfl, hM⟩
    · cases ho9
      have r11 := hD.on 0 11 _ rfl (getD_true (hd9 ⟨0, .data⟩ (by simp) rfl))
      clear hD hd9 hi9
      refine wpOp_step rfl (fun K hK => ?_)
      go_simp
      go_wp2_with fail
      refine (bias_any _ _ m _ h hm).mono ?_
      rintro en w9 ⟨rfl, hb9⟩
      exact hK _ _ ⟨rfl, hM.kept hb9⟩
    · cases ho9
      have r12 := hD.on 1 12 _ rfl (getD_true (hd9 ⟨1, .data⟩ (by simp) rfl))
      clear hD hd9 hi9
      refine wpOp_step rfl (fun K hK => ?_)
      go_simp
      exact hK _ _ ⟨act_eq (by (show Value.int _ _ = Value.int _ _; congr 1; (first | rfl | omega | (rw [IntKind.wrap_i64]; omega) | (rw [IntKind.wrap_u64]; omega)))), hM⟩
    · cases ho9
      have r1 := hD.old 1 _ rfl rfl
      clear hD hd9 hi9
      refine wpOp_step rfl (fun K hK => ?_)
      go_simp
      exact hK _ _ ⟨rfl, hM⟩
    · cases ho9
      have r14 := hD.on 3 14 _ rfl (getD_true (hd9 ⟨3, .data⟩ (by simp) rfl))
      have hM0 := hM
      have c9_0 := hM0.cellAt (b := w.heap.size) (cs := #[.int .i64 E, .int .i64 F]) (t := 23) (by simp) 1 _ rfl
      clear hM0
      clear hD hd9 hi9
      refine wpOp_step rfl (fun K hK => ?_)
      go_simp
      exact hK _ _ ⟨rfl, hM⟩
    · cases ho9
      have r13 := hD.on 2 13 _ rfl (getD_true (hd9 ⟨2, .data⟩ (by simp) rfl))
      have r15 := hD.on 4 15 _ rfl (getD_true (hd9 ⟨4, .data⟩ (by simp) rfl))
      clear hD hd9 hi9
      refine wpOp_step rfl (fun K hK => ?_)
      go_simp
      exact hK _ _ ⟨act_eq (by (show Value.int _ _ = Value.int _ _; congr 1; (first | rfl | omega | (rw [IntKind.wrap_i64]; omega) | (rw [IntKind.wrap_u64]; omega)))), hM⟩
    · cases ho9
      have r1 := hD.old 1 _ rfl rfl
      have hM0 := hM
      have c9_0 := hM0.cellAt (b := w.heap.size) (cs := #[.int .i64 E, .int .i64 F]) (t := 23) (by simp) 0 _ rfl
      have c9_1 := hM0.cellAt (b := w.heap.size) (cs := #[.int .i64 E, .int .i64 F]) (t := 23) (by simp) 1 _ rfl
      clear hM0
      clear hD hd9 hi9
      refine wpOp_step rfl (fun K hK => ?_)
      go_simp
      exact hK _ _ ⟨rfl, hM⟩
    · cases ho9
      have r17 := hD.on 6 17 _ rfl (getD_true (hd9 ⟨6, .data⟩ (by simp) rfl))
      clear hD hd9 hi9
      refine wpOp_step rfl (fun K hK => ?_)
      go_simp
      go_wp2_with fail
      refine (bias_any _ _ m _ h hm).mono ?_
      rintro en w9 ⟨rfl, hb9⟩
      exact hK _ _ ⟨rfl, hM.kept hb9⟩
    · cases ho9
      have r16 := hD.on 5 16 _ rfl (getD_true (hd9 ⟨5, .data⟩ (by simp) rfl))
      clear hD hd9 hi9
      refine wpOp_step rfl (fun K hK => ?_)
      go_simp
      exact hK _ _ ⟨rfl, hM⟩
    · cases ho9
      have r18 := hD.on 7 18 _ rfl (getD_true (hd9 ⟨7, .data⟩ (by simp) rfl))
      clear hD hd9 hi9
      refine wpOp_step rfl (fun K hK => ?_)
      go_simp
      exact hK _ _ ⟨rfl, hM⟩
    · cases ho9
      clear hD hd9 hi9
      refine wpOp_step rfl (fun K hK => ?_)
      go_simp
      exact hK _ _ ⟨rfl, hM⟩
  · intro l9 W9 hl9 hM
    clear hl9
    clear hS z1_0_0 z1_0_1
    have hS := hM
    clear hM
    simp only [Puts.lay, List.setIfInBounds_toArray, List.set_cons_zero, List.set_cons_succ]
    obtain ⟨⟨z2_0_0, z2_0_1, -⟩, -⟩ := hS.cells
    go_wp2
    go_ret3
    exact ⟨rfl, hS.fr⟩

set_option maxHeartbeats 400000 in
theorem Range_bad (E F : Int) (hbad : NoFo E F)  (w : World) : Calls Try.prog 34 #[.agg #[.int .i64 E, .int .i64 F]] w fun e w' => e = .returned (.tuple #[.int .i64 0, .int .i64 0, .int .i64 5]) ∧ Below w.heap.size w w' := by
  have HB := hide hbad
  clear hbad
  go_enter Try.func34, Try.ntmps34
  go_wp2_with fail
  refine (check_bad _ _ _ (unhide HB)).mono ?_
  rintro e w1 ⟨rfl, hb1⟩
  have hS := (Fs.one w _ _).kept hb1
  obtain ⟨⟨z1_0_0, z1_0_1, -⟩, -⟩ := hS.cells
  go_wp2
  go_ret3
  exact ⟨rfl, hS.fr⟩

end Go.Proofs.Ytafeioonnhnpcaa
