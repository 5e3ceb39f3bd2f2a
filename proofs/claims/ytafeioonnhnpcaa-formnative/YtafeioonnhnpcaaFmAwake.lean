/- The laws' awake. -/
import Derived.Test.YtafeioonnhnpcaaFmKnown
namespace Go.Proofs.Ytafeioonnhnpcaa
open Go.RowKit

/-- A call answers v, whatever lies in memory, and leaves alone what was there. -/
def Says (fn : Nat) (args : Array Value) (v : Value) : Prop := ∀ W : World, Calls Try.prog fn args W fun e w' => e = .returned v ∧ Below W.heap.size W w'

set_option maxHeartbeats 400000 in
theorem half_any  (w : World) : Calls Try.prog 45 #[] w fun e w' => e = .returned (.agg #[.int .i64 5, .int .i64 10]) ∧ Below w.heap.size w w' := by
  go_enter Try.func45, Try.ntmps45
  go_wp2
  exact bodyPost_ret (v := .agg #[.int .i64 5, .int .i64 10]) (by simp [results, Try.results45, go_sem]) rfl ⟨rfl, (Fs.one w _ _).fr⟩

set_option maxHeartbeats 400000 in
theorem brain_any  (w : World) : Calls Try.prog 36 #[] w fun e w' => e = .returned (.agg #[.int .i64 8, .int .i64 7]) ∧ Below w.heap.size w w' := by
  go_enter Try.func36, Try.ntmps36
  go_wp2
  exact bodyPost_ret (v := .agg #[.int .i64 8, .int .i64 7]) (by simp [results, Try.results36, go_sem]) rfl ⟨rfl, (Fs.one w _ _).fr⟩

set_option maxHeartbeats 400000 in
theorem single_any  (w : World) : Calls Try.prog 37 #[] w fun e w' => e = .returned (.agg #[.int .i64 8, .int .i64 23]) ∧ Below w.heap.size w w' := by
  go_enter Try.func37, Try.ntmps37
  go_wp2
  exact bodyPost_ret (v := .agg #[.int .i64 8, .int .i64 23]) (by simp [results, Try.results37, go_sem]) rfl ⟨rfl, (Fs.one w _ _).fr⟩

set_option maxHeartbeats 400000 in
theorem double_any  (w : World) : Calls Try.prog 38 #[] w fun e w' => e = .returned (.agg #[.int .i64 11, .int .i64 52]) ∧ Below w.heap.size w w' := by
  go_enter Try.func38, Try.ntmps38
  go_wp2
  exact bodyPost_ret (v := .agg #[.int .i64 11, .int .i64 52]) (by simp [results, Try.results38, go_sem]) rfl ⟨rfl, (Fs.one w _ _).fr⟩

set_option maxRecDepth 20000 in
set_option maxHeartbeats 400000 in
theorem awake_any  (w : World) : Calls Try.prog 9 #[] w fun e w' => e = .returned (.bool true) ∧ Below w.heap.size w w' := by
  have q1 : (Says 10 #[.agg #[.int .i64 8, .int .i64 23], .int .u64 3226013659] (.tuple #[.agg #[.bool true, .int .i64 128, .int .u64 4788187], .int .i64 0])) := fun W => Split_ok 8 23 3226013659 128 4788187 true ⟨by decide, by decide, by decide, by decide⟩ ⟨by decide, by decide, by decide⟩ W
  have q2 : (Says 26 #[.agg #[.int .i64 5, .int .i64 10], .bool false, .int .u64 3] (.tuple #[.int .u64 32259, .int .i64 0])) := fun W => NaN_ok 5 10 32259 3 31 515 false ⟨by decide, by decide, by decide, by decide⟩ (by decide) (by decide) (hide (by decide)) ⟨by decide, by decide, by decide⟩ W
  have q3 : (Says 28 #[.agg #[.int .i64 5, .int .i64 10], .bool false] (.tuple #[.int .u64 31743, .int .i64 0])) := fun W => Greatest_ok 5 10 31743 30 1023 false ⟨by decide, by decide, by decide, by decide⟩ ⟨by decide, by decide, by decide⟩ (hide (by decide)) (hide (by decide)) W
  have q4 : (Says 12 #[.agg #[.int .i64 5, .int .i64 10], .int .u64 1] (.tuple #[.int .u8 2, .int .i64 0])) := fun W => Class_ok 5 10 1 0 1 false ⟨by decide, by decide, by decide, by decide⟩ ⟨by decide, by decide, by decide⟩ 31 (hide (by decide)) W
  go_enter Try.func9, Try.ntmps9
  go_wp2_with fail
  refine (q1 _).mono ?_
  rintro e w1 ⟨rfl, hb1⟩
  have hS := (Fs.one w _ _).kept hb1
  obtain ⟨⟨z1_0_0, z1_0_1, -⟩, -⟩ := hS.cells
  have hlt1_0 : w.heap.size < w1.heap.size := block_lt (hS.bx ⟨w.heap.size, #[.int .i64 5, .int .i64 10], 23⟩ (by simp))
  replace hS := hS.alloc #[.bool true, .int .i64 128, .int .u64 4788187] 27
  go_wp2_with fail
  refine (q2 _).mono ?_
  rintro e w2 ⟨rfl, hb2⟩
  replace hS := hS.kept hb2
  clear z1_0_0 z1_0_1
  obtain ⟨⟨z2_0_0, z2_0_1, z2_0_2, -⟩, ⟨z2_1_0, z2_1_1, -⟩, -⟩ := hS.cells
  go_wp2_with fail
  refine (q3 _).mono ?_
  rintro e w3 ⟨rfl, hb3⟩
  replace hS := hS.kept hb3
  clear z2_0_0 z2_0_1 z2_0_2 z2_1_0 z2_1_1
  obtain ⟨⟨z3_0_0, z3_0_1, z3_0_2, -⟩, ⟨z3_1_0, z3_1_1, -⟩, -⟩ := hS.cells
  go_wp2_with fail
  refine (q4 _).mono ?_
  rintro e w4 ⟨rfl, hb4⟩
  replace hS := hS.kept hb4
  clear z3_0_0 z3_0_1 z3_0_2 z3_1_0 z3_1_1
  obtain ⟨⟨z4_0_0, z4_0_1, z4_0_2, -⟩, ⟨z4_1_0, z4_1_1, -⟩, -⟩ := hS.cells
  go_wp2_with fail
  refine wp_region_any (by kernel_rfl) ?_
  refine wpAny_det [some (31, .agg #[.int .i64 5, .int .i64 10]), some (32, .agg #[.int .i64 5, .int .i64 10]), some (33, .bool true), some (34, .bool true), some (35, .int .i64 0), some (36, .bool true), some (37, .bool true), some (38, .bool true), some (39, .agg #[.bool true, .int .i64 128, .int .u64 4788187]), some (40, .agg #[.bool true, .int .i64 128, .int .u64 4788187]), some (41, .bool true), some (42, .bool true), some (43, .bool true), some (44, .int .i64 0), some (45, .bool true), some (46, .bool true), some (47, .bool true), some (48, .int .u64 32259), some (49, .bool true), some (50, .bool true), some (51, .bool true), some (52, .int .i64 0), some (53, .bool true), some (54, .bool true), some (55, .bool true), some (56, .int .u64 31743), some (57, .bool true), some (58, .bool true), some (59, .bool true), some (60, .int .i64 0), some (61, .bool true), some (62, .bool true), some (63, .bool true), some (64, .int .u8 2), some (65, .bool true), some (66, .bool true), some (0, .bool true)]
    (fun _ W9 => Fs w W9 [⟨w1.heap.size, #[.bool true, .int .i64 128, .int .u64 4788187], 27⟩, ⟨w.heap.size, #[.int .i64 5, .int .i64 10], 23⟩]) _ _ rfl (by kernel_rfl) rfl rfl ?_ ?_ (hS).drew
  · intro l9 t9 W9 i9 hD hi9 hl9 hM
    obtain ⟨o9, ho9, hd9⟩ := (mem_ready.1 hi9).2
    have hin9 : i9 < 37 := by
      by_cases h : i9 < 37
      · exact h
      · rw [Array.getElem?_eq_none (by rw [hD.len]; simp; omega)] at hl9; cases hl9
    have hcase : i9 = 0 ∨ i9 = 1 ∨ i9 = 2 ∨ i9 = 3 ∨ i9 = 4 ∨ i9 = 5 ∨ i9 = 6 ∨ i9 = 7 ∨ i9 = 8 ∨ i9 = 9 ∨ i9 = 10 ∨ i9 = 11 ∨ i9 = 12 ∨ i9 = 13 ∨ i9 = 14 ∨ i9 = 15 ∨ i9 = 16 ∨ i9 = 17 ∨ i9 = 18 ∨ i9 = 19 ∨ i9 = 20 ∨ i9 = 21 ∨ i9 = 22 ∨ i9 = 23 ∨ i9 = 24 ∨ i9 = 25 ∨ i9 = 26 ∨ i9 = 27 ∨ i9 = 28 ∨ i9 = 29 ∨ i9 = 30 ∨ i9 = 31 ∨ i9 = 32 ∨ i9 = 33 ∨ i9 = 34 ∨ i9 = 35 ∨ i9 = 36 := by omega
    clear hin9
    rcases hcase with rfl | rfl | rfl | rfl | rfl | rfl | rfl | rfl | rfl | rfl | rfl | rfl | rfl | rfl | rfl | rfl | rfl | rfl | rfl | rfl | rfl | rfl | rfl | rfl | rfl | rfl | rfl | rfl | rfl | rfl | rfl | rfl | rfl | rfl | rfl | rfl | rfl
    · cases ho9
      clear hD hd9 hi9
      refine wpOp_step rfl (fun K hK => ?_)
      go_simp
      go_wp2_with fail
      refine (half_any _).mono ?_
      rintro en w9 ⟨rfl, hb9⟩
      exact hK _ _ ⟨rfl, hM.kept hb9⟩
    · cases ho9
      have r1 := hD.old 1 _ rfl rfl
      have hM0 := hM
      have c9_0 := hM0.cellAt (b := w.heap.size) (cs := #[.int .i64 5, .int .i64 10]) (t := 23) (by simp) 0 _ rfl
      have c9_1 := hM0.cellAt (b := w.heap.size) (cs := #[.int .i64 5, .int .i64 10]) (t := 23) (by simp) 1 _ rfl
      clear hM0
      clear hD hd9 hi9
      refine wpOp_step rfl (fun K hK => ?_)
      go_simp
      exact hK _ _ ⟨rfl, hM⟩
    · cases ho9
      have r31 := hD.on 0 31 _ rfl (getD_true (hd9 ⟨0, .data⟩ (by simp) rfl))
      have r32 := hD.on 1 32 _ rfl (getD_true (hd9 ⟨1, .data⟩ (by simp) rfl))
      clear hD hd9 hi9
      refine wpOp_step rfl (fun K hK => ?_)
      go_simp
      exact hK _ _ ⟨act_eq (by (first | rfl | (simp; done))), hM⟩
    · cases ho9
      have r33 := hD.on 2 33 _ rfl (getD_true (hd9 ⟨2, .data⟩ (by simp) rfl))
      clear hD hd9 hi9
      refine wpOp_step rfl (fun K hK => ?_)
      go_simp
      exact hK _ _ ⟨rfl, hM⟩
    · cases ho9
      have r34 := hD.on 3 34 _ rfl (getD_true (hd9 ⟨3, .guard⟩ (by simp) rfl))
      have r3 := hD.old 3 _ rfl rfl
      clear hD hd9 hi9
      refine wpOp_step rfl (fun K hK => ?_)
      go_simp
      exact hK _ _ ⟨rfl, hM⟩
    · cases ho9
      have r34 := hD.on 3 34 _ rfl (getD_true (hd9 ⟨3, .guard⟩ (by simp) rfl))
      have r35 := hD.on 4 35 _ rfl (getD_true (hd9 ⟨4, .data⟩ (by simp) rfl))
      clear hD hd9 hi9
      refine wpOp_step rfl (fun K hK => ?_)
      go_simp
      exact hK _ _ ⟨act_eq (by (first | rfl | (simp; done))), hM⟩
    · cases ho9
      have r34 := hD.on 3 34 _ rfl (getD_true (hd9 ⟨3, .data⟩ (by simp) rfl))
      have r36 := hD.on 5 36 _ rfl (getD_true (hd9 ⟨5, .data⟩ (by simp) rfl))
      clear hD hd9 hi9
      refine wpOp_step rfl (fun K hK => ?_)
      go_simp
      exact hK _ _ ⟨rfl, hM⟩
    · cases ho9
      have r37 := hD.on 6 37 _ rfl (getD_true (hd9 ⟨6, .data⟩ (by simp) rfl))
      clear hD hd9 hi9
      refine wpOp_step rfl (fun K hK => ?_)
      go_simp
      exact hK _ _ ⟨rfl, hM⟩
    · cases ho9
      have r38 := hD.on 7 38 _ rfl (getD_true (hd9 ⟨7, .guard⟩ (by simp) rfl))
      have r2 := hD.old 2 _ rfl rfl
      have hM0 := hM
      have c9_0 := hM0.cellAt (b := w1.heap.size) (cs := #[.bool true, .int .i64 128, .int .u64 4788187]) (t := 27) (by simp) 0 _ rfl
      have c9_1 := hM0.cellAt (b := w1.heap.size) (cs := #[.bool true, .int .i64 128, .int .u64 4788187]) (t := 27) (by simp) 1 _ rfl
      have c9_2 := hM0.cellAt (b := w1.heap.size) (cs := #[.bool true, .int .i64 128, .int .u64 4788187]) (t := 27) (by simp) 2 _ rfl
      clear hM0
      clear hD hd9 hi9
      refine wpOp_step rfl (fun K hK => ?_)
      go_simp
      exact hK _ _ ⟨rfl, hM⟩
    · cases ho9
      have r38 := hD.on 7 38 _ rfl (getD_true (hd9 ⟨7, .guard⟩ (by simp) rfl))
      clear hD hd9 hi9
      refine wpOp_step rfl (fun K hK => ?_)
      go_simp
      exact hK _ _ ⟨rfl, hM⟩
    · cases ho9
      have r38 := hD.on 7 38 _ rfl (getD_true (hd9 ⟨7, .guard⟩ (by simp) rfl))
      have r39 := hD.on 8 39 _ rfl (getD_true (hd9 ⟨8, .data⟩ (by simp) rfl))
      have r40 := hD.on 9 40 _ rfl (getD_true (hd9 ⟨9, .data⟩ (by simp) rfl))
      clear hD hd9 hi9
      refine wpOp_step rfl (fun K hK => ?_)
      go_simp
      exact hK _ _ ⟨act_eq (by (first | rfl | (simp; done))), hM⟩
    · cases ho9
      have r38 := hD.on 7 38 _ rfl (getD_true (hd9 ⟨7, .data⟩ (by simp) rfl))
      have r41 := hD.on 10 41 _ rfl (getD_true (hd9 ⟨10, .data⟩ (by simp) rfl))
      clear hD hd9 hi9
      refine wpOp_step rfl (fun K hK => ?_)
      go_simp
      exact hK _ _ ⟨rfl, hM⟩
    · cases ho9
      have r42 := hD.on 11 42 _ rfl (getD_true (hd9 ⟨11, .data⟩ (by simp) rfl))
      clear hD hd9 hi9
      refine wpOp_step rfl (fun K hK => ?_)
      go_simp
      exact hK _ _ ⟨rfl, hM⟩
    · cases ho9
      have r43 := hD.on 12 43 _ rfl (getD_true (hd9 ⟨12, .guard⟩ (by simp) rfl))
      have r5 := hD.old 5 _ rfl rfl
      clear hD hd9 hi9
      refine wpOp_step rfl (fun K hK => ?_)
      go_simp
      exact hK _ _ ⟨rfl, hM⟩
    · cases ho9
      have r43 := hD.on 12 43 _ rfl (getD_true (hd9 ⟨12, .guard⟩ (by simp) rfl))
      have r44 := hD.on 13 44 _ rfl (getD_true (hd9 ⟨13, .data⟩ (by simp) rfl))
      clear hD hd9 hi9
      refine wpOp_step rfl (fun K hK => ?_)
      go_simp
      exact hK _ _ ⟨act_eq (by (first | rfl | (simp; done))), hM⟩
    · cases ho9
      have r43 := hD.on 12 43 _ rfl (getD_true (hd9 ⟨12, .data⟩ (by simp) rfl))
      have r45 := hD.on 14 45 _ rfl (getD_true (hd9 ⟨14, .data⟩ (by simp) rfl))
      clear hD hd9 hi9
      refine wpOp_step rfl (fun K hK => ?_)
      go_simp
      exact hK _ _ ⟨rfl, hM⟩
    · cases ho9
      have r46 := hD.on 15 46 _ rfl (getD_true (hd9 ⟨15, .data⟩ (by simp) rfl))
      clear hD hd9 hi9
      refine wpOp_step rfl (fun K hK => ?_)
      go_simp
      exact hK _ _ ⟨rfl, hM⟩
    · cases ho9
      have r47 := hD.on 16 47 _ rfl (getD_true (hd9 ⟨16, .guard⟩ (by simp) rfl))
      have r4 := hD.old 4 _ rfl rfl
      clear hD hd9 hi9
      refine wpOp_step rfl (fun K hK => ?_)
      go_simp
      exact hK _ _ ⟨rfl, hM⟩
    · cases ho9
      have r47 := hD.on 16 47 _ rfl (getD_true (hd9 ⟨16, .guard⟩ (by simp) rfl))
      have r48 := hD.on 17 48 _ rfl (getD_true (hd9 ⟨17, .data⟩ (by simp) rfl))
      clear hD hd9 hi9
      refine wpOp_step rfl (fun K hK => ?_)
      go_simp
      exact hK _ _ ⟨act_eq (by (first | rfl | (simp; done))), hM⟩
    · cases ho9
      have r47 := hD.on 16 47 _ rfl (getD_true (hd9 ⟨16, .data⟩ (by simp) rfl))
      have r49 := hD.on 18 49 _ rfl (getD_true (hd9 ⟨18, .data⟩ (by simp) rfl))
      clear hD hd9 hi9
      refine wpOp_step rfl (fun K hK => ?_)
      go_simp
      exact hK _ _ ⟨rfl, hM⟩
    · cases ho9
      have r50 := hD.on 19 50 _ rfl (getD_true (hd9 ⟨19, .data⟩ (by simp) rfl))
      clear hD hd9 hi9
      refine wpOp_step rfl (fun K hK => ?_)
      go_simp
      exact hK _ _ ⟨rfl, hM⟩
    · cases ho9
      have r51 := hD.on 20 51 _ rfl (getD_true (hd9 ⟨20, .guard⟩ (by simp) rfl))
      have r7 := hD.old 7 _ rfl rfl
      clear hD hd9 hi9
      refine wpOp_step rfl (fun K hK => ?_)
      go_simp
      exact hK _ _ ⟨rfl, hM⟩
    · cases ho9
      have r51 := hD.on 20 51 _ rfl (getD_true (hd9 ⟨20, .guard⟩ (by simp) rfl))
      have r52 := hD.on 21 52 _ rfl (getD_true (hd9 ⟨21, .data⟩ (by simp) rfl))
      clear hD hd9 hi9
      refine wpOp_step rfl (fun K hK => ?_)
      go_simp
      exact hK _ _ ⟨act_eq (by (first | rfl | (simp; done))), hM⟩
    · cases ho9
      have r51 := hD.on 20 51 _ rfl (getD_true (hd9 ⟨20, .data⟩ (by simp) rfl))
      have r53 := hD.on 22 53 _ rfl (getD_true (hd9 ⟨22, .data⟩ (by simp) rfl))
      clear hD hd9 hi9
      refine wpOp_step rfl (fun K hK => ?_)
      go_simp
      exact hK _ _ ⟨rfl, hM⟩
    · cases ho9
      have r54 := hD.on 23 54 _ rfl (getD_true (hd9 ⟨23, .data⟩ (by simp) rfl))
      clear hD hd9 hi9
      refine wpOp_step rfl (fun K hK => ?_)
      go_simp
      exact hK _ _ ⟨rfl, hM⟩
    · cases ho9
      have r55 := hD.on 24 55 _ rfl (getD_true (hd9 ⟨24, .guard⟩ (by simp) rfl))
      have r6 := hD.old 6 _ rfl rfl
      clear hD hd9 hi9
      refine wpOp_step rfl (fun K hK => ?_)
      go_simp
      exact hK _ _ ⟨rfl, hM⟩
    · cases ho9
      have r55 := hD.on 24 55 _ rfl (getD_true (hd9 ⟨24, .guard⟩ (by simp) rfl))
      have r56 := hD.on 25 56 _ rfl (getD_true (hd9 ⟨25, .data⟩ (by simp) rfl))
      clear hD hd9 hi9
      refine wpOp_step rfl (fun K hK => ?_)
      go_simp
      exact hK _ _ ⟨act_eq (by (first | rfl | (simp; done))), hM⟩
    · cases ho9
      have r55 := hD.on 24 55 _ rfl (getD_true (hd9 ⟨24, .data⟩ (by simp) rfl))
      have r57 := hD.on 26 57 _ rfl (getD_true (hd9 ⟨26, .data⟩ (by simp) rfl))
      clear hD hd9 hi9
      refine wpOp_step rfl (fun K hK => ?_)
      go_simp
      exact hK _ _ ⟨rfl, hM⟩
    · cases ho9
      have r58 := hD.on 27 58 _ rfl (getD_true (hd9 ⟨27, .data⟩ (by simp) rfl))
      clear hD hd9 hi9
      refine wpOp_step rfl (fun K hK => ?_)
      go_simp
      exact hK _ _ ⟨rfl, hM⟩
    · cases ho9
      have r59 := hD.on 28 59 _ rfl (getD_true (hd9 ⟨28, .guard⟩ (by simp) rfl))
      have r9 := hD.old 9 _ rfl rfl
      clear hD hd9 hi9
      refine wpOp_step rfl (fun K hK => ?_)
      go_simp
      exact hK _ _ ⟨rfl, hM⟩
    · cases ho9
      have r59 := hD.on 28 59 _ rfl (getD_true (hd9 ⟨28, .guard⟩ (by simp) rfl))
      have r60 := hD.on 29 60 _ rfl (getD_true (hd9 ⟨29, .data⟩ (by simp) rfl))
      clear hD hd9 hi9
      refine wpOp_step rfl (fun K hK => ?_)
      go_simp
      exact hK _ _ ⟨act_eq (by (first | rfl | (simp; done))), hM⟩
    · cases ho9
      have r59 := hD.on 28 59 _ rfl (getD_true (hd9 ⟨28, .data⟩ (by simp) rfl))
      have r61 := hD.on 30 61 _ rfl (getD_true (hd9 ⟨30, .data⟩ (by simp) rfl))
      clear hD hd9 hi9
      refine wpOp_step rfl (fun K hK => ?_)
      go_simp
      exact hK _ _ ⟨rfl, hM⟩
    · cases ho9
      have r62 := hD.on 31 62 _ rfl (getD_true (hd9 ⟨31, .data⟩ (by simp) rfl))
      clear hD hd9 hi9
      refine wpOp_step rfl (fun K hK => ?_)
      go_simp
      exact hK _ _ ⟨rfl, hM⟩
    · cases ho9
      have r63 := hD.on 32 63 _ rfl (getD_true (hd9 ⟨32, .guard⟩ (by simp) rfl))
      have r8 := hD.old 8 _ rfl rfl
      clear hD hd9 hi9
      refine wpOp_step rfl (fun K hK => ?_)
      go_simp
      exact hK _ _ ⟨rfl, hM⟩
    · cases ho9
      have r63 := hD.on 32 63 _ rfl (getD_true (hd9 ⟨32, .guard⟩ (by simp) rfl))
      have r64 := hD.on 33 64 _ rfl (getD_true (hd9 ⟨33, .data⟩ (by simp) rfl))
      clear hD hd9 hi9
      refine wpOp_step rfl (fun K hK => ?_)
      go_simp
      exact hK _ _ ⟨act_eq (by (first | rfl | (simp; done))), hM⟩
    · cases ho9
      have r63 := hD.on 32 63 _ rfl (getD_true (hd9 ⟨32, .data⟩ (by simp) rfl))
      have r65 := hD.on 34 65 _ rfl (getD_true (hd9 ⟨34, .data⟩ (by simp) rfl))
      clear hD hd9 hi9
      refine wpOp_step rfl (fun K hK => ?_)
      go_simp
      exact hK _ _ ⟨rfl, hM⟩
    · cases ho9
      have r66 := hD.on 35 66 _ rfl (getD_true (hd9 ⟨35, .data⟩ (by simp) rfl))
      clear hD hd9 hi9
      refine wpOp_step rfl (fun K hK => ?_)
      go_simp
      exact hK _ _ ⟨rfl, hM⟩
  · intro l9 W9 hl9 hM
    clear hl9
    clear hS z4_0_0 z4_0_1 z4_0_2 z4_1_0 z4_1_1
    have hS := hM
    clear hM
    simp only [Puts.lay, List.setIfInBounds_toArray, List.set_cons_zero, List.set_cons_succ]
    obtain ⟨⟨z5_0_0, z5_0_1, z5_0_2, -⟩, ⟨z5_1_0, z5_1_1, -⟩, -⟩ := hS.cells
    go_wp2
    go_ret
    exact ⟨rfl, hS.fr⟩

end Go.Proofs.Ytafeioonnhnpcaa
