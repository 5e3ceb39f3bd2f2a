/- The law FormBits. -/
import Derived.Test.YtafeioonnhnpcaaFmAwake
import Derived.Test.YtafeioonnhnpcaaFmRef4
namespace Go.Proofs.Ytafeioonnhnpcaa
open Go.RowKit

set_option maxRecDepth 20000 in
set_option maxHeartbeats 400000 in
theorem bits_walk (E F b ex fr es c ec pl ep ek ef : Int) (neg q : Bool) (S1 : Says 10 #[.agg #[.int .i64 E, .int .i64 F], .int .u64 b] (.tuple #[.agg #[.bool neg, .int .i64 ex, .int .u64 fr], .int .i64 es])) (S2 : Says 11 #[.agg #[.int .i64 E, .int .i64 F], .int .u64 b] (.tuple #[.agg #[.bool neg, .int .i64 ex, .int .u64 fr], .int .i64 es])) (C1 : Says 12 #[.agg #[.int .i64 E, .int .i64 F], .int .u64 b] (.tuple #[.int .u8 c, .int .i64 ec])) (C2 : Says 13 #[.agg #[.int .i64 E, .int .i64 F], .int .u64 b] (.tuple #[.int .u8 c, .int .i64 ec])) (P1 : Says 14 #[.agg #[.int .i64 E, .int .i64 F], .int .u64 b] (.tuple #[.int .u64 pl, .bool q, .int .i64 ep])) (P2 : Says 15 #[.agg #[.int .i64 E, .int .i64 F], .int .u64 b] (.tuple #[.int .u64 pl, .bool q, .int .i64 ep])) (K1 : Says 16 #[.agg #[.int .i64 E, .int .i64 F]] (.int .i64 ek)) (K2 : Says 17 #[.agg #[.int .i64 E, .int .i64 F]] (.int .i64 ek)) (F1 : Says 18 #[.agg #[.int .i64 E, .int .i64 F], .int .u64 b] (.int .i64 ef)) (F2 : Says 19 #[.agg #[.int .i64 E, .int .i64 F], .int .u64 b] (.int .i64 ef)) (w : World) : Calls Try.prog 3 #[.agg #[.int .i64 E, .int .i64 F], .int .u64 b] w fun e w' => e = .returned (.bool true) ∧ Below w.heap.size w w' := by
  go_enter Try.func3, Try.ntmps3
  go_wp2_with fail
  refine (awake_any _).mono ?_
  rintro e w1 ⟨rfl, hb1⟩
  have hS := (Fs.one w _ _).kept hb1
  obtain ⟨⟨z1_0_0, z1_0_1, -⟩, -⟩ := hS.cells
  go_wp2_with fail
  refine (S1 _).mono ?_
  rintro e w2 ⟨rfl, hb2⟩
  replace hS := hS.kept hb2
  clear z1_0_0 z1_0_1
  obtain ⟨⟨z2_0_0, z2_0_1, -⟩, -⟩ := hS.cells
  have hlt2_0 : w.heap.size < w2.heap.size := block_lt (hS.bx ⟨w.heap.size, #[.int .i64 E, .int .i64 F], 23⟩ (by simp))
  replace hS := hS.alloc #[.bool neg, .int .i64 ex, .int .u64 fr] 27
  go_wp2_with fail
  refine (S2 _).mono ?_
  rintro e w3 ⟨rfl, hb3⟩
  replace hS := hS.kept hb3
  clear z2_0_0 z2_0_1
  obtain ⟨⟨z3_0_0, z3_0_1, z3_0_2, -⟩, ⟨z3_1_0, z3_1_1, -⟩, -⟩ := hS.cells
  have hlt3_0 : w2.heap.size < w3.heap.size := block_lt (hS.bx ⟨w2.heap.size, #[.bool neg, .int .i64 ex, .int .u64 fr], 27⟩ (by simp))
  have hlt3_1 : w.heap.size < w3.heap.size := block_lt (hS.bx ⟨w.heap.size, #[.int .i64 E, .int .i64 F], 23⟩ (by simp))
  replace hS := hS.alloc #[.bool neg, .int .i64 ex, .int .u64 fr] 27
  go_wp2_with fail
  refine (C1 _).mono ?_
  rintro e w4 ⟨rfl, hb4⟩
  replace hS := hS.kept hb4
  clear z3_0_0 z3_0_1 z3_0_2 z3_1_0 z3_1_1
  obtain ⟨⟨z4_0_0, z4_0_1, z4_0_2, -⟩, ⟨z4_1_0, z4_1_1, z4_1_2, -⟩, ⟨z4_2_0, z4_2_1, -⟩, -⟩ := hS.cells
  go_wp2_with fail
  refine (C2 _).mono ?_
  rintro e w5 ⟨rfl, hb5⟩
  replace hS := hS.kept hb5
  clear z4_0_0 z4_0_1 z4_0_2 z4_1_0 z4_1_1 z4_1_2 z4_2_0 z4_2_1
  obtain ⟨⟨z5_0_0, z5_0_1, z5_0_2, -⟩, ⟨z5_1_0, z5_1_1, z5_1_2, -⟩, ⟨z5_2_0, z5_2_1, -⟩, -⟩ := hS.cells
  go_wp2_with fail
  refine (P1 _).mono ?_
  rintro e w6 ⟨rfl, hb6⟩
  replace hS := hS.kept hb6
  clear z5_0_0 z5_0_1 z5_0_2 z5_1_0 z5_1_1 z5_1_2 z5_2_0 z5_2_1
  obtain ⟨⟨z6_0_0, z6_0_1, z6_0_2, -⟩, ⟨z6_1_0, z6_1_1, z6_1_2, -⟩, ⟨z6_2_0, z6_2_1, -⟩, -⟩ := hS.cells
  go_wp2_with fail
  refine (P2 _).mono ?_
  rintro e w7 ⟨rfl, hb7⟩
  replace hS := hS.kept hb7
  clear z6_0_0 z6_0_1 z6_0_2 z6_1_0 z6_1_1 z6_1_2 z6_2_0 z6_2_1
  obtain ⟨⟨z7_0_0, z7_0_1, z7_0_2, -⟩, ⟨z7_1_0, z7_1_1, z7_1_2, -⟩, ⟨z7_2_0, z7_2_1, -⟩, -⟩ := hS.cells
  go_wp2_with fail
  refine wp_region_any (by kernel_rfl) ?_
  refine wpAny_det [some (61, .bool true), some (62, .bool true), some (63, .agg #[.int .i64 E, .int .i64 F]), some (64, .int .i64 ek), some (65, .agg #[.int .i64 E, .int .i64 F]), some (66, .int .i64 ek), some (67, .bool true), some (68, .bool true), some (69, .bool true), some (70, .agg #[.int .i64 E, .int .i64 F]), some (71, .int .u64 b), some (72, .int .i64 ef), some (73, .agg #[.int .i64 E, .int .i64 F]), some (74, .int .u64 b), some (75, .int .i64 ef), some (76, .bool true), some (77, .bool true), some (78, .bool true), some (79, .agg #[.bool neg, .int .i64 ex, .int .u64 fr]), some (80, .agg #[.bool neg, .int .i64 ex, .int .u64 fr]), some (81, .bool true), some (82, .bool true), some (83, .bool true), some (84, .int .i64 es), some (85, .int .i64 es), some (86, .bool true), some (87, .bool true), some (88, .bool true), some (89, .int .u8 c), some (90, .int .u8 c), some (91, .bool true), some (92, .bool true), some (93, .bool true), some (94, .int .i64 ec), some (95, .int .i64 ec), some (96, .bool true), some (97, .bool true), some (98, .bool true), some (99, .int .u64 pl), some (100, .int .u64 pl), some (101, .bool true), some (102, .bool true), some (103, .bool true), some (104, .bool q), some (105, .bool q), some (106, .bool true), some (107, .bool true), some (108, .bool true), some (109, .int .i64 ep), some (110, .int .i64 ep), some (111, .bool true), some (112, .bool true), some (4, .bool true)]
    (fun _ W9 => Fs w W9 [⟨w3.heap.size, #[.bool neg, .int .i64 ex, .int .u64 fr], 27⟩, ⟨w2.heap.size, #[.bool neg, .int .i64 ex, .int .u64 fr], 27⟩, ⟨w.heap.size, #[.int .i64 E, .int .i64 F], 23⟩]) _ _ rfl (by kernel_rfl) rfl rfl ?_ ?_ (hS).drew
  · intro l9 t9 W9 i9 hD hi9 hl9 hM
    obtain ⟨o9, ho9, hd9⟩ := (mem_ready.1 hi9).2
    have hin9 : i9 < 53 := by
      by_cases h : i9 < 53
      · exact h
      · rw [Array.getElem?_eq_none (by rw [hD.len]; simp; omega)] at hl9; cases hl9
    have hcase : i9 = 0 ∨ i9 = 1 ∨ i9 = 2 ∨ i9 = 3 ∨ i9 = 4 ∨ i9 = 5 ∨ i9 = 6 ∨ i9 = 7 ∨ i9 = 8 ∨ i9 = 9 ∨ i9 = 10 ∨ i9 = 11 ∨ i9 = 12 ∨ i9 = 13 ∨ i9 = 14 ∨ i9 = 15 ∨ i9 = 16 ∨ i9 = 17 ∨ i9 = 18 ∨ i9 = 19 ∨ i9 = 20 ∨ i9 = 21 ∨ i9 = 22 ∨ i9 = 23 ∨ i9 = 24 ∨ i9 = 25 ∨ i9 = 26 ∨ i9 = 27 ∨ i9 = 28 ∨ i9 = 29 ∨ i9 = 30 ∨ i9 = 31 ∨ i9 = 32 ∨ i9 = 33 ∨ i9 = 34 ∨ i9 = 35 ∨ i9 = 36 ∨ i9 = 37 ∨ i9 = 38 ∨ i9 = 39 ∨ i9 = 40 ∨ i9 = 41 ∨ i9 = 42 ∨ i9 = 43 ∨ i9 = 44 ∨ i9 = 45 ∨ i9 = 46 ∨ i9 = 47 ∨ i9 = 48 ∨ i9 = 49 ∨ i9 = 50 ∨ i9 = 51 ∨ i9 = 52 := by omega
    clear hin9
    rcases hcase with rfl | rfl | rfl | rfl | rfl | rfl | rfl | rfl | rfl | rfl | rfl | rfl | rfl | rfl | rfl | rfl | rfl | rfl | rfl | rfl | rfl | rfl | rfl | rfl | rfl | rfl | rfl | rfl | rfl | rfl | rfl | rfl | rfl | rfl | rfl | rfl | rfl | rfl | rfl | rfl | rfl | rfl | rfl | rfl | rfl | rfl | rfl | rfl | rfl | rfl | rfl | rfl | rfl
    · cases ho9
      have r5 := hD.old 5 _ rfl rfl
      clear hD hd9 hi9
      refine wpOp_step rfl (fun K hK => ?_)
      go_simp
      exact hK _ _ ⟨rfl, hM⟩
    · cases ho9
      have r61 := hD.on 0 61 _ rfl (getD_true (hd9 ⟨0, .data⟩ (by simp) rfl))
      clear hD hd9 hi9
      refine wpOp_step rfl (fun K hK => ?_)
      go_simp
      exact hK _ _ ⟨rfl, hM⟩
    · cases ho9
      have r62 := hD.on 1 62 _ rfl (getD_true (hd9 ⟨1, .guard⟩ (by simp) rfl))
      have r2 := hD.old 2 _ rfl rfl
      have hM0 := hM
      have c9_0 := hM0.cellAt (b := w.heap.size) (cs := #[.int .i64 E, .int .i64 F]) (t := 23) (by simp) 0 _ rfl
      have c9_1 := hM0.cellAt (b := w.heap.size) (cs := #[.int .i64 E, .int .i64 F]) (t := 23) (by simp) 1 _ rfl
      clear hM0
      clear hD hd9 hi9
      refine wpOp_step rfl (fun K hK => ?_)
      go_simp
      exact hK _ _ ⟨rfl, hM⟩
    · cases ho9
      have r62 := hD.on 1 62 _ rfl (getD_true (hd9 ⟨1, .chain⟩ (by simp) rfl))
      have r63 := hD.on 2 63 _ rfl (getD_true (hd9 ⟨2, .data⟩ (by simp) rfl))
      clear hD hd9 hi9
      refine wpOp_step rfl (fun K hK => ?_)
      go_simp
      go_wp2_with fail
      refine (K1 _).mono ?_
      rintro en w9 ⟨rfl, hb9⟩
      exact hK _ _ ⟨rfl, hM.kept hb9⟩
    · cases ho9
      have r62 := hD.on 1 62 _ rfl (getD_true (hd9 ⟨1, .guard⟩ (by simp) rfl))
      have r2 := hD.old 2 _ rfl rfl
      have hM0 := hM
      have c9_0 := hM0.cellAt (b := w.heap.size) (cs := #[.int .i64 E, .int .i64 F]) (t := 23) (by simp) 0 _ rfl
      have c9_1 := hM0.cellAt (b := w.heap.size) (cs := #[.int .i64 E, .int .i64 F]) (t := 23) (by simp) 1 _ rfl
      clear hM0
      clear hD hd9 hi9
      refine wpOp_step rfl (fun K hK => ?_)
      go_simp
      exact hK _ _ ⟨rfl, hM⟩
    · cases ho9
      have r62 := hD.on 1 62 _ rfl (getD_true (hd9 ⟨1, .guard⟩ (by simp) rfl))
      have r65 := hD.on 4 65 _ rfl (getD_true (hd9 ⟨4, .data⟩ (by simp) rfl))
      clear hD hd9 hi9
      refine wpOp_step rfl (fun K hK => ?_)
      go_simp
      go_wp2_with fail
      refine (K2 _).mono ?_
      rintro en w9 ⟨rfl, hb9⟩
      exact hK _ _ ⟨rfl, hM.kept hb9⟩
    · cases ho9
      have r62 := hD.on 1 62 _ rfl (getD_true (hd9 ⟨1, .guard⟩ (by simp) rfl))
      have r64 := hD.on 3 64 _ rfl (getD_true (hd9 ⟨3, .data⟩ (by simp) rfl))
      have r66 := hD.on 5 66 _ rfl (getD_true (hd9 ⟨5, .data⟩ (by simp) rfl))
      clear hD hd9 hi9
      refine wpOp_step rfl (fun K hK => ?_)
      go_simp
      exact hK _ _ ⟨act_eq (by (first | rfl | (simp; done))), hM⟩
    · cases ho9
      have r62 := hD.on 1 62 _ rfl (getD_true (hd9 ⟨1, .data⟩ (by simp) rfl))
      have r67 := hD.on 6 67 _ rfl (getD_true (hd9 ⟨6, .data⟩ (by simp) rfl))
      clear hD hd9 hi9
      refine wpOp_step rfl (fun K hK => ?_)
      go_simp
      exact hK _ _ ⟨rfl, hM⟩
    · cases ho9
      have r68 := hD.on 7 68 _ rfl (getD_true (hd9 ⟨7, .data⟩ (by simp) rfl))
      clear hD hd9 hi9
      refine wpOp_step rfl (fun K hK => ?_)
      go_simp
      exact hK _ _ ⟨rfl, hM⟩
    · cases ho9
      have r69 := hD.on 8 69 _ rfl (getD_true (hd9 ⟨8, .guard⟩ (by simp) rfl))
      have r2 := hD.old 2 _ rfl rfl
      have hM0 := hM
      have c9_0 := hM0.cellAt (b := w.heap.size) (cs := #[.int .i64 E, .int .i64 F]) (t := 23) (by simp) 0 _ rfl
      have c9_1 := hM0.cellAt (b := w.heap.size) (cs := #[.int .i64 E, .int .i64 F]) (t := 23) (by simp) 1 _ rfl
      clear hM0
      clear hD hd9 hi9
      refine wpOp_step rfl (fun K hK => ?_)
      go_simp
      exact hK _ _ ⟨rfl, hM⟩
    · cases ho9
      have r69 := hD.on 8 69 _ rfl (getD_true (hd9 ⟨8, .guard⟩ (by simp) rfl))
      have r1 := hD.old 1 _ rfl rfl
      clear hD hd9 hi9
      refine wpOp_step rfl (fun K hK => ?_)
      go_simp
      exact hK _ _ ⟨rfl, hM⟩
    · cases ho9
      have r69 := hD.on 8 69 _ rfl (getD_true (hd9 ⟨8, .chain⟩ (by simp) rfl))
      have r70 := hD.on 9 70 _ rfl (getD_true (hd9 ⟨9, .data⟩ (by simp) rfl))
      have r71 := hD.on 10 71 _ rfl (getD_true (hd9 ⟨10, .data⟩ (by simp) rfl))
      clear hD hd9 hi9
      refine wpOp_step rfl (fun K hK => ?_)
      go_simp
      go_wp2_with fail
      refine (F1 _).mono ?_
      rintro en w9 ⟨rfl, hb9⟩
      exact hK _ _ ⟨rfl, hM.kept hb9⟩
    · cases ho9
      have r69 := hD.on 8 69 _ rfl (getD_true (hd9 ⟨8, .guard⟩ (by simp) rfl))
      have r2 := hD.old 2 _ rfl rfl
      have hM0 := hM
      have c9_0 := hM0.cellAt (b := w.heap.size) (cs := #[.int .i64 E, .int .i64 F]) (t := 23) (by simp) 0 _ rfl
      have c9_1 := hM0.cellAt (b := w.heap.size) (cs := #[.int .i64 E, .int .i64 F]) (t := 23) (by simp) 1 _ rfl
      clear hM0
      clear hD hd9 hi9
      refine wpOp_step rfl (fun K hK => ?_)
      go_simp
      exact hK _ _ ⟨rfl, hM⟩
    · cases ho9
      have r69 := hD.on 8 69 _ rfl (getD_true (hd9 ⟨8, .guard⟩ (by simp) rfl))
      have r1 := hD.old 1 _ rfl rfl
      clear hD hd9 hi9
      refine wpOp_step rfl (fun K hK => ?_)
      go_simp
      exact hK _ _ ⟨rfl, hM⟩
    · cases ho9
      have r69 := hD.on 8 69 _ rfl (getD_true (hd9 ⟨8, .guard⟩ (by simp) rfl))
      have r73 := hD.on 12 73 _ rfl (getD_true (hd9 ⟨12, .data⟩ (by simp) rfl))
      have r74 := hD.on 13 74 _ rfl (getD_true (hd9 ⟨13, .data⟩ (by simp) rfl))
      clear hD hd9 hi9
      refine wpOp_step rfl (fun K hK => ?_)
      go_simp
      go_wp2_with fail
      refine (F2 _).mono ?_
      rintro en w9 ⟨rfl, hb9⟩
      exact hK _ _ ⟨rfl, hM.kept hb9⟩
    · cases ho9
      have r69 := hD.on 8 69 _ rfl (getD_true (hd9 ⟨8, .guard⟩ (by simp) rfl))
      have r72 := hD.on 11 72 _ rfl (getD_true (hd9 ⟨11, .data⟩ (by simp) rfl))
      have r75 := hD.on 14 75 _ rfl (getD_true (hd9 ⟨14, .data⟩ (by simp) rfl))
      clear hD hd9 hi9
      refine wpOp_step rfl (fun K hK => ?_)
      go_simp
      exact hK _ _ ⟨act_eq (by (first | rfl | (simp; done))), hM⟩
    · cases ho9
      have r69 := hD.on 8 69 _ rfl (getD_true (hd9 ⟨8, .data⟩ (by simp) rfl))
      have r76 := hD.on 15 76 _ rfl (getD_true (hd9 ⟨15, .data⟩ (by simp) rfl))
      clear hD hd9 hi9
      refine wpOp_step rfl (fun K hK => ?_)
      go_simp
      exact hK _ _ ⟨rfl, hM⟩
    · cases ho9
      have r77 := hD.on 16 77 _ rfl (getD_true (hd9 ⟨16, .data⟩ (by simp) rfl))
      clear hD hd9 hi9
      refine wpOp_step rfl (fun K hK => ?_)
      go_simp
      exact hK _ _ ⟨rfl, hM⟩
    · cases ho9
      have r78 := hD.on 17 78 _ rfl (getD_true (hd9 ⟨17, .guard⟩ (by simp) rfl))
      have r6 := hD.old 6 _ rfl rfl
      have hM0 := hM
      have c9_0 := hM0.cellAt (b := w2.heap.size) (cs := #[.bool neg, .int .i64 ex, .int .u64 fr]) (t := 27) (by simp) 0 _ rfl
      have c9_1 := hM0.cellAt (b := w2.heap.size) (cs := #[.bool neg, .int .i64 ex, .int .u64 fr]) (t := 27) (by simp) 1 _ rfl
      have c9_2 := hM0.cellAt (b := w2.heap.size) (cs := #[.bool neg, .int .i64 ex, .int .u64 fr]) (t := 27) (by simp) 2 _ rfl
      clear hM0
      clear hD hd9 hi9
      refine wpOp_step rfl (fun K hK => ?_)
      go_simp
      exact hK _ _ ⟨rfl, hM⟩
    · cases ho9
      have r78 := hD.on 17 78 _ rfl (getD_true (hd9 ⟨17, .guard⟩ (by simp) rfl))
      have r8 := hD.old 8 _ rfl rfl
      have hM0 := hM
      have c9_0 := hM0.cellAt (b := w3.heap.size) (cs := #[.bool neg, .int .i64 ex, .int .u64 fr]) (t := 27) (by simp) 0 _ rfl
      have c9_1 := hM0.cellAt (b := w3.heap.size) (cs := #[.bool neg, .int .i64 ex, .int .u64 fr]) (t := 27) (by simp) 1 _ rfl
      have c9_2 := hM0.cellAt (b := w3.heap.size) (cs := #[.bool neg, .int .i64 ex, .int .u64 fr]) (t := 27) (by simp) 2 _ rfl
      clear hM0
      clear hD hd9 hi9
      refine wpOp_step rfl (fun K hK => ?_)
      go_simp
      exact hK _ _ ⟨rfl, hM⟩
    · cases ho9
      have r78 := hD.on 17 78 _ rfl (getD_true (hd9 ⟨17, .guard⟩ (by simp) rfl))
      have r79 := hD.on 18 79 _ rfl (getD_true (hd9 ⟨18, .data⟩ (by simp) rfl))
      have r80 := hD.on 19 80 _ rfl (getD_true (hd9 ⟨19, .data⟩ (by simp) rfl))
      clear hD hd9 hi9
      refine wpOp_step rfl (fun K hK => ?_)
      go_simp
      exact hK _ _ ⟨act_eq (by (first | rfl | (simp; done))), hM⟩
    · cases ho9
      have r78 := hD.on 17 78 _ rfl (getD_true (hd9 ⟨17, .data⟩ (by simp) rfl))
      have r81 := hD.on 20 81 _ rfl (getD_true (hd9 ⟨20, .data⟩ (by simp) rfl))
      clear hD hd9 hi9
      refine wpOp_step rfl (fun K hK => ?_)
      go_simp
      exact hK _ _ ⟨rfl, hM⟩
    · cases ho9
      have r82 := hD.on 21 82 _ rfl (getD_true (hd9 ⟨21, .data⟩ (by simp) rfl))
      clear hD hd9 hi9
      refine wpOp_step rfl (fun K hK => ?_)
      go_simp
      exact hK _ _ ⟨rfl, hM⟩
    · cases ho9
      have r83 := hD.on 22 83 _ rfl (getD_true (hd9 ⟨22, .guard⟩ (by simp) rfl))
      have r7 := hD.old 7 _ rfl rfl
      clear hD hd9 hi9
      refine wpOp_step rfl (fun K hK => ?_)
      go_simp
      exact hK _ _ ⟨rfl, hM⟩
    · cases ho9
      have r83 := hD.on 22 83 _ rfl (getD_true (hd9 ⟨22, .guard⟩ (by simp) rfl))
      have r9 := hD.old 9 _ rfl rfl
      clear hD hd9 hi9
      refine wpOp_step rfl (fun K hK => ?_)
      go_simp
      exact hK _ _ ⟨rfl, hM⟩
    · cases ho9
      have r83 := hD.on 22 83 _ rfl (getD_true (hd9 ⟨22, .guard⟩ (by simp) rfl))
      have r84 := hD.on 23 84 _ rfl (getD_true (hd9 ⟨23, .data⟩ (by simp) rfl))
      have r85 := hD.on 24 85 _ rfl (getD_true (hd9 ⟨24, .data⟩ (by simp) rfl))
      clear hD hd9 hi9
      refine wpOp_step rfl (fun K hK => ?_)
      go_simp
      exact hK _ _ ⟨act_eq (by (first | rfl | (simp; done))), hM⟩
    · cases ho9
      have r83 := hD.on 22 83 _ rfl (getD_true (hd9 ⟨22, .data⟩ (by simp) rfl))
      have r86 := hD.on 25 86 _ rfl (getD_true (hd9 ⟨25, .data⟩ (by simp) rfl))
      clear hD hd9 hi9
      refine wpOp_step rfl (fun K hK => ?_)
      go_simp
      exact hK _ _ ⟨rfl, hM⟩
    · cases ho9
      have r87 := hD.on 26 87 _ rfl (getD_true (hd9 ⟨26, .data⟩ (by simp) rfl))
      clear hD hd9 hi9
      refine wpOp_step rfl (fun K hK => ?_)
      go_simp
      exact hK _ _ ⟨rfl, hM⟩
    · cases ho9
      have r88 := hD.on 27 88 _ rfl (getD_true (hd9 ⟨27, .guard⟩ (by simp) rfl))
      have r10 := hD.old 10 _ rfl rfl
      clear hD hd9 hi9
      refine wpOp_step rfl (fun K hK => ?_)
      go_simp
      exact hK _ _ ⟨rfl, hM⟩
    · cases ho9
      have r88 := hD.on 27 88 _ rfl (getD_true (hd9 ⟨27, .guard⟩ (by simp) rfl))
      have r12 := hD.old 12 _ rfl rfl
      clear hD hd9 hi9
      refine wpOp_step rfl (fun K hK => ?_)
      go_simp
      exact hK _ _ ⟨rfl, hM⟩
    · cases ho9
      have r88 := hD.on 27 88 _ rfl (getD_true (hd9 ⟨27, .guard⟩ (by simp) rfl))
      have r89 := hD.on 28 89 _ rfl (getD_true (hd9 ⟨28, .data⟩ (by simp) rfl))
      have r90 := hD.on 29 90 _ rfl (getD_true (hd9 ⟨29, .data⟩ (by simp) rfl))
      clear hD hd9 hi9
      refine wpOp_step rfl (fun K hK => ?_)
      go_simp
      exact hK _ _ ⟨act_eq (by (first | rfl | (simp; done))), hM⟩
    · cases ho9
      have r88 := hD.on 27 88 _ rfl (getD_true (hd9 ⟨27, .data⟩ (by simp) rfl))
      have r91 := hD.on 30 91 _ rfl (getD_true (hd9 ⟨30, .data⟩ (by simp) rfl))
      clear hD hd9 hi9
      refine wpOp_step rfl (fun K hK => ?_)
      go_simp
      exact hK _ _ ⟨rfl, hM⟩
    · cases ho9
      have r92 := hD.on 31 92 _ rfl (getD_true (hd9 ⟨31, .data⟩ (by simp) rfl))
      clear hD hd9 hi9
      refine wpOp_step rfl (fun K hK => ?_)
      go_simp
      exact hK _ _ ⟨rfl, hM⟩
    · cases ho9
      have r93 := hD.on 32 93 _ rfl (getD_true (hd9 ⟨32, .guard⟩ (by simp) rfl))
      have r11 := hD.old 11 _ rfl rfl
      clear hD hd9 hi9
      refine wpOp_step rfl (fun K hK => ?_)
      go_simp
      exact hK _ _ ⟨rfl, hM⟩
    · cases ho9
      have r93 := hD.on 32 93 _ rfl (getD_true (hd9 ⟨32, .guard⟩ (by simp) rfl))
      have r13 := hD.old 13 _ rfl rfl
      clear hD hd9 hi9
      refine wpOp_step rfl (fun K hK => ?_)
      go_simp
      exact hK _ _ ⟨rfl, hM⟩
    · cases ho9
      have r93 := hD.on 32 93 _ rfl (getD_true (hd9 ⟨32, .guard⟩ (by simp) rfl))
      have r94 := hD.on 33 94 _ rfl (getD_true (hd9 ⟨33, .data⟩ (by simp) rfl))
      have r95 := hD.on 34 95 _ rfl (getD_true (hd9 ⟨34, .data⟩ (by simp) rfl))
      clear hD hd9 hi9
      refine wpOp_step rfl (fun K hK => ?_)
      go_simp
      exact hK _ _ ⟨act_eq (by (first | rfl | (simp; done))), hM⟩
    · cases ho9
      have r93 := hD.on 32 93 _ rfl (getD_true (hd9 ⟨32, .data⟩ (by simp) rfl))
      have r96 := hD.on 35 96 _ rfl (getD_true (hd9 ⟨35, .data⟩ (by simp) rfl))
      clear hD hd9 hi9
      refine wpOp_step rfl (fun K hK => ?_)
      go_simp
      exact hK _ _ ⟨rfl, hM⟩
    · cases ho9
      have r97 := hD.on 36 97 _ rfl (getD_true (hd9 ⟨36, .data⟩ (by simp) rfl))
      clear hD hd9 hi9
      refine wpOp_step rfl (fun K hK => ?_)
      go_simp
      exact hK _ _ ⟨rfl, hM⟩
    · cases ho9
      have r98 := hD.on 37 98 _ rfl (getD_true (hd9 ⟨37, .guard⟩ (by simp) rfl))
      have r14 := hD.old 14 _ rfl rfl
      clear hD hd9 hi9
      refine wpOp_step rfl (fun K hK => ?_)
      go_simp
      exact hK _ _ ⟨rfl, hM⟩
    · cases ho9
      have r98 := hD.on 37 98 _ rfl (getD_true (hd9 ⟨37, .guard⟩ (by simp) rfl))
      have r17 := hD.old 17 _ rfl rfl
      clear hD hd9 hi9
      refine wpOp_step rfl (fun K hK => ?_)
      go_simp
      exact hK _ _ ⟨rfl, hM⟩
    · cases ho9
      have r98 := hD.on 37 98 _ rfl (getD_true (hd9 ⟨37, .guard⟩ (by simp) rfl))
      have r99 := hD.on 38 99 _ rfl (getD_true (hd9 ⟨38, .data⟩ (by simp) rfl))
      have r100 := hD.on 39 100 _ rfl (getD_true (hd9 ⟨39, .data⟩ (by simp) rfl))
      clear hD hd9 hi9
      refine wpOp_step rfl (fun K hK => ?_)
      go_simp
      exact hK _ _ ⟨act_eq (by (first | rfl | (simp; done))), hM⟩
    · cases ho9
      have r98 := hD.on 37 98 _ rfl (getD_true (hd9 ⟨37, .data⟩ (by simp) rfl))
      have r101 := hD.on 40 101 _ rfl (getD_true (hd9 ⟨40, .data⟩ (by simp) rfl))
      clear hD hd9 hi9
      refine wpOp_step rfl (fun K hK => ?_)
      go_simp
      exact hK _ _ ⟨rfl, hM⟩
    · cases ho9
      have r102 := hD.on 41 102 _ rfl (getD_true (hd9 ⟨41, .data⟩ (by simp) rfl))
      clear hD hd9 hi9
      refine wpOp_step rfl (fun K hK => ?_)
      go_simp
      exact hK _ _ ⟨rfl, hM⟩
    · cases ho9
      have r103 := hD.on 42 103 _ rfl (getD_true (hd9 ⟨42, .guard⟩ (by simp) rfl))
      have r15 := hD.old 15 _ rfl rfl
      clear hD hd9 hi9
      refine wpOp_step rfl (fun K hK => ?_)
      go_simp
      exact hK _ _ ⟨rfl, hM⟩
    · cases ho9
      have r103 := hD.on 42 103 _ rfl (getD_true (hd9 ⟨42, .guard⟩ (by simp) rfl))
      have r18 := hD.old 18 _ rfl rfl
      clear hD hd9 hi9
      refine wpOp_step rfl (fun K hK => ?_)
      go_simp
      exact hK _ _ ⟨rfl, hM⟩
    · cases ho9
      have r103 := hD.on 42 103 _ rfl (getD_true (hd9 ⟨42, .guard⟩ (by simp) rfl))
      have r104 := hD.on 43 104 _ rfl (getD_true (hd9 ⟨43, .data⟩ (by simp) rfl))
      have r105 := hD.on 44 105 _ rfl (getD_true (hd9 ⟨44, .data⟩ (by simp) rfl))
      clear hD hd9 hi9
      refine wpOp_step rfl (fun K hK => ?_)
      go_simp
      exact hK _ _ ⟨act_eq (by (first | rfl | (simp; done))), hM⟩
    · cases ho9
      have r103 := hD.on 42 103 _ rfl (getD_true (hd9 ⟨42, .data⟩ (by simp) rfl))
      have r106 := hD.on 45 106 _ rfl (getD_true (hd9 ⟨45, .data⟩ (by simp) rfl))
      clear hD hd9 hi9
      refine wpOp_step rfl (fun K hK => ?_)
      go_simp
      exact hK _ _ ⟨rfl, hM⟩
    · cases ho9
      have r107 := hD.on 46 107 _ rfl (getD_true (hd9 ⟨46, .data⟩ (by simp) rfl))
      clear hD hd9 hi9
      refine wpOp_step rfl (fun K hK => ?_)
      go_simp
      exact hK _ _ ⟨rfl, hM⟩
    · cases ho9
      have r108 := hD.on 47 108 _ rfl (getD_true (hd9 ⟨47, .guard⟩ (by simp) rfl))
      have r16 := hD.old 16 _ rfl rfl
      clear hD hd9 hi9
      refine wpOp_step rfl (fun K hK => ?_)
      go_simp
      exact hK _ _ ⟨rfl, hM⟩
    · cases ho9
      have r108 := hD.on 47 108 _ rfl (getD_true (hd9 ⟨47, .guard⟩ (by simp) rfl))
      have r19 := hD.old 19 _ rfl rfl
      clear hD hd9 hi9
      refine wpOp_step rfl (fun K hK => ?_)
      go_simp
      exact hK _ _ ⟨rfl, hM⟩
    · cases ho9
      have r108 := hD.on 47 108 _ rfl (getD_true (hd9 ⟨47, .guard⟩ (by simp) rfl))
      have r109 := hD.on 48 109 _ rfl (getD_true (hd9 ⟨48, .data⟩ (by simp) rfl))
      have r110 := hD.on 49 110 _ rfl (getD_true (hd9 ⟨49, .data⟩ (by simp) rfl))
      clear hD hd9 hi9
      refine wpOp_step rfl (fun K hK => ?_)
      go_simp
      exact hK _ _ ⟨act_eq (by (first | rfl | (simp; done))), hM⟩
    · cases ho9
      have r108 := hD.on 47 108 _ rfl (getD_true (hd9 ⟨47, .data⟩ (by simp) rfl))
      have r111 := hD.on 50 111 _ rfl (getD_true (hd9 ⟨50, .data⟩ (by simp) rfl))
      clear hD hd9 hi9
      refine wpOp_step rfl (fun K hK => ?_)
      go_simp
      exact hK _ _ ⟨rfl, hM⟩
    · cases ho9
      have r112 := hD.on 51 112 _ rfl (getD_true (hd9 ⟨51, .data⟩ (by simp) rfl))
      clear hD hd9 hi9
      refine wpOp_step rfl (fun K hK => ?_)
      go_simp
      exact hK _ _ ⟨rfl, hM⟩
  · intro l9 W9 hl9 hM
    clear hl9
    clear hS z7_0_0 z7_0_1 z7_0_2 z7_1_0 z7_1_1 z7_1_2 z7_2_0 z7_2_1
    have hS := hM
    clear hM
    simp only [Puts.lay, List.setIfInBounds_toArray, List.set_cons_zero, List.set_cons_succ]
    obtain ⟨⟨z8_0_0, z8_0_1, z8_0_2, -⟩, ⟨z8_1_0, z8_1_1, z8_1_2, -⟩, ⟨z8_2_0, z8_2_1, -⟩, -⟩ := hS.cells
    go_wp2
    go_ret
    exact ⟨rfl, hS.fr⟩

theorem fo_cases (E F : Int) : NoFo E F ∨ ∃ e f : Nat, E = (e : Int) ∧ F = (f : Int) ∧ Fo e f := by
  by_cases h : NoFo E F
  · exact Or.inl h
  · refine Or.inr ⟨E.toNat, F.toNat, ?_⟩
    unfold NoFo at h
    refine ⟨by omega, by omega, by omega, by omega, by omega, by omega⟩
theorem bits_any (E F : Int) (b : Nat) (hb : b < 18446744073709551616) (w : World) : Calls Try.prog 3 #[.agg #[.int .i64 E, .int .i64 F], .int .u64 b] w fun e w' => e = .returned (.bool true) ∧ Below w.heap.size w w' := by
  rcases fo_cases E F with hbad | ⟨e, f, rfl, rfl, h⟩
  · exact bits_walk E F b 0 0 5 0 5 0 5 5 5 false false (Split_bad E F hbad b) (rSplit_bad E F hbad b) (Class_bad E F hbad b) (rClass_bad E F hbad b) (Payload_bad E F hbad b) (rPayload_bad E F hbad b)
      (fun W => check_bad E F W hbad) (fun W => rcheck_bad E F W hbad) (fits_bad E F hbad b) (rfits_bad E F hbad b) w
  · by_cases hm : 2 ^ (f + e + 1) ≤ b
    · exact bits_walk e f b 0 0 6 0 6 0 6 0 6 false false (Split_many e f b h hm) (rSplit_many e f b h hm hb) (Class_many e f b h hm) (rClass_many e f b h hm hb) (Payload_many e f b h hm) (rPayload_many e f b h hm hb)
        (fun W => check_ok e f W h) (fun W => rcheck_ok e f W h) (fits_many e f b h hm) (rfits_many e f b h hm hb) w
    · have hB := Bt.of e f b (by omega)
      by_cases hc : cls (b % 2 ^ (f + e) / 2 ^ f) (b % 2 ^ f) (2 ^ e - 1) = 5
      · exact bits_walk e f b _ _ 0 _ 0 _ 0 0 0 _ _ (Split_ok e f b _ _ _ h hB) (rSplit_ok e f b _ _ _ h hB) (Class_ok e f b _ _ _ h hB _ (hide rfl)) (rClass_ok e f b _ _ _ h hB _ (hide rfl))
          (Payload_nan e f b _ _ _ h hB _ _ hc (hide rfl) (hide rfl)) (rPayload_nan e f b _ _ _ h hB _ _ hc (hide rfl) (hide rfl)) (fun W => check_ok e f W h) (fun W => rcheck_ok e f W h) (fits_ok e f b h hB.lt) (rfits_ok e f b h hB.lt) w
      · exact bits_walk e f b _ _ 0 _ 0 _ 2 0 0 _ _ (Split_ok e f b _ _ _ h hB) (rSplit_ok e f b _ _ _ h hB) (Class_ok e f b _ _ _ h hB _ (hide rfl)) (rClass_ok e f b _ _ _ h hB _ (hide rfl))
          (Payload_num e f b _ _ _ h hB hc) (rPayload_num e f b _ _ _ h hB hc) (fun W => check_ok e f W h) (fun W => rcheck_ok e f W h) (fits_ok e f b h hB.lt) (rfits_ok e f b h hB.lt) w

end Go.Proofs.Ytafeioonnhnpcaa
