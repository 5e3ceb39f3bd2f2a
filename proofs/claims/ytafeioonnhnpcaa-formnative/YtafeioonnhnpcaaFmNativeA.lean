/- The law FormNative, in one of three ways. -/
import Derived.Test.YtafeioonnhnpcaaFmNative0
namespace Go.Proofs.Ytafeioonnhnpcaa
open Go.RowKit

set_option maxRecDepth 20000 in
set_option maxHeartbeats 4000000 in
theorem native_A1 (b s c d r : Nat) (ex1 fr1 ex2 fr2 : Int) (neg1 neg2 p5 p1 l1 q5 q1 l2 : Bool) (hb : b < 18446744073709551616) (hs : s < 4294967296) (C1 : Says 12 #[.agg #[.int .i64 11, .int .i64 52], .int .u64 (b : Nat)] (.tuple #[.int .u8 (c : Nat), .int .i64 0])) (C2 : Says 12 #[.agg #[.int .i64 8, .int .i64 23], .int .u64 (s : Nat)] (.tuple #[.int .u8 (d : Nat), .int .i64 0])) (S1 : Says 10 #[.agg #[.int .i64 11, .int .i64 52], .int .u64 (b : Nat)] (.tuple #[.agg #[.bool neg1, .int .i64 ex1, .int .u64 fr1], .int .i64 0])) (S2 : Says 10 #[.agg #[.int .i64 8, .int .i64 23], .int .u64 (s : Nat)] (.tuple #[.agg #[.bool neg2, .int .i64 ex2, .int .u64 fr2], .int .i64 0])) (HR : Hid (r = b % 9223372036854775808)) (HN1 : Hid (neg1 = decide (9223372036854775808 ≤ b))) (HN2 : Hid (neg2 = decide (2147483648 ≤ s))) (n5 : (FloatKind.f64.format.order b b != some .eq) = p5) (k5 : ((c : Int) == 5) = p5) (o1 : (FloatKind.f64.format.order b 0 == some .eq) = p1) (_n1 : (FloatKind.f64.format.order b 0 != some .eq) = !p1) (k1 : ((c : Int) == 1) = p1) (og : (FloatKind.f64.format.order b 9218868437227405311 == some .gt) = true) (_ol : (FloatKind.f64.format.order b 18442240474082181119 == some .lt) = l1) (k4 : ((c : Int) == 4) = true) (ot : (FloatKind.f64.format.order r 4503599627370496 == some .lt) = false) (k2 : ((c : Int) == 2) = false) (m5 : (FloatKind.f32.format.order s s != some .eq) = q5) (j5 : ((d : Int) == 5) = q5) (o2 : (FloatKind.f32.format.order s 0 == some .eq) = q1) (j1 : ((d : Int) == 1) = q1) (oh : (FloatKind.f32.format.order s 2139095039 == some .gt) = true) (_om : (FloatKind.f32.format.order s 4286578687 == some .lt) = l2) (j4 : ((d : Int) == 4) = true) (w : World) : Calls Try.prog 8 #[.int .u64 (b : Nat), .int .u32 (s : Nat)] w fun e w' => e = .returned (.bool true) ∧ Below w.heap.size w w' := by
  have x1 := run_f64bits
  have x2 := run_f64from
  have x3 := run_f32bits
  have x4 := run_f32from
  have G1 : (Says 28 #[.agg #[.int .i64 11, .int .i64 52], .bool false] (.tuple #[.int .u64 9218868437227405311, .int .i64 0])) := fun W => Greatest_ok 11 52 9218868437227405311 2046 4503599627370495 false ⟨by decide, by decide, by decide, by decide⟩ ⟨by decide, by decide, by decide⟩ (hide (by decide)) (hide (by decide)) W
  have G2 : (Says 32 #[.agg #[.int .i64 11, .int .i64 52], .bool true] (.tuple #[.int .u64 9223372036854775809, .int .i64 0])) := fun W => Least_ok 11 52 9223372036854775809 true ⟨by decide, by decide, by decide, by decide⟩ ⟨by decide, by decide, by decide⟩ W
  have G3 : (Says 28 #[.agg #[.int .i64 8, .int .i64 23], .bool true] (.tuple #[.int .u64 4286578687, .int .i64 0])) := fun W => Greatest_ok 8 23 4286578687 254 8388607 true ⟨by decide, by decide, by decide, by decide⟩ ⟨by decide, by decide, by decide⟩ (hide (by decide)) (hide (by decide)) W
  have G4 : (Says 32 #[.agg #[.int .i64 8, .int .i64 23], .bool false] (.tuple #[.int .u64 1, .int .i64 0])) := fun W => Least_ok 8 23 1 false ⟨by decide, by decide, by decide, by decide⟩ ⟨by decide, by decide, by decide⟩ W
  go_enter Try.func8, Try.ntmps8
  go_wp2_with fail
  refine (awake_any _).mono ?_
  rintro e w1 ⟨rfl, hb1⟩
  have hS := (Fs.begin w).kept hb1
  go_wp2_with fail
  refine (double_any _).mono ?_
  rintro e w2 ⟨rfl, hb2⟩
  replace hS := hS.kept hb2
  go_wp2_with fail
  refine (C1 _).mono ?_
  rintro e w3 ⟨rfl, hb3⟩
  replace hS := hS.kept hb3
  go_wp2_with fail
  refine (single_any _).mono ?_
  rintro e w4 ⟨rfl, hb4⟩
  replace hS := hS.kept hb4
  go_wp2_with fail
  refine (C2 _).mono ?_
  rintro e w5 ⟨rfl, hb5⟩
  replace hS := hS.kept hb5
  go_wp2_with fail
  refine (abs_any b r _ hb HR).mono ?_
  rintro e w6 ⟨rfl, hb6⟩
  replace hS := hS.kept hb6
  go_wp2_with fail
  refine (double_any _).mono ?_
  rintro e w7 ⟨rfl, hb7⟩
  replace hS := hS.kept hb7
  go_wp2_with fail
  refine (S1 _).mono ?_
  rintro e w8 ⟨rfl, hb8⟩
  replace hS := hS.kept hb8
  replace hS := hS.alloc #[.bool neg1, .int .i64 ex1, .int .u64 fr1] 27
  go_wp2_with fail
  refine (single_any _).mono ?_
  rintro e w9 ⟨rfl, hb9⟩
  replace hS := hS.kept hb9
  obtain ⟨⟨z9_0_0, z9_0_1, z9_0_2, -⟩, -⟩ := hS.cells
  go_wp2_with fail
  refine (S2 _).mono ?_
  rintro e w10 ⟨rfl, hb10⟩
  replace hS := hS.kept hb10
  clear z9_0_0 z9_0_1 z9_0_2
  obtain ⟨⟨z10_0_0, z10_0_1, z10_0_2, -⟩, -⟩ := hS.cells
  have hlt10_0 : w8.heap.size < w10.heap.size := block_lt (hS.bx ⟨w8.heap.size, #[.bool neg1, .int .i64 ex1, .int .u64 fr1], 27⟩ (by simp))
  replace hS := hS.alloc #[.bool neg2, .int .i64 ex2, .int .u64 fr2] 27
  go_wp2_with fail
  refine wp_region_any (by kernel_rfl) ?_
  refine wpAny_det [some (123, .int .i64 0), some (124, .bool false), some (125, .bool false), some (126, .int .i64 0), some (127, .bool false), some (128, .bool false), some (129, .bool false), some (130, .pointer (some ⟨w8.heap.size, 0, none⟩)), some (131, .bool neg1), some (132, .float .f64 b), some (133, .bool neg1), some (134, .bool false), some (135, .bool false), some (136, .bool false), some (137, .pointer (some ⟨w10.heap.size, 0, none⟩)), some (138, .bool neg2), some (139, .int .u32 (s : Nat)), some (140, .bool neg2), some (141, .bool false), some (142, .bool false)]
    (fun _ W9 => Fs w W9 [⟨w10.heap.size, #[.bool neg2, .int .i64 ex2, .int .u64 fr2], 27⟩, ⟨w8.heap.size, #[.bool neg1, .int .i64 ex1, .int .u64 fr1], 27⟩]) _ _ rfl (by kernel_rfl) rfl rfl ?_ ?_ (hS).drew
  · intro l9 t9 W9 i9 hD hi9 hl9 hM
    obtain ⟨o9, ho9, hd9⟩ := (mem_ready.1 hi9).2
    have hin9 : i9 < 20 := by
      by_cases h : i9 < 20
      · exact h
      · rw [Array.getElem?_eq_none (by rw [hD.len]; simp; omega)] at hl9; cases hl9
    have hcase : i9 = 0 ∨ i9 = 1 ∨ i9 = 2 ∨ i9 = 3 ∨ i9 = 4 ∨ i9 = 5 ∨ i9 = 6 ∨ i9 = 7 ∨ i9 = 8 ∨ i9 = 9 ∨ i9 = 10 ∨ i9 = 11 ∨ i9 = 12 ∨ i9 = 13 ∨ i9 = 14 ∨ i9 = 15 ∨ i9 = 16 ∨ i9 = 17 ∨ i9 = 18 ∨ i9 = 19 := by omega
    clear hin9
    rcases hcase with rfl | rfl | rfl | rfl | rfl | rfl | rfl | rfl | rfl | rfl | rfl | rfl | rfl | rfl | rfl | rfl | rfl | rfl | rfl | rfl
    · cases ho9
      have r8 := hD.old 8 _ rfl rfl
      clear hD hd9 hi9
      refine wpOp_step rfl (fun K hK => ?_)
      go_simp
      exact hK _ _ ⟨rfl, hM⟩
    · cases ho9
      have r123 := hD.on 0 123 _ rfl (getD_true (hd9 ⟨0, .data⟩ (by simp) rfl))
      clear hD hd9 hi9
      refine wpOp_step rfl (fun K hK => ?_)
      go_simp
      exact hK _ _ ⟨act_eq (by (first | rfl | skip); all_goals (rw [Value.bool.injEq]; first | (simp; done) | (simp; omega) | (rw [decide_eq_false_iff_not]; omega) | (rw [decide_eq_true_iff]; omega))), hM⟩
    · cases ho9
      have r124 := hD.on 1 124 _ rfl (getD_true (hd9 ⟨1, .data⟩ (by simp) rfl))
      clear hD hd9 hi9
      refine wpOp_step rfl (fun K hK => ?_)
      go_simp
      exact hK _ _ ⟨rfl, hM⟩
    · cases ho9
      have r125 := hD.on 2 125 _ rfl (getD_true (hd9 ⟨2, .guard⟩ (by simp) rfl))
      have r11 := hD.old 11 _ rfl rfl
      clear hD hd9 hi9
      refine wpOp_step rfl (fun K hK => ?_)
      go_simp
      exact hK _ _ ⟨rfl, hM⟩
    · cases ho9
      have r125 := hD.on 2 125 _ rfl (getD_true (hd9 ⟨2, .guard⟩ (by simp) rfl))
      have r126 := hD.on 3 126 _ rfl (getD_true (hd9 ⟨3, .data⟩ (by simp) rfl))
      clear hD hd9 hi9
      refine wpOp_step rfl (fun K hK => ?_)
      go_simp
      exact hK _ _ ⟨act_eq (by (first | rfl | skip); all_goals (rw [Value.bool.injEq]; first | (simp; done) | (simp; omega) | (rw [decide_eq_false_iff_not]; omega) | (rw [decide_eq_true_iff]; omega))), hM⟩
    · cases ho9
      have r125 := hD.on 2 125 _ rfl (getD_true (hd9 ⟨2, .data⟩ (by simp) rfl))
      have r127 := hD.on 4 127 _ rfl (getD_true (hd9 ⟨4, .data⟩ (by simp) rfl))
      clear hD hd9 hi9
      refine wpOp_step rfl (fun K hK => ?_)
      go_simp
      exact hK _ _ ⟨rfl, hM⟩
    · cases ho9
      have r128 := hD.on 5 128 _ rfl (getD_true (hd9 ⟨5, .data⟩ (by simp) rfl))
      clear hD hd9 hi9
      refine wpOp_step rfl (fun K hK => ?_)
      go_simp
      exact hK _ _ ⟨rfl, hM⟩
    · cases ho9
      have r129 := hD.on 6 129 _ rfl (getD_true (hd9 ⟨6, .guard⟩ (by simp) rfl))
      have r13 := hD.old 13 _ rfl rfl
      clear hD hd9 hi9
      refine wpOp_step rfl (fun K hK => ?_)
      go_simp
      exact hK _ _ ⟨rfl, hM⟩
    · cases ho9
      have r129 := hD.on 6 129 _ rfl (getD_true (hd9 ⟨6, .guard⟩ (by simp) rfl))
      have r130 := hD.on 7 130 _ rfl (getD_true (hd9 ⟨7, .data⟩ (by simp) rfl))
      have hM0 := hM
      have c9_0 := hM0.cellAt (b := w8.heap.size) (cs := #[.bool neg1, .int .i64 ex1, .int .u64 fr1]) (t := 27) (by simp) 0 _ rfl
      clear hM0
      clear hD hd9 hi9
      refine wpOp_step rfl (fun K hK => ?_)
      go_simp
      exact hK _ _ ⟨rfl, hM⟩
    · cases ho9
      have r129 := hD.on 6 129 _ rfl (getD_true (hd9 ⟨6, .guard⟩ (by simp) rfl))
      have r6 := hD.old 6 _ rfl rfl
      clear hD hd9 hi9
      refine wpOp_step rfl (fun K hK => ?_)
      go_simp
      exact hK _ _ ⟨rfl, hM⟩
    · cases ho9
      have r129 := hD.on 6 129 _ rfl (getD_true (hd9 ⟨6, .chain⟩ (by simp) rfl))
      have r132 := hD.on 9 132 _ rfl (getD_true (hd9 ⟨9, .data⟩ (by simp) rfl))
      clear hD hd9 hi9
      refine wpOp_step rfl (fun K hK => ?_)
      go_simp
      go_wp2_with fail
      refine (signbit_any b neg1 _ hb HN1).mono ?_
      rintro en w9 ⟨rfl, hb9⟩
      exact hK _ _ ⟨rfl, hM.kept hb9⟩
    · cases ho9
      have r129 := hD.on 6 129 _ rfl (getD_true (hd9 ⟨6, .guard⟩ (by simp) rfl))
      have r131 := hD.on 8 131 _ rfl (getD_true (hd9 ⟨8, .data⟩ (by simp) rfl))
      have r133 := hD.on 10 133 _ rfl (getD_true (hd9 ⟨10, .data⟩ (by simp) rfl))
      clear hD hd9 hi9
      refine wpOp_step rfl (fun K hK => ?_)
      go_simp
      exact hK _ _ ⟨act_eq (by (first | rfl | skip); all_goals (rw [Value.bool.injEq]; first | (simp; done) | (simp; omega) | (rw [decide_eq_false_iff_not]; omega) | (rw [decide_eq_true_iff]; omega))), hM⟩
    · cases ho9
      have r129 := hD.on 6 129 _ rfl (getD_true (hd9 ⟨6, .data⟩ (by simp) rfl))
      have r134 := hD.on 11 134 _ rfl (getD_true (hd9 ⟨11, .data⟩ (by simp) rfl))
      clear hD hd9 hi9
      refine wpOp_step rfl (fun K hK => ?_)
      go_simp
      exact hK _ _ ⟨rfl, hM⟩
    · cases ho9
      have r135 := hD.on 12 135 _ rfl (getD_true (hd9 ⟨12, .data⟩ (by simp) rfl))
      clear hD hd9 hi9
      refine wpOp_step rfl (fun K hK => ?_)
      go_simp
      exact hK _ _ ⟨rfl, hM⟩
    · cases ho9
      have r136 := hD.on 13 136 _ rfl (getD_true (hd9 ⟨13, .guard⟩ (by simp) rfl))
      have r14 := hD.old 14 _ rfl rfl
      clear hD hd9 hi9
      refine wpOp_step rfl (fun K hK => ?_)
      go_simp
      exact hK _ _ ⟨rfl, hM⟩
    · cases ho9
      have r136 := hD.on 13 136 _ rfl (getD_true (hd9 ⟨13, .guard⟩ (by simp) rfl))
      have r137 := hD.on 14 137 _ rfl (getD_true (hd9 ⟨14, .data⟩ (by simp) rfl))
      have hM0 := hM
      have c9_0 := hM0.cellAt (b := w10.heap.size) (cs := #[.bool neg2, .int .i64 ex2, .int .u64 fr2]) (t := 27) (by simp) 0 _ rfl
      clear hM0
      clear hD hd9 hi9
      refine wpOp_step rfl (fun K hK => ?_)
      go_simp
      exact hK _ _ ⟨rfl, hM⟩
    · cases ho9
      have r136 := hD.on 13 136 _ rfl (getD_true (hd9 ⟨13, .guard⟩ (by simp) rfl))
      have r1 := hD.old 1 _ rfl rfl
      clear hD hd9 hi9
      refine wpOp_step rfl (fun K hK => ?_)
      go_simp
      exact hK _ _ ⟨rfl, hM⟩
    · cases ho9
      have r136 := hD.on 13 136 _ rfl (getD_true (hd9 ⟨13, .guard⟩ (by simp) rfl))
      have r139 := hD.on 16 139 _ rfl (getD_true (hd9 ⟨16, .data⟩ (by simp) rfl))
      clear hD hd9 hi9
      refine wpOp_step rfl (fun K hK => ?_)
      go_simp
      exact hK _ _ ⟨act_eq (by (refine congrArg Value.bool ?_; rw [unhide HN2]; first | rfl | (rw [decide_eq_decide]; omega))), hM⟩
    · cases ho9
      have r136 := hD.on 13 136 _ rfl (getD_true (hd9 ⟨13, .guard⟩ (by simp) rfl))
      have r138 := hD.on 15 138 _ rfl (getD_true (hd9 ⟨15, .data⟩ (by simp) rfl))
      have r140 := hD.on 17 140 _ rfl (getD_true (hd9 ⟨17, .data⟩ (by simp) rfl))
      clear hD hd9 hi9
      refine wpOp_step rfl (fun K hK => ?_)
      go_simp
      exact hK _ _ ⟨act_eq (by (first | rfl | skip); all_goals (rw [Value.bool.injEq]; first | (simp; done) | (simp; omega) | (rw [decide_eq_false_iff_not]; omega) | (rw [decide_eq_true_iff]; omega))), hM⟩
    · cases ho9
      have r136 := hD.on 13 136 _ rfl (getD_true (hd9 ⟨13, .data⟩ (by simp) rfl))
      have r141 := hD.on 18 141 _ rfl (getD_true (hd9 ⟨18, .data⟩ (by simp) rfl))
      clear hD hd9 hi9
      refine wpOp_step rfl (fun K hK => ?_)
      go_simp
      exact hK _ _ ⟨rfl, hM⟩
  · intro l9 W9 hl9 hM
    clear hl9
    clear hS z10_0_0 z10_0_1 z10_0_2
    have hS := hM
    clear hM
    simp only [Puts.lay, List.setIfInBounds_toArray, List.set_cons_zero, List.set_cons_succ]
    obtain ⟨⟨z11_0_0, z11_0_1, z11_0_2, -⟩, ⟨z11_1_0, z11_1_1, z11_1_2, -⟩, -⟩ := hS.cells
    go_wp2_with fail
    refine (double_any _).mono ?_
    rintro e w11 ⟨rfl, hb11⟩
    replace hS := hS.kept hb11
    clear z11_0_0 z11_0_1 z11_0_2 z11_1_0 z11_1_1 z11_1_2
    obtain ⟨⟨z12_0_0, z12_0_1, z12_0_2, -⟩, ⟨z12_1_0, z12_1_1, z12_1_2, -⟩, -⟩ := hS.cells
    go_wp2_with fail
    refine (G1 _).mono ?_
    rintro e w12 ⟨rfl, hb12⟩
    replace hS := hS.kept hb12
    clear z12_0_0 z12_0_1 z12_0_2 z12_1_0 z12_1_1 z12_1_2
    obtain ⟨⟨z13_0_0, z13_0_1, z13_0_2, -⟩, ⟨z13_1_0, z13_1_1, z13_1_2, -⟩, -⟩ := hS.cells
    go_wp2_with fail
    refine (double_any _).mono ?_
    rintro e w13 ⟨rfl, hb13⟩
    replace hS := hS.kept hb13
    clear z13_0_0 z13_0_1 z13_0_2 z13_1_0 z13_1_1 z13_1_2
    obtain ⟨⟨z14_0_0, z14_0_1, z14_0_2, -⟩, ⟨z14_1_0, z14_1_1, z14_1_2, -⟩, -⟩ := hS.cells
    go_wp2_with fail
    refine (G2 _).mono ?_
    rintro e w14 ⟨rfl, hb14⟩
    replace hS := hS.kept hb14
    clear z14_0_0 z14_0_1 z14_0_2 z14_1_0 z14_1_1 z14_1_2
    obtain ⟨⟨z15_0_0, z15_0_1, z15_0_2, -⟩, ⟨z15_1_0, z15_1_1, z15_1_2, -⟩, -⟩ := hS.cells
    go_wp2_with fail
    refine (single_any _).mono ?_
    rintro e w15 ⟨rfl, hb15⟩
    replace hS := hS.kept hb15
    clear z15_0_0 z15_0_1 z15_0_2 z15_1_0 z15_1_1 z15_1_2
    obtain ⟨⟨z16_0_0, z16_0_1, z16_0_2, -⟩, ⟨z16_1_0, z16_1_1, z16_1_2, -⟩, -⟩ := hS.cells
    go_wp2_with fail
    refine (G3 _).mono ?_
    rintro e w16 ⟨rfl, hb16⟩
    replace hS := hS.kept hb16
    clear z16_0_0 z16_0_1 z16_0_2 z16_1_0 z16_1_1 z16_1_2
    obtain ⟨⟨z17_0_0, z17_0_1, z17_0_2, -⟩, ⟨z17_1_0, z17_1_1, z17_1_2, -⟩, -⟩ := hS.cells
    go_wp2_with fail
    refine (single_any _).mono ?_
    rintro e w17 ⟨rfl, hb17⟩
    replace hS := hS.kept hb17
    clear z17_0_0 z17_0_1 z17_0_2 z17_1_0 z17_1_1 z17_1_2
    obtain ⟨⟨z18_0_0, z18_0_1, z18_0_2, -⟩, ⟨z18_1_0, z18_1_1, z18_1_2, -⟩, -⟩ := hS.cells
    go_wp2_with fail
    refine (G4 _).mono ?_
    rintro e w18 ⟨rfl, hb18⟩
    replace hS := hS.kept hb18
    clear z18_0_0 z18_0_1 z18_0_2 z18_1_0 z18_1_1 z18_1_2
    obtain ⟨⟨z19_0_0, z19_0_1, z19_0_2, -⟩, ⟨z19_1_0, z19_1_1, z19_1_2, -⟩, -⟩ := hS.cells
    go_wp2
    go_ret
    exact ⟨rfl, hS.fr⟩

set_option maxRecDepth 20000 in
set_option maxHeartbeats 4000000 in
theorem native_A0 (b s c d r : Nat) (ex1 fr1 ex2 fr2 : Int) (neg1 neg2 p5 p1 l1 q5 q1 l2 : Bool) (hb : b < 18446744073709551616) (hs : s < 4294967296) (C1 : Says 12 #[.agg #[.int .i64 11, .int .i64 52], .int .u64 (b : Nat)] (.tuple #[.int .u8 (c : Nat), .int .i64 0])) (C2 : Says 12 #[.agg #[.int .i64 8, .int .i64 23], .int .u64 (s : Nat)] (.tuple #[.int .u8 (d : Nat), .int .i64 0])) (S1 : Says 10 #[.agg #[.int .i64 11, .int .i64 52], .int .u64 (b : Nat)] (.tuple #[.agg #[.bool neg1, .int .i64 ex1, .int .u64 fr1], .int .i64 0])) (S2 : Says 10 #[.agg #[.int .i64 8, .int .i64 23], .int .u64 (s : Nat)] (.tuple #[.agg #[.bool neg2, .int .i64 ex2, .int .u64 fr2], .int .i64 0])) (HR : Hid (r = b % 9223372036854775808)) (HN1 : Hid (neg1 = decide (9223372036854775808 ≤ b))) (HN2 : Hid (neg2 = decide (2147483648 ≤ s))) (n5 : (FloatKind.f64.format.order b b != some .eq) = p5) (k5 : ((c : Int) == 5) = p5) (o1 : (FloatKind.f64.format.order b 0 == some .eq) = p1) (_n1 : (FloatKind.f64.format.order b 0 != some .eq) = !p1) (k1 : ((c : Int) == 1) = p1) (og : (FloatKind.f64.format.order b 9218868437227405311 == some .gt) = true) (_ol : (FloatKind.f64.format.order b 18442240474082181119 == some .lt) = l1) (k4 : ((c : Int) == 4) = true) (ot : (FloatKind.f64.format.order r 4503599627370496 == some .lt) = false) (k2 : ((c : Int) == 2) = false) (m5 : (FloatKind.f32.format.order s s != some .eq) = q5) (j5 : ((d : Int) == 5) = q5) (o2 : (FloatKind.f32.format.order s 0 == some .eq) = q1) (j1 : ((d : Int) == 1) = q1) (oh : (FloatKind.f32.format.order s 2139095039 == some .gt) = false) (om : (FloatKind.f32.format.order s 4286578687 == some .lt) = l2) (j4 : ((d : Int) == 4) = l2) (w : World) : Calls Try.prog 8 #[.int .u64 (b : Nat), .int .u32 (s : Nat)] w fun e w' => e = .returned (.bool true) ∧ Below w.heap.size w w' := by
  have x1 := run_f64bits
  have x2 := run_f64from
  have x3 := run_f32bits
  have x4 := run_f32from
  have G1 : (Says 28 #[.agg #[.int .i64 11, .int .i64 52], .bool false] (.tuple #[.int .u64 9218868437227405311, .int .i64 0])) := fun W => Greatest_ok 11 52 9218868437227405311 2046 4503599627370495 false ⟨by decide, by decide, by decide, by decide⟩ ⟨by decide, by decide, by decide⟩ (hide (by decide)) (hide (by decide)) W
  have G2 : (Says 32 #[.agg #[.int .i64 11, .int .i64 52], .bool true] (.tuple #[.int .u64 9223372036854775809, .int .i64 0])) := fun W => Least_ok 11 52 9223372036854775809 true ⟨by decide, by decide, by decide, by decide⟩ ⟨by decide, by decide, by decide⟩ W
  have G3 : (Says 28 #[.agg #[.int .i64 8, .int .i64 23], .bool true] (.tuple #[.int .u64 4286578687, .int .i64 0])) := fun W => Greatest_ok 8 23 4286578687 254 8388607 true ⟨by decide, by decide, by decide, by decide⟩ ⟨by decide, by decide, by decide⟩ (hide (by decide)) (hide (by decide)) W
  have G4 : (Says 32 #[.agg #[.int .i64 8, .int .i64 23], .bool false] (.tuple #[.int .u64 1, .int .i64 0])) := fun W => Least_ok 8 23 1 false ⟨by decide, by decide, by decide, by decide⟩ ⟨by decide, by decide, by decide⟩ W
  go_enter Try.func8, Try.ntmps8
  go_wp2_with fail
  refine (awake_any _).mono ?_
  rintro e w1 ⟨rfl, hb1⟩
  have hS := (Fs.begin w).kept hb1
  go_wp2_with fail
  refine (double_any _).mono ?_
  rintro e w2 ⟨rfl, hb2⟩
  replace hS := hS.kept hb2
  go_wp2_with fail
  refine (C1 _).mono ?_
  rintro e w3 ⟨rfl, hb3⟩
  replace hS := hS.kept hb3
  go_wp2_with fail
  refine (single_any _).mono ?_
  rintro e w4 ⟨rfl, hb4⟩
  replace hS := hS.kept hb4
  go_wp2_with fail
  refine (C2 _).mono ?_
  rintro e w5 ⟨rfl, hb5⟩
  replace hS := hS.kept hb5
  go_wp2_with fail
  refine (abs_any b r _ hb HR).mono ?_
  rintro e w6 ⟨rfl, hb6⟩
  replace hS := hS.kept hb6
  go_wp2_with fail
  refine (double_any _).mono ?_
  rintro e w7 ⟨rfl, hb7⟩
  replace hS := hS.kept hb7
  go_wp2_with fail
  refine (S1 _).mono ?_
  rintro e w8 ⟨rfl, hb8⟩
  replace hS := hS.kept hb8
  replace hS := hS.alloc #[.bool neg1, .int .i64 ex1, .int .u64 fr1] 27
  go_wp2_with fail
  refine (single_any _).mono ?_
  rintro e w9 ⟨rfl, hb9⟩
  replace hS := hS.kept hb9
  obtain ⟨⟨z9_0_0, z9_0_1, z9_0_2, -⟩, -⟩ := hS.cells
  go_wp2_with fail
  refine (S2 _).mono ?_
  rintro e w10 ⟨rfl, hb10⟩
  replace hS := hS.kept hb10
  clear z9_0_0 z9_0_1 z9_0_2
  obtain ⟨⟨z10_0_0, z10_0_1, z10_0_2, -⟩, -⟩ := hS.cells
  have hlt10_0 : w8.heap.size < w10.heap.size := block_lt (hS.bx ⟨w8.heap.size, #[.bool neg1, .int .i64 ex1, .int .u64 fr1], 27⟩ (by simp))
  replace hS := hS.alloc #[.bool neg2, .int .i64 ex2, .int .u64 fr2] 27
  go_wp2_with fail
  refine wp_region_any (by kernel_rfl) ?_
  refine wpAny_det [some (123, .int .i64 0), some (124, .bool false), some (125, .bool false), some (126, .int .i64 0), some (127, .bool false), some (128, .bool false), some (129, .bool false), some (130, .pointer (some ⟨w8.heap.size, 0, none⟩)), some (131, .bool neg1), some (132, .float .f64 b), some (133, .bool neg1), some (134, .bool false), some (135, .bool false), some (136, .bool false), some (137, .pointer (some ⟨w10.heap.size, 0, none⟩)), some (138, .bool neg2), some (139, .int .u32 (s : Nat)), some (140, .bool neg2), some (141, .bool false), some (142, .bool false)]
    (fun _ W9 => Fs w W9 [⟨w10.heap.size, #[.bool neg2, .int .i64 ex2, .int .u64 fr2], 27⟩, ⟨w8.heap.size, #[.bool neg1, .int .i64 ex1, .int .u64 fr1], 27⟩]) _ _ rfl (by kernel_rfl) rfl rfl ?_ ?_ (hS).drew
  · intro l9 t9 W9 i9 hD hi9 hl9 hM
    obtain ⟨o9, ho9, hd9⟩ := (mem_ready.1 hi9).2
    have hin9 : i9 < 20 := by
      by_cases h : i9 < 20
      · exact h
      · rw [Array.getElem?_eq_none (by rw [hD.len]; simp; omega)] at hl9; cases hl9
    have hcase : i9 = 0 ∨ i9 = 1 ∨ i9 = 2 ∨ i9 = 3 ∨ i9 = 4 ∨ i9 = 5 ∨ i9 = 6 ∨ i9 = 7 ∨ i9 = 8 ∨ i9 = 9 ∨ i9 = 10 ∨ i9 = 11 ∨ i9 = 12 ∨ i9 = 13 ∨ i9 = 14 ∨ i9 = 15 ∨ i9 = 16 ∨ i9 = 17 ∨ i9 = 18 ∨ i9 = 19 := by omega
    clear hin9
    rcases hcase with rfl | rfl | rfl | rfl | rfl | rfl | rfl | rfl | rfl | rfl | rfl | rfl | rfl | rfl | rfl | rfl | rfl | rfl | rfl | rfl
    · cases ho9
      have r8 := hD.old 8 _ rfl rfl
      clear hD hd9 hi9
      refine wpOp_step rfl (fun K hK => ?_)
      go_simp
      exact hK _ _ ⟨rfl, hM⟩
    · cases ho9
      have r123 := hD.on 0 123 _ rfl (getD_true (hd9 ⟨0, .data⟩ (by simp) rfl))
      clear hD hd9 hi9
      refine wpOp_step rfl (fun K hK => ?_)
      go_simp
      exact hK _ _ ⟨act_eq (by (first | rfl | skip); all_goals (rw [Value.bool.injEq]; first | (simp; done) | (simp; omega) | (rw [decide_eq_false_iff_not]; omega) | (rw [decide_eq_true_iff]; omega))), hM⟩
    · cases ho9
      have r124 := hD.on 1 124 _ rfl (getD_true (hd9 ⟨1, .data⟩ (by simp) rfl))
      clear hD hd9 hi9
      refine wpOp_step rfl (fun K hK => ?_)
      go_simp
      exact hK _ _ ⟨rfl, hM⟩
    · cases ho9
      have r125 := hD.on 2 125 _ rfl (getD_true (hd9 ⟨2, .guard⟩ (by simp) rfl))
      have r11 := hD.old 11 _ rfl rfl
      clear hD hd9 hi9
      refine wpOp_step rfl (fun K hK => ?_)
      go_simp
      exact hK _ _ ⟨rfl, hM⟩
    · cases ho9
      have r125 := hD.on 2 125 _ rfl (getD_true (hd9 ⟨2, .guard⟩ (by simp) rfl))
      have r126 := hD.on 3 126 _ rfl (getD_true (hd9 ⟨3, .data⟩ (by simp) rfl))
      clear hD hd9 hi9
      refine wpOp_step rfl (fun K hK => ?_)
      go_simp
      exact hK _ _ ⟨act_eq (by (first | rfl | skip); all_goals (rw [Value.bool.injEq]; first | (simp; done) | (simp; omega) | (rw [decide_eq_false_iff_not]; omega) | (rw [decide_eq_true_iff]; omega))), hM⟩
    · cases ho9
      have r125 := hD.on 2 125 _ rfl (getD_true (hd9 ⟨2, .data⟩ (by simp) rfl))
      have r127 := hD.on 4 127 _ rfl (getD_true (hd9 ⟨4, .data⟩ (by simp) rfl))
      clear hD hd9 hi9
      refine wpOp_step rfl (fun K hK => ?_)
      go_simp
      exact hK _ _ ⟨rfl, hM⟩
    · cases ho9
      have r128 := hD.on 5 128 _ rfl (getD_true (hd9 ⟨5, .data⟩ (by simp) rfl))
      clear hD hd9 hi9
      refine wpOp_step rfl (fun K hK => ?_)
      go_simp
      exact hK _ _ ⟨rfl, hM⟩
    · cases ho9
      have r129 := hD.on 6 129 _ rfl (getD_true (hd9 ⟨6, .guard⟩ (by simp) rfl))
      have r13 := hD.old 13 _ rfl rfl
      clear hD hd9 hi9
      refine wpOp_step rfl (fun K hK => ?_)
      go_simp
      exact hK _ _ ⟨rfl, hM⟩
    · cases ho9
      have r129 := hD.on 6 129 _ rfl (getD_true (hd9 ⟨6, .guard⟩ (by simp) rfl))
      have r130 := hD.on 7 130 _ rfl (getD_true (hd9 ⟨7, .data⟩ (by simp) rfl))
      have hM0 := hM
      have c9_0 := hM0.cellAt (b := w8.heap.size) (cs := #[.bool neg1, .int .i64 ex1, .int .u64 fr1]) (t := 27) (by simp) 0 _ rfl
      clear hM0
      clear hD hd9 hi9
      refine wpOp_step rfl (fun K hK => ?_)
      go_simp
      exact hK _ _ ⟨rfl, hM⟩
    · cases ho9
      have r129 := hD.on 6 129 _ rfl (getD_true (hd9 ⟨6, .guard⟩ (by simp) rfl))
      have r6 := hD.old 6 _ rfl rfl
      clear hD hd9 hi9
      refine wpOp_step rfl (fun K hK => ?_)
      go_simp
      exact hK _ _ ⟨rfl, hM⟩
    · cases ho9
      have r129 := hD.on 6 129 _ rfl (getD_true (hd9 ⟨6, .chain⟩ (by simp) rfl))
      have r132 := hD.on 9 132 _ rfl (getD_true (hd9 ⟨9, .data⟩ (by simp) rfl))
      clear hD hd9 hi9
      refine wpOp_step rfl (fun K hK => ?_)
      go_simp
      go_wp2_with fail
      refine (signbit_any b neg1 _ hb HN1).mono ?_
      rintro en w9 ⟨rfl, hb9⟩
      exact hK _ _ ⟨rfl, hM.kept hb9⟩
    · cases ho9
      have r129 := hD.on 6 129 _ rfl (getD_true (hd9 ⟨6, .guard⟩ (by simp) rfl))
      have r131 := hD.on 8 131 _ rfl (getD_true (hd9 ⟨8, .data⟩ (by simp) rfl))
      have r133 := hD.on 10 133 _ rfl (getD_true (hd9 ⟨10, .data⟩ (by simp) rfl))
      clear hD hd9 hi9
      refine wpOp_step rfl (fun K hK => ?_)
      go_simp
      exact hK _ _ ⟨act_eq (by (first | rfl | skip); all_goals (rw [Value.bool.injEq]; first | (simp; done) | (simp; omega) | (rw [decide_eq_false_iff_not]; omega) | (rw [decide_eq_true_iff]; omega))), hM⟩
    · cases ho9
      have r129 := hD.on 6 129 _ rfl (getD_true (hd9 ⟨6, .data⟩ (by simp) rfl))
      have r134 := hD.on 11 134 _ rfl (getD_true (hd9 ⟨11, .data⟩ (by simp) rfl))
      clear hD hd9 hi9
      refine wpOp_step rfl (fun K hK => ?_)
      go_simp
      exact hK _ _ ⟨rfl, hM⟩
    · cases ho9
      have r135 := hD.on 12 135 _ rfl (getD_true (hd9 ⟨12, .data⟩ (by simp) rfl))
      clear hD hd9 hi9
      refine wpOp_step rfl (fun K hK => ?_)
      go_simp
      exact hK _ _ ⟨rfl, hM⟩
    · cases ho9
      have r136 := hD.on 13 136 _ rfl (getD_true (hd9 ⟨13, .guard⟩ (by simp) rfl))
      have r14 := hD.old 14 _ rfl rfl
      clear hD hd9 hi9
      refine wpOp_step rfl (fun K hK => ?_)
      go_simp
      exact hK _ _ ⟨rfl, hM⟩
    · cases ho9
      have r136 := hD.on 13 136 _ rfl (getD_true (hd9 ⟨13, .guard⟩ (by simp) rfl))
      have r137 := hD.on 14 137 _ rfl (getD_true (hd9 ⟨14, .data⟩ (by simp) rfl))
      have hM0 := hM
      have c9_0 := hM0.cellAt (b := w10.heap.size) (cs := #[.bool neg2, .int .i64 ex2, .int .u64 fr2]) (t := 27) (by simp) 0 _ rfl
      clear hM0
      clear hD hd9 hi9
      refine wpOp_step rfl (fun K hK => ?_)
      go_simp
      exact hK _ _ ⟨rfl, hM⟩
    · cases ho9
      have r136 := hD.on 13 136 _ rfl (getD_true (hd9 ⟨13, .guard⟩ (by simp) rfl))
      have r1 := hD.old 1 _ rfl rfl
      clear hD hd9 hi9
      refine wpOp_step rfl (fun K hK => ?_)
      go_simp
      exact hK _ _ ⟨rfl, hM⟩
    · cases ho9
      have r136 := hD.on 13 136 _ rfl (getD_true (hd9 ⟨13, .guard⟩ (by simp) rfl))
      have r139 := hD.on 16 139 _ rfl (getD_true (hd9 ⟨16, .data⟩ (by simp) rfl))
      clear hD hd9 hi9
      refine wpOp_step rfl (fun K hK => ?_)
      go_simp
      exact hK _ _ ⟨act_eq (by (refine congrArg Value.bool ?_; rw [unhide HN2]; first | rfl | (rw [decide_eq_decide]; omega))), hM⟩
    · cases ho9
      have r136 := hD.on 13 136 _ rfl (getD_true (hd9 ⟨13, .guard⟩ (by simp) rfl))
      have r138 := hD.on 15 138 _ rfl (getD_true (hd9 ⟨15, .data⟩ (by simp) rfl))
      have r140 := hD.on 17 140 _ rfl (getD_true (hd9 ⟨17, .data⟩ (by simp) rfl))
      clear hD hd9 hi9
      refine wpOp_step rfl (fun K hK => ?_)
      go_simp
      exact hK _ _ ⟨act_eq (by (first | rfl | skip); all_goals (rw [Value.bool.injEq]; first | (simp; done) | (simp; omega) | (rw [decide_eq_false_iff_not]; omega) | (rw [decide_eq_true_iff]; omega))), hM⟩
    · cases ho9
      have r136 := hD.on 13 136 _ rfl (getD_true (hd9 ⟨13, .data⟩ (by simp) rfl))
      have r141 := hD.on 18 141 _ rfl (getD_true (hd9 ⟨18, .data⟩ (by simp) rfl))
      clear hD hd9 hi9
      refine wpOp_step rfl (fun K hK => ?_)
      go_simp
      exact hK _ _ ⟨rfl, hM⟩
  · intro l9 W9 hl9 hM
    clear hl9
    clear hS z10_0_0 z10_0_1 z10_0_2
    have hS := hM
    clear hM
    simp only [Puts.lay, List.setIfInBounds_toArray, List.set_cons_zero, List.set_cons_succ]
    obtain ⟨⟨z11_0_0, z11_0_1, z11_0_2, -⟩, ⟨z11_1_0, z11_1_1, z11_1_2, -⟩, -⟩ := hS.cells
    go_wp2_with fail
    refine (double_any _).mono ?_
    rintro e w11 ⟨rfl, hb11⟩
    replace hS := hS.kept hb11
    clear z11_0_0 z11_0_1 z11_0_2 z11_1_0 z11_1_1 z11_1_2
    obtain ⟨⟨z12_0_0, z12_0_1, z12_0_2, -⟩, ⟨z12_1_0, z12_1_1, z12_1_2, -⟩, -⟩ := hS.cells
    go_wp2_with fail
    refine (G1 _).mono ?_
    rintro e w12 ⟨rfl, hb12⟩
    replace hS := hS.kept hb12
    clear z12_0_0 z12_0_1 z12_0_2 z12_1_0 z12_1_1 z12_1_2
    obtain ⟨⟨z13_0_0, z13_0_1, z13_0_2, -⟩, ⟨z13_1_0, z13_1_1, z13_1_2, -⟩, -⟩ := hS.cells
    go_wp2_with fail
    refine (double_any _).mono ?_
    rintro e w13 ⟨rfl, hb13⟩
    replace hS := hS.kept hb13
    clear z13_0_0 z13_0_1 z13_0_2 z13_1_0 z13_1_1 z13_1_2
    obtain ⟨⟨z14_0_0, z14_0_1, z14_0_2, -⟩, ⟨z14_1_0, z14_1_1, z14_1_2, -⟩, -⟩ := hS.cells
    go_wp2_with fail
    refine (G2 _).mono ?_
    rintro e w14 ⟨rfl, hb14⟩
    replace hS := hS.kept hb14
    clear z14_0_0 z14_0_1 z14_0_2 z14_1_0 z14_1_1 z14_1_2
    obtain ⟨⟨z15_0_0, z15_0_1, z15_0_2, -⟩, ⟨z15_1_0, z15_1_1, z15_1_2, -⟩, -⟩ := hS.cells
    go_wp2_with fail
    refine (single_any _).mono ?_
    rintro e w15 ⟨rfl, hb15⟩
    replace hS := hS.kept hb15
    clear z15_0_0 z15_0_1 z15_0_2 z15_1_0 z15_1_1 z15_1_2
    obtain ⟨⟨z16_0_0, z16_0_1, z16_0_2, -⟩, ⟨z16_1_0, z16_1_1, z16_1_2, -⟩, -⟩ := hS.cells
    go_wp2_with fail
    refine (G3 _).mono ?_
    rintro e w16 ⟨rfl, hb16⟩
    replace hS := hS.kept hb16
    clear z16_0_0 z16_0_1 z16_0_2 z16_1_0 z16_1_1 z16_1_2
    obtain ⟨⟨z17_0_0, z17_0_1, z17_0_2, -⟩, ⟨z17_1_0, z17_1_1, z17_1_2, -⟩, -⟩ := hS.cells
    go_wp2_with fail
    refine (single_any _).mono ?_
    rintro e w17 ⟨rfl, hb17⟩
    replace hS := hS.kept hb17
    clear z17_0_0 z17_0_1 z17_0_2 z17_1_0 z17_1_1 z17_1_2
    obtain ⟨⟨z18_0_0, z18_0_1, z18_0_2, -⟩, ⟨z18_1_0, z18_1_1, z18_1_2, -⟩, -⟩ := hS.cells
    go_wp2_with fail
    refine (G4 _).mono ?_
    rintro e w18 ⟨rfl, hb18⟩
    replace hS := hS.kept hb18
    clear z18_0_0 z18_0_1 z18_0_2 z18_1_0 z18_1_1 z18_1_2
    obtain ⟨⟨z19_0_0, z19_0_1, z19_0_2, -⟩, ⟨z19_1_0, z19_1_1, z19_1_2, -⟩, -⟩ := hS.cells
    go_wp2
    go_ret
    exact ⟨rfl, hS.fr⟩

end Go.Proofs.Ytafeioonnhnpcaa
