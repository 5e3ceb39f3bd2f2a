/- The law FormBack. -/
import Derived.Test.YtafeioonnhnpcaaFmBits
namespace Go.Proofs.Ytafeioonnhnpcaa
open Go.RowKit

theorem cls_range (ex fr top : Nat) : 1 ≤ cls ex fr top ∧ cls ex fr top ≤ 5 := by
  unfold cls
  repeat' split
  all_goals omega

set_option maxRecDepth 20000 in
set_option maxHeartbeats 1000000 in
theorem back_walk00 (E F b x fx ef ej : Int) (ng : Bool) (F1 : Says 18 #[.agg #[.int .i64 E, .int .i64 F], .int .u64 b] (.int .i64 ef)) (S1 : Says 10 #[.agg #[.int .i64 E, .int .i64 F], .int .u64 b] (.tuple #[.agg #[.bool false, .int .i64 0, .int .u64 0], .int .i64 ef])) (C1 : Says 12 #[.agg #[.int .i64 E, .int .i64 F], .int .u64 b] (.tuple #[.int .u8 0, .int .i64 ef])) (hef : ef ≠ 0) (J2 : Says 20 #[.agg #[.int .i64 E, .int .i64 F], .agg #[.bool ng, .int .i64 x, .int .u64 fx]] (.tuple #[.int .u64 0, .int .i64 ej])) (hej : ej ≠ 0) (w : World) : Calls Try.prog 6 #[.agg #[.int .i64 E, .int .i64 F], .int .u64 b, .agg #[.bool ng, .int .i64 x, .int .u64 fx]] w fun e w' => e = .returned (.bool true) ∧ Below w.heap.size w w' := by
  go_enter Try.func6, Try.ntmps6
  go_wp2_with fail
  refine (awake_any _).mono ?_
  rintro e w1 ⟨rfl, hb1⟩
  have hS := (Fs.two w _ _ _ _).kept hb1
  obtain ⟨⟨z1_0_0, z1_0_1, -⟩, ⟨z1_1_0, z1_1_1, z1_1_2, -⟩, -⟩ := hS.cells
  go_wp2_with fail
  refine (F1 _).mono ?_
  rintro e w2 ⟨rfl, hb2⟩
  replace hS := hS.kept hb2
  clear z1_0_0 z1_0_1 z1_1_0 z1_1_1 z1_1_2
  obtain ⟨⟨z2_0_0, z2_0_1, -⟩, ⟨z2_1_0, z2_1_1, z2_1_2, -⟩, -⟩ := hS.cells
  go_wp2_with fail
  refine (S1 _).mono ?_
  rintro e w3 ⟨rfl, hb3⟩
  replace hS := hS.kept hb3
  clear z2_0_0 z2_0_1 z2_1_0 z2_1_1 z2_1_2
  obtain ⟨⟨z3_0_0, z3_0_1, -⟩, ⟨z3_1_0, z3_1_1, z3_1_2, -⟩, -⟩ := hS.cells
  have hlt3_0 : w.heap.size < w3.heap.size := block_lt (hS.bx ⟨w.heap.size, #[.int .i64 E, .int .i64 F], 23⟩ (by simp))
  have hlt3_1 : w.heap.size + 1 < w3.heap.size := block_lt (hS.bx ⟨w.heap.size + 1, #[.bool ng, .int .i64 x, .int .u64 fx], 27⟩ (by simp))
  replace hS := hS.alloc #[.bool false, .int .i64 0, .int .u64 0] 27
  go_wp2_with fail
  refine (C1 _).mono ?_
  rintro e w4 ⟨rfl, hb4⟩
  replace hS := hS.kept hb4
  clear z3_0_0 z3_0_1 z3_1_0 z3_1_1 z3_1_2
  obtain ⟨⟨z4_0_0, z4_0_1, z4_0_2, -⟩, ⟨z4_1_0, z4_1_1, -⟩, ⟨z4_2_0, z4_2_1, z4_2_2, -⟩, -⟩ := hS.cells
  go_wp2_with fail
  refine (J2 _).mono ?_
  rintro e w5 ⟨rfl, hb5⟩
  replace hS := hS.kept hb5
  clear z4_0_0 z4_0_1 z4_0_2 z4_1_0 z4_1_1 z4_2_0 z4_2_1 z4_2_2
  obtain ⟨⟨z5_0_0, z5_0_1, z5_0_2, -⟩, ⟨z5_1_0, z5_1_1, -⟩, ⟨z5_2_0, z5_2_1, z5_2_2, -⟩, -⟩ := hS.cells
  go_wp2
  go_ret
  exact ⟨rfl, hS.fr⟩

set_option maxRecDepth 20000 in
set_option maxHeartbeats 1000000 in
theorem back_walk01 (E F b x fx ef y : Int) (ng : Bool) (F1 : Says 18 #[.agg #[.int .i64 E, .int .i64 F], .int .u64 b] (.int .i64 ef)) (S1 : Says 10 #[.agg #[.int .i64 E, .int .i64 F], .int .u64 b] (.tuple #[.agg #[.bool false, .int .i64 0, .int .u64 0], .int .i64 ef])) (C1 : Says 12 #[.agg #[.int .i64 E, .int .i64 F], .int .u64 b] (.tuple #[.int .u8 0, .int .i64 ef])) (hef : ef ≠ 0) (J2 : Says 20 #[.agg #[.int .i64 E, .int .i64 F], .agg #[.bool ng, .int .i64 x, .int .u64 fx]] (.tuple #[.int .u64 y, .int .i64 0])) (S2 : Says 10 #[.agg #[.int .i64 E, .int .i64 F], .int .u64 y] (.tuple #[.agg #[.bool ng, .int .i64 x, .int .u64 fx], .int .i64 0])) (F2 : Says 18 #[.agg #[.int .i64 E, .int .i64 F], .int .u64 y] (.int .i64 0)) (w : World) : Calls Try.prog 6 #[.agg #[.int .i64 E, .int .i64 F], .int .u64 b, .agg #[.bool ng, .int .i64 x, .int .u64 fx]] w fun e w' => e = .returned (.bool true) ∧ Below w.heap.size w w' := by
  go_enter Try.func6, Try.ntmps6
  go_wp2_with fail
  refine (awake_any _).mono ?_
  rintro e w1 ⟨rfl, hb1⟩
  have hS := (Fs.two w _ _ _ _).kept hb1
  obtain ⟨⟨z1_0_0, z1_0_1, -⟩, ⟨z1_1_0, z1_1_1, z1_1_2, -⟩, -⟩ := hS.cells
  go_wp2_with fail
  refine (F1 _).mono ?_
  rintro e w2 ⟨rfl, hb2⟩
  replace hS := hS.kept hb2
  clear z1_0_0 z1_0_1 z1_1_0 z1_1_1 z1_1_2
  obtain ⟨⟨z2_0_0, z2_0_1, -⟩, ⟨z2_1_0, z2_1_1, z2_1_2, -⟩, -⟩ := hS.cells
  go_wp2_with fail
  refine (S1 _).mono ?_
  rintro e w3 ⟨rfl, hb3⟩
  replace hS := hS.kept hb3
  clear z2_0_0 z2_0_1 z2_1_0 z2_1_1 z2_1_2
  obtain ⟨⟨z3_0_0, z3_0_1, -⟩, ⟨z3_1_0, z3_1_1, z3_1_2, -⟩, -⟩ := hS.cells
  have hlt3_0 : w.heap.size < w3.heap.size := block_lt (hS.bx ⟨w.heap.size, #[.int .i64 E, .int .i64 F], 23⟩ (by simp))
  have hlt3_1 : w.heap.size + 1 < w3.heap.size := block_lt (hS.bx ⟨w.heap.size + 1, #[.bool ng, .int .i64 x, .int .u64 fx], 27⟩ (by simp))
  replace hS := hS.alloc #[.bool false, .int .i64 0, .int .u64 0] 27
  go_wp2_with fail
  refine (C1 _).mono ?_
  rintro e w4 ⟨rfl, hb4⟩
  replace hS := hS.kept hb4
  clear z3_0_0 z3_0_1 z3_1_0 z3_1_1 z3_1_2
  obtain ⟨⟨z4_0_0, z4_0_1, z4_0_2, -⟩, ⟨z4_1_0, z4_1_1, -⟩, ⟨z4_2_0, z4_2_1, z4_2_2, -⟩, -⟩ := hS.cells
  go_wp2_with fail
  refine (J2 _).mono ?_
  rintro e w5 ⟨rfl, hb5⟩
  replace hS := hS.kept hb5
  clear z4_0_0 z4_0_1 z4_0_2 z4_1_0 z4_1_1 z4_2_0 z4_2_1 z4_2_2
  obtain ⟨⟨z5_0_0, z5_0_1, z5_0_2, -⟩, ⟨z5_1_0, z5_1_1, -⟩, ⟨z5_2_0, z5_2_1, z5_2_2, -⟩, -⟩ := hS.cells
  go_wp2_with fail
  refine (S2 _).mono ?_
  rintro e w6 ⟨rfl, hb6⟩
  replace hS := hS.kept hb6
  clear z5_0_0 z5_0_1 z5_0_2 z5_1_0 z5_1_1 z5_2_0 z5_2_1 z5_2_2
  obtain ⟨⟨z6_0_0, z6_0_1, z6_0_2, -⟩, ⟨z6_1_0, z6_1_1, -⟩, ⟨z6_2_0, z6_2_1, z6_2_2, -⟩, -⟩ := hS.cells
  have hlt6_0 : w3.heap.size < w6.heap.size := block_lt (hS.bx ⟨w3.heap.size, #[.bool false, .int .i64 0, .int .u64 0], 27⟩ (by simp))
  have hlt6_1 : w.heap.size < w6.heap.size := block_lt (hS.bx ⟨w.heap.size, #[.int .i64 E, .int .i64 F], 23⟩ (by simp))
  have hlt6_2 : w.heap.size + 1 < w6.heap.size := block_lt (hS.bx ⟨w.heap.size + 1, #[.bool ng, .int .i64 x, .int .u64 fx], 27⟩ (by simp))
  replace hS := hS.alloc #[.bool ng, .int .i64 x, .int .u64 fx] 27
  go_wp2_with fail
  refine (F2 _).mono ?_
  rintro e w7 ⟨rfl, hb7⟩
  replace hS := hS.kept hb7
  clear z6_0_0 z6_0_1 z6_0_2 z6_1_0 z6_1_1 z6_2_0 z6_2_1 z6_2_2
  obtain ⟨⟨z7_0_0, z7_0_1, z7_0_2, -⟩, ⟨z7_1_0, z7_1_1, z7_1_2, -⟩, ⟨z7_2_0, z7_2_1, -⟩, ⟨z7_3_0, z7_3_1, z7_3_2, -⟩, -⟩ := hS.cells
  go_wp2
  go_ret
  exact ⟨rfl, hS.fr⟩

set_option maxRecDepth 20000 in
set_option maxHeartbeats 1000000 in
theorem back_walk10 (E F b x fx ex fr c ej : Int) (neg ng : Bool) (F1 : Says 18 #[.agg #[.int .i64 E, .int .i64 F], .int .u64 b] (.int .i64 0)) (S1 : Says 10 #[.agg #[.int .i64 E, .int .i64 F], .int .u64 b] (.tuple #[.agg #[.bool neg, .int .i64 ex, .int .u64 fr], .int .i64 0])) (C1 : Says 12 #[.agg #[.int .i64 E, .int .i64 F], .int .u64 b] (.tuple #[.int .u8 c, .int .i64 0])) (J1 : Says 20 #[.agg #[.int .i64 E, .int .i64 F], .agg #[.bool neg, .int .i64 ex, .int .u64 fr]] (.tuple #[.int .u64 b, .int .i64 0])) (hc1 : 1 ≤ c) (hc5 : c ≤ 5) (J2 : Says 20 #[.agg #[.int .i64 E, .int .i64 F], .agg #[.bool ng, .int .i64 x, .int .u64 fx]] (.tuple #[.int .u64 0, .int .i64 ej])) (hej : ej ≠ 0) (w : World) : Calls Try.prog 6 #[.agg #[.int .i64 E, .int .i64 F], .int .u64 b, .agg #[.bool ng, .int .i64 x, .int .u64 fx]] w fun e w' => e = .returned (.bool true) ∧ Below w.heap.size w w' := by
  go_enter Try.func6, Try.ntmps6
  go_wp2_with fail
  refine (awake_any _).mono ?_
  rintro e w1 ⟨rfl, hb1⟩
  have hS := (Fs.two w _ _ _ _).kept hb1
  obtain ⟨⟨z1_0_0, z1_0_1, -⟩, ⟨z1_1_0, z1_1_1, z1_1_2, -⟩, -⟩ := hS.cells
  go_wp2_with fail
  refine (F1 _).mono ?_
  rintro e w2 ⟨rfl, hb2⟩
  replace hS := hS.kept hb2
  clear z1_0_0 z1_0_1 z1_1_0 z1_1_1 z1_1_2
  obtain ⟨⟨z2_0_0, z2_0_1, -⟩, ⟨z2_1_0, z2_1_1, z2_1_2, -⟩, -⟩ := hS.cells
  go_wp2_with fail
  refine (S1 _).mono ?_
  rintro e w3 ⟨rfl, hb3⟩
  replace hS := hS.kept hb3
  clear z2_0_0 z2_0_1 z2_1_0 z2_1_1 z2_1_2
  obtain ⟨⟨z3_0_0, z3_0_1, -⟩, ⟨z3_1_0, z3_1_1, z3_1_2, -⟩, -⟩ := hS.cells
  have hlt3_0 : w.heap.size < w3.heap.size := block_lt (hS.bx ⟨w.heap.size, #[.int .i64 E, .int .i64 F], 23⟩ (by simp))
  have hlt3_1 : w.heap.size + 1 < w3.heap.size := block_lt (hS.bx ⟨w.heap.size + 1, #[.bool ng, .int .i64 x, .int .u64 fx], 27⟩ (by simp))
  replace hS := hS.alloc #[.bool neg, .int .i64 ex, .int .u64 fr] 27
  go_wp2_with fail
  refine (C1 _).mono ?_
  rintro e w4 ⟨rfl, hb4⟩
  replace hS := hS.kept hb4
  clear z3_0_0 z3_0_1 z3_1_0 z3_1_1 z3_1_2
  obtain ⟨⟨z4_0_0, z4_0_1, z4_0_2, -⟩, ⟨z4_1_0, z4_1_1, -⟩, ⟨z4_2_0, z4_2_1, z4_2_2, -⟩, -⟩ := hS.cells
  go_wp2_with fail
  refine (J1 _).mono ?_
  rintro e w5 ⟨rfl, hb5⟩
  replace hS := hS.kept hb5
  clear z4_0_0 z4_0_1 z4_0_2 z4_1_0 z4_1_1 z4_2_0 z4_2_1 z4_2_2
  obtain ⟨⟨z5_0_0, z5_0_1, z5_0_2, -⟩, ⟨z5_1_0, z5_1_1, -⟩, ⟨z5_2_0, z5_2_1, z5_2_2, -⟩, -⟩ := hS.cells
  go_wp2_with fail
  refine (J2 _).mono ?_
  rintro e w6 ⟨rfl, hb6⟩
  replace hS := hS.kept hb6
  clear z5_0_0 z5_0_1 z5_0_2 z5_1_0 z5_1_1 z5_2_0 z5_2_1 z5_2_2
  obtain ⟨⟨z6_0_0, z6_0_1, z6_0_2, -⟩, ⟨z6_1_0, z6_1_1, -⟩, ⟨z6_2_0, z6_2_1, z6_2_2, -⟩, -⟩ := hS.cells
  go_wp2
  go_ret
  exact ⟨rfl, hS.fr⟩

set_option maxRecDepth 20000 in
set_option maxHeartbeats 1000000 in
theorem back_walk11 (E F b x fx ex fr c y : Int) (neg ng : Bool) (F1 : Says 18 #[.agg #[.int .i64 E, .int .i64 F], .int .u64 b] (.int .i64 0)) (S1 : Says 10 #[.agg #[.int .i64 E, .int .i64 F], .int .u64 b] (.tuple #[.agg #[.bool neg, .int .i64 ex, .int .u64 fr], .int .i64 0])) (C1 : Says 12 #[.agg #[.int .i64 E, .int .i64 F], .int .u64 b] (.tuple #[.int .u8 c, .int .i64 0])) (J1 : Says 20 #[.agg #[.int .i64 E, .int .i64 F], .agg #[.bool neg, .int .i64 ex, .int .u64 fr]] (.tuple #[.int .u64 b, .int .i64 0])) (hc1 : 1 ≤ c) (hc5 : c ≤ 5) (J2 : Says 20 #[.agg #[.int .i64 E, .int .i64 F], .agg #[.bool ng, .int .i64 x, .int .u64 fx]] (.tuple #[.int .u64 y, .int .i64 0])) (S2 : Says 10 #[.agg #[.int .i64 E, .int .i64 F], .int .u64 y] (.tuple #[.agg #[.bool ng, .int .i64 x, .int .u64 fx], .int .i64 0])) (F2 : Says 18 #[.agg #[.int .i64 E, .int .i64 F], .int .u64 y] (.int .i64 0)) (w : World) : Calls Try.prog 6 #[.agg #[.int .i64 E, .int .i64 F], .int .u64 b, .agg #[.bool ng, .int .i64 x, .int .u64 fx]] w fun e w' => e = .returned (.bool true) ∧ Below w.heap.size w w' := by
  go_enter Try.func6, Try.ntmps6
  go_wp2_with fail
  refine (awake_any _).mono ?_
  rintro e w1 ⟨rfl, hb1⟩
  have hS := (Fs.two w _ _ _ _).kept hb1
  obtain ⟨⟨z1_0_0, z1_0_1, -⟩, ⟨z1_1_0, z1_1_1, z1_1_2, -⟩, -⟩ := hS.cells
  go_wp2_with fail
  refine (F1 _).mono ?_
  rintro e w2 ⟨rfl, hb2⟩
  replace hS := hS.kept hb2
  clear z1_0_0 z1_0_1 z1_1_0 z1_1_1 z1_1_2
  obtain ⟨⟨z2_0_0, z2_0_1, -⟩, ⟨z2_1_0, z2_1_1, z2_1_2, -⟩, -⟩ := hS.cells
  go_wp2_with fail
  refine (S1 _).mono ?_
  rintro e w3 ⟨rfl, hb3⟩
  replace hS := hS.kept hb3
  clear z2_0_0 z2_0_1 z2_1_0 z2_1_1 z2_1_2
  obtain ⟨⟨z3_0_0, z3_0_1, -⟩, ⟨z3_1_0, z3_1_1, z3_1_2, -⟩, -⟩ := hS.cells
  have hlt3_0 : w.heap.size < w3.heap.size := block_lt (hS.bx ⟨w.heap.size, #[.int .i64 E, .int .i64 F], 23⟩ (by simp))
  have hlt3_1 : w.heap.size + 1 < w3.heap.size := block_lt (hS.bx ⟨w.heap.size + 1, #[.bool ng, .int .i64 x, .int .u64 fx], 27⟩ (by simp))
  replace hS := hS.alloc #[.bool neg, .int .i64 ex, .int .u64 fr] 27
  go_wp2_with fail
  refine (C1 _).mono ?_
  rintro e w4 ⟨rfl, hb4⟩
  replace hS := hS.kept hb4
  clear z3_0_0 z3_0_1 z3_1_0 z3_1_1 z3_1_2
  obtain ⟨⟨z4_0_0, z4_0_1, z4_0_2, -⟩, ⟨z4_1_0, z4_1_1, -⟩, ⟨z4_2_0, z4_2_1, z4_2_2, -⟩, -⟩ := hS.cells
  go_wp2_with fail
  refine (J1 _).mono ?_
  rintro e w5 ⟨rfl, hb5⟩
  replace hS := hS.kept hb5
  clear z4_0_0 z4_0_1 z4_0_2 z4_1_0 z4_1_1 z4_2_0 z4_2_1 z4_2_2
  obtain ⟨⟨z5_0_0, z5_0_1, z5_0_2, -⟩, ⟨z5_1_0, z5_1_1, -⟩, ⟨z5_2_0, z5_2_1, z5_2_2, -⟩, -⟩ := hS.cells
  go_wp2_with fail
  refine (J2 _).mono ?_
  rintro e w6 ⟨rfl, hb6⟩
  replace hS := hS.kept hb6
  clear z5_0_0 z5_0_1 z5_0_2 z5_1_0 z5_1_1 z5_2_0 z5_2_1 z5_2_2
  obtain ⟨⟨z6_0_0, z6_0_1, z6_0_2, -⟩, ⟨z6_1_0, z6_1_1, -⟩, ⟨z6_2_0, z6_2_1, z6_2_2, -⟩, -⟩ := hS.cells
  go_wp2_with fail
  refine (S2 _).mono ?_
  rintro e w7 ⟨rfl, hb7⟩
  replace hS := hS.kept hb7
  clear z6_0_0 z6_0_1 z6_0_2 z6_1_0 z6_1_1 z6_2_0 z6_2_1 z6_2_2
  obtain ⟨⟨z7_0_0, z7_0_1, z7_0_2, -⟩, ⟨z7_1_0, z7_1_1, -⟩, ⟨z7_2_0, z7_2_1, z7_2_2, -⟩, -⟩ := hS.cells
  have hlt7_0 : w3.heap.size < w7.heap.size := block_lt (hS.bx ⟨w3.heap.size, #[.bool neg, .int .i64 ex, .int .u64 fr], 27⟩ (by simp))
  have hlt7_1 : w.heap.size < w7.heap.size := block_lt (hS.bx ⟨w.heap.size, #[.int .i64 E, .int .i64 F], 23⟩ (by simp))
  have hlt7_2 : w.heap.size + 1 < w7.heap.size := block_lt (hS.bx ⟨w.heap.size + 1, #[.bool ng, .int .i64 x, .int .u64 fx], 27⟩ (by simp))
  replace hS := hS.alloc #[.bool ng, .int .i64 x, .int .u64 fx] 27
  go_wp2_with fail
  refine (F2 _).mono ?_
  rintro e w8 ⟨rfl, hb8⟩
  replace hS := hS.kept hb8
  clear z7_0_0 z7_0_1 z7_0_2 z7_1_0 z7_1_1 z7_2_0 z7_2_1 z7_2_2
  obtain ⟨⟨z8_0_0, z8_0_1, z8_0_2, -⟩, ⟨z8_1_0, z8_1_1, z8_1_2, -⟩, ⟨z8_2_0, z8_2_1, -⟩, ⟨z8_3_0, z8_3_1, z8_3_2, -⟩, -⟩ := hS.cells
  go_wp2
  go_ret
  exact ⟨rfl, hS.fr⟩

theorem join_cases (e f : Nat) (h : Fo e f) (x : Int) (fr : Nat) (neg : Bool) (hx : x < 9223372036854775808) :
    (Says 20 #[.agg #[.int .i64 e, .int .i64 f], .agg #[.bool neg, .int .i64 x, .int .u64 fr]] (.tuple #[.int .u64 0, .int .i64 30])) ∨ ∃ b ex : Nat, x = (ex : Int) ∧ Bt e f b neg ex fr := by
  by_cases h0 : x < 0
  · exact Or.inl (Join_neg e f fr x neg h h0)
  · obtain ⟨ex, rfl⟩ : ∃ ex : Nat, x = (ex : Int) := ⟨x.toNat, by omega⟩
    by_cases h1 : 2 ^ e ≤ ex
    · exact Or.inl (Join_exp e f ex fr neg h h1 (by omega))
    · by_cases h2 : 2 ^ f ≤ fr
      · exact Or.inl (Join_frac e f ex fr neg h (by omega) h2)
      · exact Or.inr ⟨_, ex, rfl, by omega, by omega, rfl⟩
theorem back_law (E F : Int) (b : Nat) (x : Int) (fr : Nat) (neg : Bool) (hx : x < 9223372036854775808) (w : World) : Calls Try.prog 6 #[.agg #[.int .i64 E, .int .i64 F], .int .u64 b, .agg #[.bool neg, .int .i64 x, .int .u64 fr]] w fun e w' => e = .returned (.bool true) ∧ Below w.heap.size w w' := by
  rcases fo_cases E F with hbad | ⟨e, f, rfl, rfl, h⟩
  · exact back_walk00 E F b x fr 5 5 neg (fits_bad E F hbad b) (Split_bad E F hbad b) (Class_bad E F hbad b) (by decide) (Join_bad E F hbad x fr neg) (by decide) w
  · by_cases hm : 2 ^ (f + e + 1) ≤ b
    · rcases join_cases e f h x fr neg hx with hj | ⟨y, ex, rfl, hB⟩
      · exact back_walk00 e f b x fr 6 30 neg (fits_many e f b h hm) (Split_many e f b h hm) (Class_many e f b h hm) (by decide) hj (by decide) w
      · exact back_walk01 e f b ex fr 6 y neg (fits_many e f b h hm) (Split_many e f b h hm) (Class_many e f b h hm) (by decide) (Join_ok e f y ex fr neg h hB) (Split_ok e f y ex fr neg h hB) (fits_ok e f y h hB.lt) w
    · have hD := Bt.of e f b (by omega)
      have hr := cls_range (b % 2 ^ (f + e) / 2 ^ f) (b % 2 ^ f) (2 ^ e - 1)
      rcases join_cases e f h x fr neg hx with hj | ⟨y, ex, rfl, hB⟩
      · exact back_walk10 e f b x fr _ _ _ 30 _ neg (fits_ok e f b h hD.lt) (Split_ok e f b _ _ _ h hD) (Class_ok e f b _ _ _ h hD _ (hide rfl)) (Join_ok e f b _ _ _ h hD) (by omega) (by omega) hj (by decide) w
      · exact back_walk11 e f b ex fr _ _ _ y _ neg (fits_ok e f b h hD.lt) (Split_ok e f b _ _ _ h hD) (Class_ok e f b _ _ _ h hD _ (hide rfl)) (Join_ok e f b _ _ _ h hD) (by omega) (by omega) (Join_ok e f y ex fr neg h hB) (Split_ok e f y ex fr neg h hB) (fits_ok e f y h hB.lt) w

end Go.Proofs.Ytafeioonnhnpcaa
