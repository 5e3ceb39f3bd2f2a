/- The known floats. -/
import Derived.Test.YtafeioonnhnpcaaFmParts
namespace Go.Proofs.Ytafeioonnhnpcaa
open Go.RowKit

set_option maxHeartbeats 400000 in
theorem known_nought (E F b : Nat) (neg : Bool) (h : Fo E F) (hB : Bt E F b neg 0 0) (w : World) : Calls Try.prog 57 #[.agg #[.int .i64 E, .int .i64 F], .bool neg, .func (Fn.func 58) #[] #[]] w fun e w' => e = .returned (.tuple #[.int .u64 b, .int .i64 0]) ∧ Below w.heap.size w w' := by
  have HB := hide hB
  clear hB
  go_enter Try.func57, Try.ntmps57
  go_wp2_with fail
  refine (check_ok _ _ _ h).mono ?_
  rintro e w1 ⟨rfl, hb1⟩
  have hS := (Fs.one w _ _).kept hb1
  obtain ⟨⟨z1_0_0, z1_0_1, -⟩, -⟩ := hS.cells
  go_wp2_with fail
  refine (noughtParts_any _ _ _).mono ?_
  rintro e w2 ⟨rfl, hb2⟩
  replace hS := hS.kept hb2
  clear z1_0_0 z1_0_1
  obtain ⟨⟨z2_0_0, z2_0_1, -⟩, -⟩ := hS.cells
  have hlt : w.heap.size < w2.heap.size := block_lt (hS.bx ⟨w.heap.size, #[.int .i64 E, .int .i64 F], 23⟩ (by simp))
  replace hS := hS.kept (gr_alloc w2 (.cells #[.bool neg, .int .i64 0, .int .u64 0] 27))
  go_wp2_with fail
  refine (join_any _ _ b 0 0 neg _ h (unhide HB)).mono ?_
  rintro e w3 ⟨rfl, hb3⟩
  replace hS := hS.kept hb3
  go_wp2
  go_ret2
  exact ⟨rfl, hS.fr⟩

set_option maxHeartbeats 400000 in
theorem Nought_ok (E F b : Nat) (neg : Bool) (h : Fo E F) (hB : Bt E F b neg 0 0) (w : World) : Calls Try.prog 22 #[.agg #[.int .i64 E, .int .i64 F], .bool neg] w fun e w' => e = .returned (.tuple #[.int .u64 b, .int .i64 0]) ∧ Below w.heap.size w w' := by
  have HB := hide hB
  clear hB
  go_enter Try.func22, Try.ntmps22
  go_wp2_with fail
  refine (known_nought _ _ b neg h (unhide HB) _).mono ?_
  rintro e w1 ⟨rfl, hb1⟩
  have hS := (Fs.one w _ _).kept hb1
  obtain ⟨⟨z1_0_0, z1_0_1, -⟩, -⟩ := hS.cells
  go_wp2
  go_ret2
  exact ⟨rfl, hS.fr⟩

set_option maxHeartbeats 400000 in
theorem known_nought_bad (E F : Int) (hbad : NoFo E F) (neg : Bool) (w : World) : Calls Try.prog 57 #[.agg #[.int .i64 E, .int .i64 F], .bool neg, .func (Fn.func 58) #[] #[]] w fun e w' => e = .returned (.tuple #[.int .u64 0, .int .i64 5]) ∧ Below w.heap.size w w' := by
  have HB := hide hbad
  clear hbad
  go_enter Try.func57, Try.ntmps57
  go_wp2_with fail
  refine (check_bad _ _ _ (unhide HB)).mono ?_
  rintro e w1 ⟨rfl, hb1⟩
  have hS := (Fs.one w _ _).kept hb1
  obtain ⟨⟨z1_0_0, z1_0_1, -⟩, -⟩ := hS.cells
  go_wp2
  go_ret2
  exact ⟨rfl, hS.fr⟩

set_option maxHeartbeats 400000 in
theorem Nought_bad (E F : Int) (hbad : NoFo E F) (neg : Bool) (w : World) : Calls Try.prog 22 #[.agg #[.int .i64 E, .int .i64 F], .bool neg] w fun e w' => e = .returned (.tuple #[.int .u64 0, .int .i64 5]) ∧ Below w.heap.size w w' := by
  have HB := hide hbad
  clear hbad
  go_enter Try.func22, Try.ntmps22
  go_wp2_with fail
  refine (known_nought_bad _ _ (unhide HB) _ _).mono ?_
  rintro e w1 ⟨rfl, hb1⟩
  have hS := (Fs.one w _ _).kept hb1
  obtain ⟨⟨z1_0_0, z1_0_1, -⟩, -⟩ := hS.cells
  go_wp2
  go_ret2
  exact ⟨rfl, hS.fr⟩

set_option maxHeartbeats 400000 in
theorem known_normal (E F b : Nat) (neg : Bool) (h : Fo E F) (hB : Bt E F b neg 1 0) (w : World) : Calls Try.prog 57 #[.agg #[.int .i64 E, .int .i64 F], .bool neg, .func (Fn.func 62) #[] #[]] w fun e w' => e = .returned (.tuple #[.int .u64 b, .int .i64 0]) ∧ Below w.heap.size w w' := by
  have HB := hide hB
  clear hB
  go_enter Try.func57, Try.ntmps57
  go_wp2_with fail
  refine (check_ok _ _ _ h).mono ?_
  rintro e w1 ⟨rfl, hb1⟩
  have hS := (Fs.one w _ _).kept hb1
  obtain ⟨⟨z1_0_0, z1_0_1, -⟩, -⟩ := hS.cells
  go_wp2_with fail
  refine (normalParts_any _ _ _).mono ?_
  rintro e w2 ⟨rfl, hb2⟩
  replace hS := hS.kept hb2
  clear z1_0_0 z1_0_1
  obtain ⟨⟨z2_0_0, z2_0_1, -⟩, -⟩ := hS.cells
  have hlt : w.heap.size < w2.heap.size := block_lt (hS.bx ⟨w.heap.size, #[.int .i64 E, .int .i64 F], 23⟩ (by simp))
  replace hS := hS.kept (gr_alloc w2 (.cells #[.bool neg, .int .i64 1, .int .u64 0] 27))
  go_wp2_with fail
  refine (join_any _ _ b 1 0 neg _ h (unhide HB)).mono ?_
  rintro e w3 ⟨rfl, hb3⟩
  replace hS := hS.kept hb3
  go_wp2
  go_ret2
  exact ⟨rfl, hS.fr⟩

set_option maxHeartbeats 400000 in
theorem Normal_ok (E F b : Nat) (neg : Bool) (h : Fo E F) (hB : Bt E F b neg 1 0) (w : World) : Calls Try.prog 30 #[.agg #[.int .i64 E, .int .i64 F], .bool neg] w fun e w' => e = .returned (.tuple #[.int .u64 b, .int .i64 0]) ∧ Below w.heap.size w w' := by
  have HB := hide hB
  clear hB
  go_enter Try.func30, Try.ntmps30
  go_wp2_with fail
  refine (known_normal _ _ b neg h (unhide HB) _).mono ?_
  rintro e w1 ⟨rfl, hb1⟩
  have hS := (Fs.one w _ _).kept hb1
  obtain ⟨⟨z1_0_0, z1_0_1, -⟩, -⟩ := hS.cells
  go_wp2
  go_ret2
  exact ⟨rfl, hS.fr⟩

set_option maxHeartbeats 400000 in
theorem known_normal_bad (E F : Int) (hbad : NoFo E F) (neg : Bool) (w : World) : Calls Try.prog 57 #[.agg #[.int .i64 E, .int .i64 F], .bool neg, .func (Fn.func 62) #[] #[]] w fun e w' => e = .returned (.tuple #[.int .u64 0, .int .i64 5]) ∧ Below w.heap.size w w' := by
  have HB := hide hbad
  clear hbad
  go_enter Try.func57, Try.ntmps57
  go_wp2_with fail
  refine (check_bad _ _ _ (unhide HB)).mono ?_
  rintro e w1 ⟨rfl, hb1⟩
  have hS := (Fs.one w _ _).kept hb1
  obtain ⟨⟨z1_0_0, z1_0_1, -⟩, -⟩ := hS.cells
  go_wp2
  go_ret2
  exact ⟨rfl, hS.fr⟩

set_option maxHeartbeats 400000 in
theorem Normal_bad (E F : Int) (hbad : NoFo E F) (neg : Bool) (w : World) : Calls Try.prog 30 #[.agg #[.int .i64 E, .int .i64 F], .bool neg] w fun e w' => e = .returned (.tuple #[.int .u64 0, .int .i64 5]) ∧ Below w.heap.size w w' := by
  have HB := hide hbad
  clear hbad
  go_enter Try.func30, Try.ntmps30
  go_wp2_with fail
  refine (known_normal_bad _ _ (unhide HB) _ _).mono ?_
  rintro e w1 ⟨rfl, hb1⟩
  have hS := (Fs.one w _ _).kept hb1
  obtain ⟨⟨z1_0_0, z1_0_1, -⟩, -⟩ := hS.cells
  go_wp2
  go_ret2
  exact ⟨rfl, hS.fr⟩

set_option maxHeartbeats 400000 in
theorem known_least (E F b : Nat) (neg : Bool) (h : Fo E F) (hB : Bt E F b neg 0 1) (w : World) : Calls Try.prog 57 #[.agg #[.int .i64 E, .int .i64 F], .bool neg, .func (Fn.func 63) #[] #[]] w fun e w' => e = .returned (.tuple #[.int .u64 b, .int .i64 0]) ∧ Below w.heap.size w w' := by
  have HB := hide hB
  clear hB
  go_enter Try.func57, Try.ntmps57
  go_wp2_with fail
  refine (check_ok _ _ _ h).mono ?_
  rintro e w1 ⟨rfl, hb1⟩
  have hS := (Fs.one w _ _).kept hb1
  obtain ⟨⟨z1_0_0, z1_0_1, -⟩, -⟩ := hS.cells
  go_wp2_with fail
  refine (leastParts_any _ _ _).mono ?_
  rintro e w2 ⟨rfl, hb2⟩
  replace hS := hS.kept hb2
  clear z1_0_0 z1_0_1
  obtain ⟨⟨z2_0_0, z2_0_1, -⟩, -⟩ := hS.cells
  have hlt : w.heap.size < w2.heap.size := block_lt (hS.bx ⟨w.heap.size, #[.int .i64 E, .int .i64 F], 23⟩ (by simp))
  replace hS := hS.kept (gr_alloc w2 (.cells #[.bool neg, .int .i64 0, .int .u64 1] 27))
  go_wp2_with fail
  refine (join_any _ _ b 0 1 neg _ h (unhide HB)).mono ?_
  rintro e w3 ⟨rfl, hb3⟩
  replace hS := hS.kept hb3
  go_wp2
  go_ret2
  exact ⟨rfl, hS.fr⟩

set_option maxHeartbeats 400000 in
theorem Least_ok (E F b : Nat) (neg : Bool) (h : Fo E F) (hB : Bt E F b neg 0 1) (w : World) : Calls Try.prog 32 #[.agg #[.int .i64 E, .int .i64 F], .bool neg] w fun e w' => e = .returned (.tuple #[.int .u64 b, .int .i64 0]) ∧ Below w.heap.size w w' := by
  have HB := hide hB
  clear hB
  go_enter Try.func32, Try.ntmps32
  go_wp2_with fail
  refine (known_least _ _ b neg h (unhide HB) _).mono ?_
  rintro e w1 ⟨rfl, hb1⟩
  have hS := (Fs.one w _ _).kept hb1
  obtain ⟨⟨z1_0_0, z1_0_1, -⟩, -⟩ := hS.cells
  go_wp2
  go_ret2
  exact ⟨rfl, hS.fr⟩

set_option maxHeartbeats 400000 in
theorem known_least_bad (E F : Int) (hbad : NoFo E F) (neg : Bool) (w : World) : Calls Try.prog 57 #[.agg #[.int .i64 E, .int .i64 F], .bool neg, .func (Fn.func 63) #[] #[]] w fun e w' => e = .returned (.tuple #[.int .u64 0, .int .i64 5]) ∧ Below w.heap.size w w' := by
  have HB := hide hbad
  clear hbad
  go_enter Try.func57, Try.ntmps57
  go_wp2_with fail
  refine (check_bad _ _ _ (unhide HB)).mono ?_
  rintro e w1 ⟨rfl, hb1⟩
  have hS := (Fs.one w _ _).kept hb1
  obtain ⟨⟨z1_0_0, z1_0_1, -⟩, -⟩ := hS.cells
  go_wp2
  go_ret2
  exact ⟨rfl, hS.fr⟩

set_option maxHeartbeats 400000 in
theorem Least_bad (E F : Int) (hbad : NoFo E F) (neg : Bool) (w : World) : Calls Try.prog 32 #[.agg #[.int .i64 E, .int .i64 F], .bool neg] w fun e w' => e = .returned (.tuple #[.int .u64 0, .int .i64 5]) ∧ Below w.heap.size w w' := by
  have HB := hide hbad
  clear hbad
  go_enter Try.func32, Try.ntmps32
  go_wp2_with fail
  refine (known_least_bad _ _ (unhide HB) _ _).mono ?_
  rintro e w1 ⟨rfl, hb1⟩
  have hS := (Fs.one w _ _).kept hb1
  obtain ⟨⟨z1_0_0, z1_0_1, -⟩, -⟩ := hS.cells
  go_wp2
  go_ret2
  exact ⟨rfl, hS.fr⟩

set_option maxHeartbeats 400000 in
theorem known_inf (E F b m1 : Nat) (neg : Bool) (h : Fo E F) (hB : Bt E F b neg m1 0) (hm : Hid (m1 = 2 ^ E - 1)) (w : World) : Calls Try.prog 57 #[.agg #[.int .i64 E, .int .i64 F], .bool neg, .func (Fn.func 60) #[] #[]] w fun e w' => e = .returned (.tuple #[.int .u64 b, .int .i64 0]) ∧ Below w.heap.size w w' := by
  have HB := hide hB
  clear hB
  go_enter Try.func57, Try.ntmps57
  go_wp2_with fail
  refine (check_ok _ _ _ h).mono ?_
  rintro e w1 ⟨rfl, hb1⟩
  have hS := (Fs.one w _ _).kept hb1
  obtain ⟨⟨z1_0_0, z1_0_1, -⟩, -⟩ := hS.cells
  go_wp2_with fail
  refine (infParts_any _ _ m1 h hm _).mono ?_
  rintro e w2 ⟨rfl, hb2⟩
  replace hS := hS.kept hb2
  clear z1_0_0 z1_0_1
  obtain ⟨⟨z2_0_0, z2_0_1, -⟩, -⟩ := hS.cells
  have hlt : w.heap.size < w2.heap.size := block_lt (hS.bx ⟨w.heap.size, #[.int .i64 E, .int .i64 F], 23⟩ (by simp))
  replace hS := hS.kept (gr_alloc w2 (.cells #[.bool neg, .int .i64 m1, .int .u64 0] 27))
  go_wp2_with fail
  refine (join_any _ _ b m1 0 neg _ h (unhide HB)).mono ?_
  rintro e w3 ⟨rfl, hb3⟩
  replace hS := hS.kept hb3
  go_wp2
  go_ret2
  exact ⟨rfl, hS.fr⟩

set_option maxHeartbeats 400000 in
theorem Inf_ok (E F b m1 : Nat) (neg : Bool) (h : Fo E F) (hB : Bt E F b neg m1 0) (hm : Hid (m1 = 2 ^ E - 1)) (w : World) : Calls Try.prog 24 #[.agg #[.int .i64 E, .int .i64 F], .bool neg] w fun e w' => e = .returned (.tuple #[.int .u64 b, .int .i64 0]) ∧ Below w.heap.size w w' := by
  have HB := hide hB
  clear hB
  go_enter Try.func24, Try.ntmps24
  go_wp2_with fail
  refine (known_inf _ _ b m1 neg h (unhide HB) hm _).mono ?_
  rintro e w1 ⟨rfl, hb1⟩
  have hS := (Fs.one w _ _).kept hb1
  obtain ⟨⟨z1_0_0, z1_0_1, -⟩, -⟩ := hS.cells
  go_wp2
  go_ret2
  exact ⟨rfl, hS.fr⟩

set_option maxHeartbeats 400000 in
theorem known_inf_bad (E F : Int) (hbad : NoFo E F) (neg : Bool) (w : World) : Calls Try.prog 57 #[.agg #[.int .i64 E, .int .i64 F], .bool neg, .func (Fn.func 60) #[] #[]] w fun e w' => e = .returned (.tuple #[.int .u64 0, .int .i64 5]) ∧ Below w.heap.size w w' := by
  have HB := hide hbad
  clear hbad
  go_enter Try.func57, Try.ntmps57
  go_wp2_with fail
  refine (check_bad _ _ _ (unhide HB)).mono ?_
  rintro e w1 ⟨rfl, hb1⟩
  have hS := (Fs.one w _ _).kept hb1
  obtain ⟨⟨z1_0_0, z1_0_1, -⟩, -⟩ := hS.cells
  go_wp2
  go_ret2
  exact ⟨rfl, hS.fr⟩

set_option maxHeartbeats 400000 in
theorem Inf_bad (E F : Int) (hbad : NoFo E F) (neg : Bool) (w : World) : Calls Try.prog 24 #[.agg #[.int .i64 E, .int .i64 F], .bool neg] w fun e w' => e = .returned (.tuple #[.int .u64 0, .int .i64 5]) ∧ Below w.heap.size w w' := by
  have HB := hide hbad
  clear hbad
  go_enter Try.func24, Try.ntmps24
  go_wp2_with fail
  refine (known_inf_bad _ _ (unhide HB) _ _).mono ?_
  rintro e w1 ⟨rfl, hb1⟩
  have hS := (Fs.one w _ _).kept hb1
  obtain ⟨⟨z1_0_0, z1_0_1, -⟩, -⟩ := hS.cells
  go_wp2
  go_ret2
  exact ⟨rfl, hS.fr⟩

set_option maxHeartbeats 400000 in
theorem known_greatest (E F b m1 m0 : Nat) (neg : Bool) (h : Fo E F) (hB : Bt E F b neg m1 m0) (hm : Hid (m1 + 1 = 2 ^ E - 1)) (hm0 : Hid (m0 = 2 ^ F - 1)) (w : World) : Calls Try.prog 57 #[.agg #[.int .i64 E, .int .i64 F], .bool neg, .func (Fn.func 61) #[] #[]] w fun e w' => e = .returned (.tuple #[.int .u64 b, .int .i64 0]) ∧ Below w.heap.size w w' := by
  have HB := hide hB
  clear hB
  go_enter Try.func57, Try.ntmps57
  go_wp2_with fail
  refine (check_ok _ _ _ h).mono ?_
  rintro e w1 ⟨rfl, hb1⟩
  have hS := (Fs.one w _ _).kept hb1
  obtain ⟨⟨z1_0_0, z1_0_1, -⟩, -⟩ := hS.cells
  go_wp2_with fail
  refine (greatestParts_any _ _ m1 m0 h hm hm0 _).mono ?_
  rintro e w2 ⟨rfl, hb2⟩
  replace hS := hS.kept hb2
  clear z1_0_0 z1_0_1
  obtain ⟨⟨z2_0_0, z2_0_1, -⟩, -⟩ := hS.cells
  have hlt : w.heap.size < w2.heap.size := block_lt (hS.bx ⟨w.heap.size, #[.int .i64 E, .int .i64 F], 23⟩ (by simp))
  replace hS := hS.kept (gr_alloc w2 (.cells #[.bool neg, .int .i64 m1, .int .u64 m0] 27))
  go_wp2_with fail
  refine (join_any _ _ b m1 m0 neg _ h (unhide HB)).mono ?_
  rintro e w3 ⟨rfl, hb3⟩
  replace hS := hS.kept hb3
  go_wp2
  go_ret2
  exact ⟨rfl, hS.fr⟩

set_option maxHeartbeats 400000 in
theorem Greatest_ok (E F b m1 m0 : Nat) (neg : Bool) (h : Fo E F) (hB : Bt E F b neg m1 m0) (hm : Hid (m1 + 1 = 2 ^ E - 1)) (hm0 : Hid (m0 = 2 ^ F - 1)) (w : World) : Calls Try.prog 28 #[.agg #[.int .i64 E, .int .i64 F], .bool neg] w fun e w' => e = .returned (.tuple #[.int .u64 b, .int .i64 0]) ∧ Below w.heap.size w w' := by
  have HB := hide hB
  clear hB
  go_enter Try.func28, Try.ntmps28
  go_wp2_with fail
  refine (known_greatest _ _ b m1 m0 neg h (unhide HB) hm hm0 _).mono ?_
  rintro e w1 ⟨rfl, hb1⟩
  have hS := (Fs.one w _ _).kept hb1
  obtain ⟨⟨z1_0_0, z1_0_1, -⟩, -⟩ := hS.cells
  go_wp2
  go_ret2
  exact ⟨rfl, hS.fr⟩

set_option maxHeartbeats 400000 in
theorem known_greatest_bad (E F : Int) (hbad : NoFo E F) (neg : Bool) (w : World) : Calls Try.prog 57 #[.agg #[.int .i64 E, .int .i64 F], .bool neg, .func (Fn.func 61) #[] #[]] w fun e w' => e = .returned (.tuple #[.int .u64 0, .int .i64 5]) ∧ Below w.heap.size w w' := by
  have HB := hide hbad
  clear hbad
  go_enter Try.func57, Try.ntmps57
  go_wp2_with fail
  refine (check_bad _ _ _ (unhide HB)).mono ?_
  rintro e w1 ⟨rfl, hb1⟩
  have hS := (Fs.one w _ _).kept hb1
  obtain ⟨⟨z1_0_0, z1_0_1, -⟩, -⟩ := hS.cells
  go_wp2
  go_ret2
  exact ⟨rfl, hS.fr⟩

set_option maxHeartbeats 400000 in
theorem Greatest_bad (E F : Int) (hbad : NoFo E F) (neg : Bool) (w : World) : Calls Try.prog 28 #[.agg #[.int .i64 E, .int .i64 F], .bool neg] w fun e w' => e = .returned (.tuple #[.int .u64 0, .int .i64 5]) ∧ Below w.heap.size w w' := by
  have HB := hide hbad
  clear hbad
  go_enter Try.func28, Try.ntmps28
  go_wp2_with fail
  refine (known_greatest_bad _ _ (unhide HB) _ _).mono ?_
  rintro e w1 ⟨rfl, hb1⟩
  have hS := (Fs.one w _ _).kept hb1
  obtain ⟨⟨z1_0_0, z1_0_1, -⟩, -⟩ := hS.cells
  go_wp2
  go_ret2
  exact ⟨rfl, hS.fr⟩

set_option maxHeartbeats 400000 in
theorem NaN_bad (E F : Int) (hbad : NoFo E F) (neg : Bool) (p : Int) (w : World) : Calls Try.prog 26 #[.agg #[.int .i64 E, .int .i64 F], .bool neg, .int .u64 p] w fun e w' => e = .returned (.tuple #[.int .u64 0, .int .i64 5]) ∧ Below w.heap.size w w' := by
  have HB := hide hbad
  clear hbad
  go_enter Try.func26, Try.ntmps26
  go_wp2_with fail
  refine (check_bad _ _ _ (unhide HB)).mono ?_
  rintro e w1 ⟨rfl, hb1⟩
  have hS := (Fs.one w _ _).kept hb1
  obtain ⟨⟨z1_0_0, z1_0_1, -⟩, -⟩ := hS.cells
  go_wp2
  go_ret2
  exact ⟨rfl, hS.fr⟩

set_option maxHeartbeats 400000 in
theorem NaN_many (E F p : Nat) (neg : Bool) (h : Fo E F) (hp : 2 ^ (F - 1) ≤ p) (w : World) : Calls Try.prog 26 #[.agg #[.int .i64 E, .int .i64 F], .bool neg, .int .u64 p] w fun e w' => e = .returned (.tuple #[.int .u64 0, .int .i64 30]) ∧ Below w.heap.size w w' := by
  obtain ⟨m, hm⟩ : ∃ m, m = 2 ^ (F - 1) := ⟨_, rfl⟩
  have HM := hide hm
  have hpm : m ≤ p := by omega
  clear hm hp
  go_enter Try.func26, Try.ntmps26
  go_wp2_with fail
  refine (check_ok _ _ _ h).mono ?_
  rintro e w1 ⟨rfl, hb1⟩
  have hS := (Fs.one w _ _).kept hb1
  obtain ⟨⟨z1_0_0, z1_0_1, -⟩, -⟩ := hS.cells
  go_wp2_with fail
  refine (quiet_any _ _ m _ h HM).mono ?_
  rintro e w2 ⟨rfl, hb2⟩
  replace hS := hS.kept hb2
  clear z1_0_0 z1_0_1
  obtain ⟨⟨z2_0_0, z2_0_1, -⟩, -⟩ := hS.cells
  go_wp2
  go_ret2
  exact ⟨rfl, hS.fr⟩

set_option maxHeartbeats 400000 in
theorem NaN_ok (E F b p m1 fr : Nat) (neg : Bool) (h : Fo E F) (hp : p < 2 ^ (F - 1)) (hfr : fr = 2 ^ (F - 1) + p) (hm1 : Hid (m1 = 2 ^ E - 1)) (hB : Bt E F b neg m1 fr) (w : World) : Calls Try.prog 26 #[.agg #[.int .i64 E, .int .i64 F], .bool neg, .int .u64 p] w fun e w' => e = .returned (.tuple #[.int .u64 b, .int .i64 0]) ∧ Below w.heap.size w w' := by
  obtain ⟨m, hm⟩ : ∃ m, m = 2 ^ (F - 1) := ⟨_, rfl⟩
  have HM := hide hm
  have hpm : p < m := by omega
  have hor : Go.bits .or .u64 (m : Int) (p : Int) = (fr : Int) := by
    rw [hfr, ← hm]
    exact or_u64 m p (F - 1) 1 (by rw [hm]; simp) hp (by rw [hm, ← hfr]; have := hB.fr64 h; omega)
  have HB := hide hB
  clear hm hp hfr hB
  go_enter Try.func26, Try.ntmps26
  go_wp2_with fail
  refine (check_ok _ _ _ h).mono ?_
  rintro e w1 ⟨rfl, hb1⟩
  have hS := (Fs.one w _ _).kept hb1
  obtain ⟨⟨z1_0_0, z1_0_1, -⟩, -⟩ := hS.cells
  go_wp2_with fail
  refine (quiet_any _ _ m _ h HM).mono ?_
  rintro e w2 ⟨rfl, hb2⟩
  replace hS := hS.kept hb2
  clear z1_0_0 z1_0_1
  obtain ⟨⟨z2_0_0, z2_0_1, -⟩, -⟩ := hS.cells
  go_wp2_with fail
  refine wp_region_any (by kernel_rfl) ?_
  refine wpAny_det [some (23, .agg #[.int .i64 E, .int .i64 F]), some (24, .bool neg), some (25, .agg #[.int .i64 E, .int .i64 F]), some (26, .int .i64 m1), some (27, .int .u64 fr), some (28, .agg #[.bool neg, .int .i64 m1, .int .u64 fr]), some (29, .int .u64 b), some (6, .int .u64 b), some (7, .int .i64 0)]
    (fun _ W9 => Fs w W9 [⟨w.heap.size, #[.int .i64 E, .int .i64 F], 23⟩]) _ _ rfl (by kernel_rfl) rfl rfl ?_ ?_ (hS).drew
  · intro l9 t9 W9 i9 hD hi9 hl9 hM
    obtain ⟨o9, ho9, hd9⟩ := (mem_ready.1 hi9).2
    have hin9 : i9 < 9 := by
      by_cases h : i9 < 9
      · exact h
      · rw [Array.getElem?_eq_none (by rw [hD.len]; simp; omega)] at hl9; cases hl9
    have hcase : i9 = 0 ∨ i9 = 1 ∨ i9 = 2 ∨ i9 = 3 ∨ i9 = 4 ∨ i9 = 5 ∨ i9 = 6 ∨ i9 = 7 ∨ i9 = 8 := by omega
    clear hin9
    rcases hcase with rfl | rfl | rfl | rfl | rfl | rfl | rfl | rfl | rfl
    · cases ho9
      have r3 := hD.old 3 _ rfl rfl
      have hM0 := hM
      have c9_0 := hM0.cellAt (b := w.heap.size) (cs := #[.int .i64 E, .int .i64 F]) (t := 23) (by simp) 0 _ rfl
      have c9_1 := hM0.cellAt (b := w.heap.size) (cs := #[.int .i64 E, .int .i64 F]) (t := 23) (by simp) 1 _ rfl
      clear hM0
      clear hD hd9 hi9
      refine wpOp_step rfl (fun K hK => ?_)
      go_simp
      exact hK _ _ ⟨rfl, hM⟩
    · cases ho9
      have r1 := hD.old 1 _ rfl rfl
      clear hD hd9 hi9
      refine wpOp_step rfl (fun K hK => ?_)
      go_simp
      exact hK _ _ ⟨rfl, hM⟩
    · cases ho9
      have r3 := hD.old 3 _ rfl rfl
      have hM0 := hM
      have c9_0 := hM0.cellAt (b := w.heap.size) (cs := #[.int .i64 E, .int .i64 F]) (t := 23) (by simp) 0 _ rfl
      have c9_1 := hM0.cellAt (b := w.heap.size) (cs := #[.int .i64 E, .int .i64 F]) (t := 23) (by simp) 1 _ rfl
      clear hM0
      clear hD hd9 hi9
      refine wpOp_step rfl (fun K hK => ?_)
      go_simp
      exact hK _ _ ⟨rfl, hM⟩
    · cases ho9
      have r25 := hD.on 2 25 _ rfl (getD_true (hd9 ⟨2, .data⟩ (by simp) rfl))
      clear hD hd9 hi9
      refine wpOp_step rfl (fun K hK => ?_)
      go_simp
      go_wp2_with fail
      refine (lastExp_any _ _ m1 _ h hm1).mono ?_
      rintro en w9 ⟨rfl, hb9⟩
      exact hK _ _ ⟨rfl, hM.kept hb9⟩
    · cases ho9
      have r9 := hD.old 9 _ rfl rfl
      clear hD hd9 hi9
      refine wpOp_step rfl (fun K hK => ?_)
      go_simp
      exact hK _ _ ⟨rfl, hM⟩
    · cases ho9
      have r24 := hD.on 1 24 _ rfl (getD_true (hd9 ⟨1, .data⟩ (by simp) rfl))
      have r26 := hD.on 3 26 _ rfl (getD_true (hd9 ⟨3, .data⟩ (by simp) rfl))
      have r27 := hD.on 4 27 _ rfl (getD_true (hd9 ⟨4, .data⟩ (by simp) rfl))
      clear hD hd9 hi9
      refine wpOp_step rfl (fun K hK => ?_)
      go_simp
      exact hK _ _ ⟨rfl, hM⟩
    · cases ho9
      have r23 := hD.on 0 23 _ rfl (getD_true (hd9 ⟨0, .data⟩ (by simp) rfl))
      have r28 := hD.on 5 28 _ rfl (getD_true (hd9 ⟨5, .data⟩ (by simp) rfl))
      clear hD hd9 hi9
      refine wpOp_step rfl (fun K hK => ?_)
      go_simp
      go_wp2_with fail
      refine (join_any _ _ b m1 fr neg _ h (unhide HB)).mono ?_
      rintro en w9 ⟨rfl, hb9⟩
      exact hK _ _ ⟨rfl, hM.kept hb9⟩
    · cases ho9
      have r29 := hD.on 6 29 _ rfl (getD_true (hd9 ⟨6, .data⟩ (by simp) rfl))
      clear hD hd9 hi9
      refine wpOp_step rfl (fun K hK => ?_)
      go_simp
      exact hK _ _ ⟨rfl, hM⟩
    · cases ho9
      clear hD hd9 hi9
      refine wpOp_step rfl (fun K hK => ?_)
      go_simp
      exact hK _ _ ⟨rfl, hM⟩
  · intro l9 W9 hl9 hM
    clear hl9
    clear hS z2_0_0 z2_0_1
    have hS := hM
    clear hM
    simp only [Puts.lay, List.setIfInBounds_toArray, List.set_cons_zero, List.set_cons_succ]
    obtain ⟨⟨z3_0_0, z3_0_1, -⟩, -⟩ := hS.cells
    go_wp2
    go_ret2
    exact ⟨rfl, hS.fr⟩

end Go.Proofs.Ytafeioonnhnpcaa
