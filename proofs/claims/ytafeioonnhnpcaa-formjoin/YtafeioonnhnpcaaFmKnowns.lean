/- The laws FormJoin and FormKnown. -/
import Derived.Test.YtafeioonnhnpcaaFmBits
namespace Go.Proofs.Ytafeioonnhnpcaa
open Go.RowKit

set_option maxHeartbeats 400000 in
theorem join_walk (E F x fr b eb : Int) (neg : Bool) (J1 : Says 20 #[.agg #[.int .i64 E, .int .i64 F], .agg #[.bool neg, .int .i64 x, .int .u64 fr]] (.tuple #[.int .u64 b, .int .i64 eb])) (J2 : Says 21 #[.agg #[.int .i64 E, .int .i64 F], .agg #[.bool neg, .int .i64 x, .int .u64 fr]] (.tuple #[.int .u64 b, .int .i64 eb])) (w : World) : Calls Try.prog 4 #[.agg #[.int .i64 E, .int .i64 F], .agg #[.bool neg, .int .i64 x, .int .u64 fr]] w fun e w' => e = .returned (.bool true) ∧ Below w.heap.size w w' := by
  go_enter Try.func4, Try.ntmps4
  go_wp2_with fail
  refine (awake_any _).mono ?_
  rintro e w1 ⟨rfl, hb1⟩
  have hS := (Fs.two w _ _ _ _).kept hb1
  obtain ⟨⟨z1_0_0, z1_0_1, -⟩, ⟨z1_1_0, z1_1_1, z1_1_2, -⟩, -⟩ := hS.cells
  go_wp2_with fail
  refine (J1 _).mono ?_
  rintro e w2 ⟨rfl, hb2⟩
  replace hS := hS.kept hb2
  clear z1_0_0 z1_0_1 z1_1_0 z1_1_1 z1_1_2
  obtain ⟨⟨z2_0_0, z2_0_1, -⟩, ⟨z2_1_0, z2_1_1, z2_1_2, -⟩, -⟩ := hS.cells
  go_wp2_with fail
  refine (J2 _).mono ?_
  rintro e w3 ⟨rfl, hb3⟩
  replace hS := hS.kept hb3
  clear z2_0_0 z2_0_1 z2_1_0 z2_1_1 z2_1_2
  obtain ⟨⟨z3_0_0, z3_0_1, -⟩, ⟨z3_1_0, z3_1_1, z3_1_2, -⟩, -⟩ := hS.cells
  go_wp2
  go_ret
  exact ⟨rfl, hS.fr⟩

theorem join_law (E F x : Int) (fr : Nat) (neg : Bool) (hx : x < 9223372036854775808) (w : World) : Calls Try.prog 4 #[.agg #[.int .i64 E, .int .i64 F], .agg #[.bool neg, .int .i64 x, .int .u64 fr]] w fun e w' => e = .returned (.bool true) ∧ Below w.heap.size w w' := by
  rcases fo_cases E F with hbad | ⟨e, f, rfl, rfl, h⟩
  · exact join_walk E F x fr 0 5 neg (Join_bad E F hbad x fr neg) (rJoin_bad E F hbad x fr neg) w
  · by_cases h0 : x < 0
    · exact join_walk e f x fr 0 30 neg (Join_neg e f fr x neg h h0) (rJoin_neg e f fr x neg h h0) w
    · obtain ⟨ex, rfl⟩ : ∃ ex : Nat, x = (ex : Int) := ⟨x.toNat, by omega⟩
      by_cases h1 : 2 ^ e ≤ ex
      · exact join_walk e f ex fr 0 30 neg (Join_exp e f ex fr neg h h1 (by omega)) (rJoin_exp e f ex fr neg h h1) w
      · by_cases h2 : 2 ^ f ≤ fr
        · exact join_walk e f ex fr 0 30 neg (Join_frac e f ex fr neg h (by omega) h2) (rJoin_frac e f ex fr neg h (by omega) h2) w
        · have hB : Bt e f (neg.toNat * 2 ^ (f + e) + (ex * 2 ^ f + fr)) neg ex fr := ⟨by omega, by omega, rfl⟩
          exact join_walk e f ex fr _ 0 neg (Join_ok e f _ ex fr neg h hB) (rJoin_ok e f _ ex fr neg h hB) w

set_option maxRecDepth 20000 in
set_option maxHeartbeats 1000000 in
theorem known_walk (E F p b1 b2 b3 b4 b5 b6 e1 e2 e3 e4 e5 e6 e7 l m : Int) (neg : Bool) (A1 : Says 22 #[.agg #[.int .i64 E, .int .i64 F], .bool neg] (.tuple #[.int .u64 b1, .int .i64 e1])) (B1 : Says 23 #[.agg #[.int .i64 E, .int .i64 F], .bool neg] (.tuple #[.int .u64 b1, .int .i64 e1])) (A2 : Says 24 #[.agg #[.int .i64 E, .int .i64 F], .bool neg] (.tuple #[.int .u64 b2, .int .i64 e2])) (B2 : Says 25 #[.agg #[.int .i64 E, .int .i64 F], .bool neg] (.tuple #[.int .u64 b2, .int .i64 e2])) (A3 : Says 26 #[.agg #[.int .i64 E, .int .i64 F], .bool neg, .int .u64 p] (.tuple #[.int .u64 b3, .int .i64 e3])) (B3 : Says 27 #[.agg #[.int .i64 E, .int .i64 F], .bool neg, .int .u64 p] (.tuple #[.int .u64 b3, .int .i64 e3])) (A4 : Says 28 #[.agg #[.int .i64 E, .int .i64 F], .bool neg] (.tuple #[.int .u64 b4, .int .i64 e4])) (B4 : Says 29 #[.agg #[.int .i64 E, .int .i64 F], .bool neg] (.tuple #[.int .u64 b4, .int .i64 e4])) (A5 : Says 30 #[.agg #[.int .i64 E, .int .i64 F], .bool neg] (.tuple #[.int .u64 b5, .int .i64 e5])) (B5 : Says 31 #[.agg #[.int .i64 E, .int .i64 F], .bool neg] (.tuple #[.int .u64 b5, .int .i64 e5])) (A6 : Says 32 #[.agg #[.int .i64 E, .int .i64 F], .bool neg] (.tuple #[.int .u64 b6, .int .i64 e6])) (B6 : Says 33 #[.agg #[.int .i64 E, .int .i64 F], .bool neg] (.tuple #[.int .u64 b6, .int .i64 e6])) (A7 : Says 34 #[.agg #[.int .i64 E, .int .i64 F]] (.tuple #[.int .i64 l, .int .i64 m, .int .i64 e7])) (B7 : Says 35 #[.agg #[.int .i64 E, .int .i64 F]] (.tuple #[.int .i64 l, .int .i64 m, .int .i64 e7])) (w : World) : Calls Try.prog 5 #[.agg #[.int .i64 E, .int .i64 F], .bool neg, .int .u64 p] w fun e w' => e = .returned (.bool true) ∧ Below w.heap.size w w' := by
  go_enter Try.func5, Try.ntmps5
  go_wp2_with fail
  refine (awake_any _).mono ?_
  rintro e w1 ⟨rfl, hb1⟩
  have hS := (Fs.one w _ _).kept hb1
  obtain ⟨⟨z1_0_0, z1_0_1, -⟩, -⟩ := hS.cells
  go_wp2_with fail
  refine (A1 _).mono ?_
  rintro e w2 ⟨rfl, hb2⟩
  replace hS := hS.kept hb2
  clear z1_0_0 z1_0_1
  obtain ⟨⟨z2_0_0, z2_0_1, -⟩, -⟩ := hS.cells
  go_wp2_with fail
  refine (B1 _).mono ?_
  rintro e w3 ⟨rfl, hb3⟩
  replace hS := hS.kept hb3
  clear z2_0_0 z2_0_1
  obtain ⟨⟨z3_0_0, z3_0_1, -⟩, -⟩ := hS.cells
  go_wp2_with fail
  refine (A2 _).mono ?_
  rintro e w4 ⟨rfl, hb4⟩
  replace hS := hS.kept hb4
  clear z3_0_0 z3_0_1
  obtain ⟨⟨z4_0_0, z4_0_1, -⟩, -⟩ := hS.cells
  go_wp2_with fail
  refine (B2 _).mono ?_
  rintro e w5 ⟨rfl, hb5⟩
  replace hS := hS.kept hb5
  clear z4_0_0 z4_0_1
  obtain ⟨⟨z5_0_0, z5_0_1, -⟩, -⟩ := hS.cells
  go_wp2_with fail
  refine (A3 _).mono ?_
  rintro e w6 ⟨rfl, hb6⟩
  replace hS := hS.kept hb6
  clear z5_0_0 z5_0_1
  obtain ⟨⟨z6_0_0, z6_0_1, -⟩, -⟩ := hS.cells
  go_wp2_with fail
  refine (B3 _).mono ?_
  rintro e w7 ⟨rfl, hb7⟩
  replace hS := hS.kept hb7
  clear z6_0_0 z6_0_1
  obtain ⟨⟨z7_0_0, z7_0_1, -⟩, -⟩ := hS.cells
  go_wp2_with fail
  refine (A4 _).mono ?_
  rintro e w8 ⟨rfl, hb8⟩
  replace hS := hS.kept hb8
  clear z7_0_0 z7_0_1
  obtain ⟨⟨z8_0_0, z8_0_1, -⟩, -⟩ := hS.cells
  go_wp2_with fail
  refine (B4 _).mono ?_
  rintro e w9 ⟨rfl, hb9⟩
  replace hS := hS.kept hb9
  clear z8_0_0 z8_0_1
  obtain ⟨⟨z9_0_0, z9_0_1, -⟩, -⟩ := hS.cells
  go_wp2_with fail
  refine (A5 _).mono ?_
  rintro e w10 ⟨rfl, hb10⟩
  replace hS := hS.kept hb10
  clear z9_0_0 z9_0_1
  obtain ⟨⟨z10_0_0, z10_0_1, -⟩, -⟩ := hS.cells
  go_wp2_with fail
  refine (B5 _).mono ?_
  rintro e w11 ⟨rfl, hb11⟩
  replace hS := hS.kept hb11
  clear z10_0_0 z10_0_1
  obtain ⟨⟨z11_0_0, z11_0_1, -⟩, -⟩ := hS.cells
  go_wp2_with fail
  refine (A6 _).mono ?_
  rintro e w12 ⟨rfl, hb12⟩
  replace hS := hS.kept hb12
  clear z11_0_0 z11_0_1
  obtain ⟨⟨z12_0_0, z12_0_1, -⟩, -⟩ := hS.cells
  go_wp2_with fail
  refine (B6 _).mono ?_
  rintro e w13 ⟨rfl, hb13⟩
  replace hS := hS.kept hb13
  clear z12_0_0 z12_0_1
  obtain ⟨⟨z13_0_0, z13_0_1, -⟩, -⟩ := hS.cells
  go_wp2_with fail
  refine (A7 _).mono ?_
  rintro e w14 ⟨rfl, hb14⟩
  replace hS := hS.kept hb14
  clear z13_0_0 z13_0_1
  obtain ⟨⟨z14_0_0, z14_0_1, -⟩, -⟩ := hS.cells
  go_wp2_with fail
  refine (B7 _).mono ?_
  rintro e w15 ⟨rfl, hb15⟩
  replace hS := hS.kept hb15
  clear z14_0_0 z14_0_1
  obtain ⟨⟨z15_0_0, z15_0_1, -⟩, -⟩ := hS.cells
  go_wp2_with fail
  refine (brain_any _).mono ?_
  rintro e w16 ⟨rfl, hb16⟩
  replace hS := hS.kept hb16
  clear z15_0_0 z15_0_1
  obtain ⟨⟨z16_0_0, z16_0_1, -⟩, -⟩ := hS.cells
  go_wp2_with fail
  refine (single_any _).mono ?_
  rintro e w17 ⟨rfl, hb17⟩
  replace hS := hS.kept hb17
  clear z16_0_0 z16_0_1
  obtain ⟨⟨z17_0_0, z17_0_1, -⟩, -⟩ := hS.cells
  go_wp2_with fail
  refine (double_any _).mono ?_
  rintro e w18 ⟨rfl, hb18⟩
  replace hS := hS.kept hb18
  clear z17_0_0 z17_0_1
  obtain ⟨⟨z18_0_0, z18_0_1, -⟩, -⟩ := hS.cells
  go_wp2
  go_ret
  exact ⟨rfl, hS.fr⟩

theorem known_law (E F : Int) (p : Nat) (neg : Bool) (w : World) : Calls Try.prog 5 #[.agg #[.int .i64 E, .int .i64 F], .bool neg, .int .u64 p] w fun e w' => e = .returned (.bool true) ∧ Below w.heap.size w w' := by
  rcases fo_cases E F with hbad | ⟨e, f, rfl, rfl, h⟩
  · exact known_walk E F p 0 0 0 0 0 0 5 5 5 5 5 5 5 0 0 neg (Nought_bad E F hbad neg) (rNought_bad E F hbad neg) (Inf_bad E F hbad neg) (rInfinite_bad E F hbad neg) (NaN_bad E F hbad neg p) (rNone_bad E F hbad neg p)
      (Greatest_bad E F hbad neg) (rGreatest_bad E F hbad neg) (Normal_bad E F hbad neg) (rNormal_bad E F hbad neg) (Least_bad E F hbad neg) (rLeast_bad E F hbad neg) (Range_bad E F hbad) (rRange_bad E F hbad) w
  · have he := pow_bound h.e2
    have hf := pow_bound h.f1
    have hB1 : Bt e f (neg.toNat * 2 ^ (f + e) + (0 * 2 ^ f + 0)) neg 0 0 := ⟨by omega, by omega, rfl⟩
    have hB2 : Bt e f (neg.toNat * 2 ^ (f + e) + ((2 ^ e - 1) * 2 ^ f + 0)) neg (2 ^ e - 1) 0 := ⟨by omega, by omega, rfl⟩
    have hB4 : Bt e f (neg.toNat * 2 ^ (f + e) + ((2 ^ e - 2) * 2 ^ f + (2 ^ f - 1))) neg (2 ^ e - 2) (2 ^ f - 1) := ⟨by omega, by omega, rfl⟩
    have hB5 : Bt e f (neg.toNat * 2 ^ (f + e) + (1 * 2 ^ f + 0)) neg 1 0 := ⟨by omega, by omega, rfl⟩
    have hB6 : Bt e f (neg.toNat * 2 ^ (f + e) + (0 * 2 ^ f + 1)) neg 0 1 := ⟨by omega, by omega, rfl⟩
    by_cases hp : 2 ^ (f - 1) ≤ p
    · exact known_walk e f p _ _ 0 _ _ _ 0 0 30 0 0 0 0 _ _ neg (Nought_ok e f _ neg h hB1) (rNought_ok e f _ neg h hB1) (Inf_ok e f _ _ neg h hB2 (hide rfl)) (rInfinite_ok e f _ _ neg h hB2 (hide rfl))
        (NaN_many e f p neg h hp) (rNone_many e f p neg h hp) (Greatest_ok e f _ _ _ neg h hB4 (hide (by omega)) (hide rfl)) (rGreatest_ok e f _ _ _ neg h hB4 (hide (by omega)) (hide rfl))
        (Normal_ok e f _ neg h hB5) (rNormal_ok e f _ neg h hB5) (Least_ok e f _ neg h hB6) (rLeast_ok e f _ neg h hB6) (Range_ok e f _ h (hide rfl)) (rRange_ok e f _ h (hide rfl)) w
    · have hpow : 2 ^ f = 2 * 2 ^ (f - 1) := by rw [← Nat.pow_succ', Nat.succ_eq_add_one, Nat.sub_add_cancel h.f1]
      have hB3 : Bt e f (neg.toNat * 2 ^ (f + e) + ((2 ^ e - 1) * 2 ^ f + (2 ^ (f - 1) + p))) neg (2 ^ e - 1) (2 ^ (f - 1) + p) := ⟨by omega, by omega, rfl⟩
      exact known_walk e f p _ _ _ _ _ _ 0 0 0 0 0 0 0 _ _ neg (Nought_ok e f _ neg h hB1) (rNought_ok e f _ neg h hB1) (Inf_ok e f _ _ neg h hB2 (hide rfl)) (rInfinite_ok e f _ _ neg h hB2 (hide rfl))
        (NaN_ok e f _ p _ _ neg h (by omega) rfl (hide rfl) hB3) (rNone_ok e f _ p _ _ neg h (by omega) rfl (hide rfl) hB3) (Greatest_ok e f _ _ _ neg h hB4 (hide (by omega)) (hide rfl)) (rGreatest_ok e f _ _ _ neg h hB4 (hide (by omega)) (hide rfl))
        (Normal_ok e f _ neg h hB5) (rNormal_ok e f _ neg h hB5) (Least_ok e f _ neg h hB6) (rLeast_ok e f _ neg h hB6) (Range_ok e f _ h (hide rfl)) (rRange_ok e f _ h (hide rfl)) w

end Go.Proofs.Ytafeioonnhnpcaa
