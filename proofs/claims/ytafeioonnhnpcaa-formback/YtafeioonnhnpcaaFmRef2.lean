/- The document on Join. -/
import Derived.Test.YtafeioonnhnpcaaFmRef1
namespace Go.Proofs.Ytafeioonnhnpcaa
open Go.RowKit

set_option maxHeartbeats 400000 in
theorem rJoin_ok (E F b ex fr : Nat) (neg : Bool) (h : Fo E F) (hB : Bt E F b neg ex fr) (w : World) : Calls Try.prog 21 #[.agg #[.int .i64 E, .int .i64 F], .agg #[.bool neg, .int .i64 ex, .int .u64 fr]] w fun e w' => e = .returned (.tuple #[.int .u64 b, .int .i64 0]) ∧ Below w.heap.size w w' := by
  obtain ⟨m1, hm1⟩ : ∃ m1, m1 = 2 ^ E - 1 := ⟨_, rfl⟩
  obtain ⟨pF, hpF⟩ : ∃ p, p = 2 ^ F := ⟨_, rfl⟩
  have HM1 := hide hm1
  have HPF := hide hpF
  have hpE := pow_pos2 E
  have h52 := h.f52
  have HB := hide hB
  have hx := hB.ex_lt
  have hf := hB.fr_lt
  have hexl := hB.ex64 h
  have hx1 : ex ≤ m1 := by omega
  have hf1 : fr < pF := by omega
  have hlow := hB.low
  have hl63 := pow_bound h.sum
  obtain ⟨t, ht⟩ : ∃ t, t = ex * pF := ⟨_, rfl⟩
  obtain ⟨u, hu⟩ : ∃ u, u = t + fr := ⟨_, rfl⟩
  have hu63 : u < 9223372036854775808 := by rw [hu, ht, hpF]; omega
  have HT : Hid ((ex : Int) * (pF : Int) = (t : Int)) := hide (by rw [ht]; simp)
  have ht63 : t < 9223372036854775808 := by omega
  have HU : Hid (u = t + fr) := hide hu
  obtain ⟨n, hn0⟩ : ∃ n, n = F + E := ⟨_, rfl⟩
  have hn : (E : Int) + (F : Int) = (n : Int) := by omega
  have hn63 : n ≤ 63 := by have := h.sum; omega
  obtain ⟨p, hp⟩ : ∃ p, p = 2 ^ n := ⟨_, rfl⟩
  have HP := hide hp
  have hpl : p ≤ 9223372036854775808 := by rw [hp, hn0]; omega
  have hb : b = neg.toNat * p + u := by rw [hp, hn0, hu, ht, hpF]; exact hB.eq
  have h11 := h.e11
  clear hB hm1 hpE hx hf hlow hl63 ht hu hn0 hp hpF
  cases neg
  case false =>
    obtain rfl : b = u := by rw [hb]; simp
    clear hb hpl HP
    go_enter Try.func21, Try.ntmps21
    go_wp2_with fail
    refine (rcheck_ok _ _ _ h).mono ?_
    rintro e w1 ⟨rfl, hb1⟩
    have hS := (Fs.two w _ _ _ _).kept hb1
    obtain ⟨⟨z1_0_0, z1_0_1, -⟩, ⟨z1_1_0, z1_1_1, z1_1_2, -⟩, -⟩ := hS.cells
    go_wp2_with fail
    refine wp_region_any (by kernel_rfl) ?_
    refine wpAny_det [some (10, .pointer (some ⟨w.heap.size + 1, 1, none⟩)), some (11, .int .i64 ex), some (12, .bool false), some (13, .bool false), some (14, .pointer (some ⟨w.heap.size + 1, 1, none⟩)), some (15, .int .i64 ex), some (16, .agg #[.int .i64 E, .int .i64 F]), some (17, .int .i64 m1), some (18, .bool false), some (19, .bool false), some (20, .bool false), some (21, .pointer (some ⟨w.heap.size + 1, 2, none⟩)), some (22, .int .u64 fr), some (23, .pointer (some ⟨w.heap.size, 1, none⟩)), some (24, .int .i64 F), some (25, .int .u64 pF), some (26, .bool false), some (27, .bool false)]
      (fun _ W9 => Fs w W9 [⟨w.heap.size, #[.int .i64 E, .int .i64 F], 23⟩, ⟨w.heap.size + 1, #[.bool false, .int .i64 ex, .int .u64 fr], 27⟩]) _ _ rfl (by kernel_rfl) rfl rfl ?_ ?_ (hS).drew
    · intro l9 t9 W9 i9 hD hi9 hl9 hM
      obtain ⟨o9, ho9, hd9⟩ := (mem_ready.1 hi9).2
      have hin9 : i9 < 18 := by
        by_cases h : i9 < 18
        · exact h
        · rw [Array.getElem?_eq_none (by rw [hD.len]; simp; omega)] at hl9; cases hl9
      have hcase : i9 = 0 ∨ i9 = 1 ∨ i9 = 2 ∨ i9 = 3 ∨ i9 = 4 ∨ i9 = 5 ∨ i9 = 6 ∨ i9 = 7 ∨ i9 = 8 ∨ i9 = 9 ∨ i9 = 10 ∨ i9 = 11 ∨ i9 = 12 ∨ i9 = 13 ∨ i9 = 14 ∨ i9 = 15 ∨ i9 = 16 ∨ i9 = 17 := by omega
      clear hin9
      rcases hcase with rfl | rfl | rfl | rfl | rfl | rfl | rfl | rfl | rfl | rfl | rfl | rfl | rfl | rfl | rfl | rfl | rfl | rfl
      · cases ho9
        have r3 := hD.old 3 _ rfl rfl
        clear hD hd9 hi9
        refine wpOp_step rfl (fun K hK => ?_)
        go_simp
        exact hK _ _ ⟨rfl, hM⟩
      · cases ho9
        have r10 := hD.on 0 10 _ rfl (getD_true (hd9 ⟨0, .data⟩ (by simp) rfl))
        have hM0 := hM
        have c9_0 := hM0.cellAt (b := w.heap.size + 1) (cs := #[.bool false, .int .i64 ex, .int .u64 fr]) (t := 27) (by simp) 1 _ rfl
        clear hM0
        clear hD hd9 hi9
        refine wpOp_step rfl (fun K hK => ?_)
        go_simp
        exact hK _ _ ⟨rfl, hM⟩
      · cases ho9
        have r11 := hD.on 1 11 _ rfl (getD_true (hd9 ⟨1, .data⟩ (by simp) rfl))
        clear hD hd9 hi9
        refine wpOp_step rfl (fun K hK => ?_)
        go_simp
        exact hK _ _ ⟨act_eq (by (first | rfl | skip); all_goals (rw [Value.bool.injEq]; first | (simp; done) | (simp; omega) | (rw [decide_eq_false_iff_not]; omega) | (rw [decide_eq_true_iff]; omega))), hM⟩
      · cases ho9
        have r12 := hD.on 2 12 _ rfl (getD_true (hd9 ⟨2, .data⟩ (by simp) rfl))
        clear hD hd9 hi9
        refine wpOp_step rfl (fun K hK => ?_)
        go_simp
        exact hK _ _ ⟨rfl, hM⟩
      · cases ho9
        have r13 := hD.on 3 13 _ rfl (getD_true (hd9 ⟨3, .guard⟩ (by simp) rfl))
        have r3 := hD.old 3 _ rfl rfl
        clear hD hd9 hi9
        refine wpOp_step rfl (fun K hK => ?_)
        go_simp
        exact hK _ _ ⟨rfl, hM⟩
      · cases ho9
        have r13 := hD.on 3 13 _ rfl (getD_true (hd9 ⟨3, .guard⟩ (by simp) rfl))
        have r14 := hD.on 4 14 _ rfl (getD_true (hd9 ⟨4, .data⟩ (by simp) rfl))
        have hM0 := hM
        have c9_0 := hM0.cellAt (b := w.heap.size + 1) (cs := #[.bool false, .int .i64 ex, .int .u64 fr]) (t := 27) (by simp) 1 _ rfl
        clear hM0
        clear hD hd9 hi9
        refine wpOp_step rfl (fun K hK => ?_)
        go_simp
        exact hK _ _ ⟨rfl, hM⟩
      · cases ho9
        have r13 := hD.on 3 13 _ rfl (getD_true (hd9 ⟨3, .guard⟩ (by simp) rfl))
        have r2 := hD.old 2 _ rfl rfl
        have hM0 := hM
        have c9_0 := hM0.cellAt (b := w.heap.size) (cs := #[.int .i64 E, .int .i64 F]) (t := 23) (by simp) 0 _ rfl
        have c9_1 := hM0.cellAt (b := w.heap.size) (cs := #[.int .i64 E, .int .i64 F]) (t := 23) (by simp) 1 _ rfl
        clear hM0
        clear hD hd9 hi9
        refine wpOp_step rfl (fun K hK => ?_)
        go_simp
        exact hK _ _ ⟨rfl, hM⟩
      · cases ho9
        have r13 := hD.on 3 13 _ rfl (getD_true (hd9 ⟨3, .chain⟩ (by simp) rfl))
        have r16 := hD.on 6 16 _ rfl (getD_true (hd9 ⟨6, .data⟩ (by simp) rfl))
        clear hD hd9 hi9
        refine wpOp_step rfl (fun K hK => ?_)
        go_simp
        go_wp2_with fail
        refine (rtop_any _ _ m1 h HM1 _).mono ?_
        rintro en w9 ⟨rfl, hb9⟩
        exact hK _ _ ⟨rfl, hM.kept hb9⟩
      · cases ho9
        have r13 := hD.on 3 13 _ rfl (getD_true (hd9 ⟨3, .guard⟩ (by simp) rfl))
        have r15 := hD.on 5 15 _ rfl (getD_true (hd9 ⟨5, .data⟩ (by simp) rfl))
        have r17 := hD.on 7 17 _ rfl (getD_true (hd9 ⟨7, .data⟩ (by simp) rfl))
        clear hD hd9 hi9
        refine wpOp_step rfl (fun K hK => ?_)
        go_simp
        exact hK _ _ ⟨act_eq (by (first | rfl | skip); all_goals (rw [Value.bool.injEq]; first | (simp; done) | (simp; omega) | (rw [decide_eq_false_iff_not]; omega) | (rw [decide_eq_true_iff]; omega))), hM⟩
      · cases ho9
        have r13 := hD.on 3 13 _ rfl (getD_true (hd9 ⟨3, .data⟩ (by simp) rfl))
        have r18 := hD.on 8 18 _ rfl (getD_true (hd9 ⟨8, .data⟩ (by simp) rfl))
        clear hD hd9 hi9
        refine wpOp_step rfl (fun K hK => ?_)
        go_simp
        exact hK _ _ ⟨rfl, hM⟩
      · cases ho9
        have r19 := hD.on 9 19 _ rfl (getD_true (hd9 ⟨9, .data⟩ (by simp) rfl))
        clear hD hd9 hi9
        refine wpOp_step rfl (fun K hK => ?_)
        go_simp
        exact hK _ _ ⟨rfl, hM⟩
      · cases ho9
        have r20 := hD.on 10 20 _ rfl (getD_true (hd9 ⟨10, .guard⟩ (by simp) rfl))
        have r3 := hD.old 3 _ rfl rfl
        clear hD hd9 hi9
        refine wpOp_step rfl (fun K hK => ?_)
        go_simp
        exact hK _ _ ⟨rfl, hM⟩
      · cases ho9
        have r20 := hD.on 10 20 _ rfl (getD_true (hd9 ⟨10, .guard⟩ (by simp) rfl))
        have r21 := hD.on 11 21 _ rfl (getD_true (hd9 ⟨11, .data⟩ (by simp) rfl))
        have hM0 := hM
        have c9_0 := hM0.cellAt (b := w.heap.size + 1) (cs := #[.bool false, .int .i64 ex, .int .u64 fr]) (t := 27) (by simp) 2 _ rfl
        clear hM0
        clear hD hd9 hi9
        refine wpOp_step rfl (fun K hK => ?_)
        go_simp
        exact hK _ _ ⟨rfl, hM⟩
      · cases ho9
        have r20 := hD.on 10 20 _ rfl (getD_true (hd9 ⟨10, .guard⟩ (by simp) rfl))
        have r2 := hD.old 2 _ rfl rfl
        clear hD hd9 hi9
        refine wpOp_step rfl (fun K hK => ?_)
        go_simp
        exact hK _ _ ⟨rfl, hM⟩
      · cases ho9
        have r20 := hD.on 10 20 _ rfl (getD_true (hd9 ⟨10, .guard⟩ (by simp) rfl))
        have r23 := hD.on 13 23 _ rfl (getD_true (hd9 ⟨13, .data⟩ (by simp) rfl))
        have hM0 := hM
        have c9_0 := hM0.cellAt (b := w.heap.size) (cs := #[.int .i64 E, .int .i64 F]) (t := 23) (by simp) 1 _ rfl
        clear hM0
        clear hD hd9 hi9
        refine wpOp_step rfl (fun K hK => ?_)
        go_simp
        exact hK _ _ ⟨rfl, hM⟩
      · cases ho9
        have r20 := hD.on 10 20 _ rfl (getD_true (hd9 ⟨10, .chain⟩ (by simp) rfl))
        have r24 := hD.on 14 24 _ rfl (getD_true (hd9 ⟨14, .data⟩ (by simp) rfl))
        clear hD hd9 hi9
        refine wpOp_step rfl (fun K hK => ?_)
        go_simp
        go_wp2_with fail
        refine (rpow_any F pF _ (by omega) HPF).mono ?_
        rintro en w9 ⟨rfl, hb9⟩
        exact hK _ _ ⟨rfl, hM.kept hb9⟩
      · cases ho9
        have r20 := hD.on 10 20 _ rfl (getD_true (hd9 ⟨10, .guard⟩ (by simp) rfl))
        have r22 := hD.on 12 22 _ rfl (getD_true (hd9 ⟨12, .data⟩ (by simp) rfl))
        have r25 := hD.on 15 25 _ rfl (getD_true (hd9 ⟨15, .data⟩ (by simp) rfl))
        clear hD hd9 hi9
        refine wpOp_step rfl (fun K hK => ?_)
        go_simp
        exact hK _ _ ⟨act_eq (by (first | rfl | skip); all_goals (rw [Value.bool.injEq]; first | (simp; done) | (simp; omega) | (rw [decide_eq_false_iff_not]; omega) | (rw [decide_eq_true_iff]; omega))), hM⟩
      · cases ho9
        have r20 := hD.on 10 20 _ rfl (getD_true (hd9 ⟨10, .data⟩ (by simp) rfl))
        have r26 := hD.on 16 26 _ rfl (getD_true (hd9 ⟨16, .data⟩ (by simp) rfl))
        clear hD hd9 hi9
        refine wpOp_step rfl (fun K hK => ?_)
        go_simp
        exact hK _ _ ⟨rfl, hM⟩
    · intro l9 W9 hl9 hM
      clear hl9
      clear hS z1_0_0 z1_0_1 z1_1_0 z1_1_1 z1_1_2
      have hS := hM
      clear hM
      simp only [Puts.lay, List.setIfInBounds_toArray, List.set_cons_zero, List.set_cons_succ]
      obtain ⟨⟨z2_0_0, z2_0_1, -⟩, ⟨z2_1_0, z2_1_1, z2_1_2, -⟩, -⟩ := hS.cells
      go_wp2_with fail
      refine wp_region_any (by kernel_rfl) ?_
      refine wpAny_det [some (28, .pointer (some ⟨w.heap.size + 1, 1, none⟩)), some (29, .int .i64 ex), some (30, .int .u64 ex), some (31, .pointer (some ⟨w.heap.size, 1, none⟩)), some (32, .int .i64 F), some (33, .int .u64 pF), some (34, .int .u64 t), some (35, .pointer (some ⟨w.heap.size + 1, 2, none⟩)), some (36, .int .u64 fr), some (37, .int .u64 b), some (6, .int .u64 b)]
        (fun _ W9 => Fs w W9 [⟨w.heap.size, #[.int .i64 E, .int .i64 F], 23⟩, ⟨w.heap.size + 1, #[.bool false, .int .i64 ex, .int .u64 fr], 27⟩]) _ _ rfl (by kernel_rfl) rfl rfl ?_ ?_ (hS).drew
      · intro l9 t9 W9 i9 hD hi9 hl9 hM
        obtain ⟨o9, ho9, hd9⟩ := (mem_ready.1 hi9).2
        have hin9 : i9 < 11 := by
          by_cases h : i9 < 11
          · exact h
          · rw [Array.getElem?_eq_none (by rw [hD.len]; simp; omega)] at hl9; cases hl9
        have hcase : i9 = 0 ∨ i9 = 1 ∨ i9 = 2 ∨ i9 = 3 ∨ i9 = 4 ∨ i9 = 5 ∨ i9 = 6 ∨ i9 = 7 ∨ i9 = 8 ∨ i9 = 9 ∨ i9 = 10 := by omega
        clear hin9
        rcases hcase with rfl | rfl | rfl | rfl | rfl | rfl | rfl | rfl | rfl | rfl | rfl
        · cases ho9
          have r3 := hD.old 3 _ rfl rfl
          clear hD hd9 hi9
          refine wpOp_step rfl (fun K hK => ?_)
          go_simp
          exact hK _ _ ⟨rfl, hM⟩
        · cases ho9
          have r28 := hD.on 0 28 _ rfl (getD_true (hd9 ⟨0, .data⟩ (by simp) rfl))
          have hM0 := hM
          have c9_0 := hM0.cellAt (b := w.heap.size + 1) (cs := #[.bool false, .int .i64 ex, .int .u64 fr]) (t := 27) (by simp) 1 _ rfl
          clear hM0
          clear hD hd9 hi9
          refine wpOp_step rfl (fun K hK => ?_)
          go_simp
          exact hK _ _ ⟨rfl, hM⟩
        · cases ho9
          have r29 := hD.on 1 29 _ rfl (getD_true (hd9 ⟨1, .data⟩ (by simp) rfl))
          clear hD hd9 hi9
          refine wpOp_step rfl (fun K hK => ?_)
          go_simp
          exact hK _ _ ⟨act_eq (by (show Value.int _ _ = Value.int _ _; congr 1; (first | rfl | omega | (rw [IntKind.wrap_i64]; omega) | (rw [IntKind.wrap_u64]; omega)))), hM⟩
        · cases ho9
          have r2 := hD.old 2 _ rfl rfl
          clear hD hd9 hi9
          refine wpOp_step rfl (fun K hK => ?_)
          go_simp
          exact hK _ _ ⟨rfl, hM⟩
        · cases ho9
          have r31 := hD.on 3 31 _ rfl (getD_true (hd9 ⟨3, .data⟩ (by simp) rfl))
          have hM0 := hM
          have c9_0 := hM0.cellAt (b := w.heap.size) (cs := #[.int .i64 E, .int .i64 F]) (t := 23) (by simp) 1 _ rfl
          clear hM0
          clear hD hd9 hi9
          refine wpOp_step rfl (fun K hK => ?_)
          go_simp
          exact hK _ _ ⟨rfl, hM⟩
        · cases ho9
          have r32 := hD.on 4 32 _ rfl (getD_true (hd9 ⟨4, .data⟩ (by simp) rfl))
          clear hD hd9 hi9
          refine wpOp_step rfl (fun K hK => ?_)
          go_simp
          go_wp2_with fail
          refine (rpow_any F pF _ (by omega) HPF).mono ?_
          rintro en w9 ⟨rfl, hb9⟩
          exact hK _ _ ⟨rfl, hM.kept hb9⟩
        · cases ho9
          have r30 := hD.on 2 30 _ rfl (getD_true (hd9 ⟨2, .data⟩ (by simp) rfl))
          have r33 := hD.on 5 33 _ rfl (getD_true (hd9 ⟨5, .data⟩ (by simp) rfl))
          clear hD hd9 hi9
          refine wpOp_step rfl (fun K hK => ?_)
          go_simp
          exact hK _ _ ⟨act_eq (by (refine congrArg (Value.int _) ?_; rw [unhide HT, IntKind.wrap_u64]; omega)), hM⟩
        · cases ho9
          have r3 := hD.old 3 _ rfl rfl
          clear hD hd9 hi9
          refine wpOp_step rfl (fun K hK => ?_)
          go_simp
          exact hK _ _ ⟨rfl, hM⟩
        · cases ho9
          have r35 := hD.on 7 35 _ rfl (getD_true (hd9 ⟨7, .data⟩ (by simp) rfl))
          have hM0 := hM
          have c9_0 := hM0.cellAt (b := w.heap.size + 1) (cs := #[.bool false, .int .i64 ex, .int .u64 fr]) (t := 27) (by simp) 2 _ rfl
          clear hM0
          clear hD hd9 hi9
          refine wpOp_step rfl (fun K hK => ?_)
          go_simp
          exact hK _ _ ⟨rfl, hM⟩
        · cases ho9
          have r34 := hD.on 6 34 _ rfl (getD_true (hd9 ⟨6, .data⟩ (by simp) rfl))
          have r36 := hD.on 8 36 _ rfl (getD_true (hd9 ⟨8, .data⟩ (by simp) rfl))
          clear hD hd9 hi9
          refine wpOp_step rfl (fun K hK => ?_)
          go_simp
          exact hK _ _ ⟨act_eq (by (refine congrArg (Value.int _) ?_; have := unhide HU; rw [IntKind.wrap_u64]; omega)), hM⟩
        · cases ho9
          have r37 := hD.on 9 37 _ rfl (getD_true (hd9 ⟨9, .data⟩ (by simp) rfl))
          clear hD hd9 hi9
          refine wpOp_step rfl (fun K hK => ?_)
          go_simp
          exact hK _ _ ⟨rfl, hM⟩
      · intro l9 W9 hl9 hM
        clear hl9
        clear hS z2_0_0 z2_0_1 z2_1_0 z2_1_1 z2_1_2
        have hS := hM
        clear hM
        simp only [Puts.lay, List.setIfInBounds_toArray, List.set_cons_zero, List.set_cons_succ]
        obtain ⟨⟨z3_0_0, z3_0_1, -⟩, ⟨z3_1_0, z3_1_1, z3_1_2, -⟩, -⟩ := hS.cells
        go_wp2
        go_ret2
        exact ⟨rfl, hS.fr⟩
  case true =>
    have hb2 : b = u + p := by rw [hb]; simp; omega
    have HB2 := hide hb2
    have hsum : (u : Int) + (p : Int) = (b : Int) := by omega
    have hb64 : b < 18446744073709551616 := by omega
    clear hb hb2
    go_enter Try.func21, Try.ntmps21
    go_wp2_with fail
    refine (rcheck_ok _ _ _ h).mono ?_
    rintro e w1 ⟨rfl, hb1⟩
    have hS := (Fs.two w _ _ _ _).kept hb1
    obtain ⟨⟨z101_0_0, z101_0_1, -⟩, ⟨z101_1_0, z101_1_1, z101_1_2, -⟩, -⟩ := hS.cells
    go_wp2_with fail
    refine wp_region_any (by kernel_rfl) ?_
    refine wpAny_det [some (10, .pointer (some ⟨w.heap.size + 1, 1, none⟩)), some (11, .int .i64 ex), some (12, .bool false), some (13, .bool false), some (14, .pointer (some ⟨w.heap.size + 1, 1, none⟩)), some (15, .int .i64 ex), some (16, .agg #[.int .i64 E, .int .i64 F]), some (17, .int .i64 m1), some (18, .bool false), some (19, .bool false), some (20, .bool false), some (21, .pointer (some ⟨w.heap.size + 1, 2, none⟩)), some (22, .int .u64 fr), some (23, .pointer (some ⟨w.heap.size, 1, none⟩)), some (24, .int .i64 F), some (25, .int .u64 pF), some (26, .bool false), some (27, .bool false)]
      (fun _ W9 => Fs w W9 [⟨w.heap.size, #[.int .i64 E, .int .i64 F], 23⟩, ⟨w.heap.size + 1, #[.bool true, .int .i64 ex, .int .u64 fr], 27⟩]) _ _ rfl (by kernel_rfl) rfl rfl ?_ ?_ (hS).drew
    · intro l9 t9 W9 i9 hD hi9 hl9 hM
      obtain ⟨o9, ho9, hd9⟩ := (mem_ready.1 hi9).2
      have hin9 : i9 < 18 := by
        by_cases h : i9 < 18
        · exact h
        · rw [Array.getElem?_eq_none (by rw [hD.len]; simp; omega)] at hl9; cases hl9
      have hcase : i9 = 0 ∨ i9 = 1 ∨ i9 = 2 ∨ i9 = 3 ∨ i9 = 4 ∨ i9 = 5 ∨ i9 = 6 ∨ i9 = 7 ∨ i9 = 8 ∨ i9 = 9 ∨ i9 = 10 ∨ i9 = 11 ∨ i9 = 12 ∨ i9 = 13 ∨ i9 = 14 ∨ i9 = 15 ∨ i9 = 16 ∨ i9 = 17 := by omega
      clear hin9
      rcases hcase with rfl | rfl | rfl | rfl | rfl | rfl | rfl | rfl | rfl | rfl | rfl | rfl | rfl | rfl | rfl | rfl | rfl | rfl
      · cases ho9
        have r3 := hD.old 3 _ rfl rfl
        clear hD hd9 hi9
        refine wpOp_step rfl (fun K hK => ?_)
        go_simp
        exact hK _ _ ⟨rfl, hM⟩
      · cases ho9
        have r10 := hD.on 0 10 _ rfl (getD_true (hd9 ⟨0, .data⟩ (by simp) rfl))
        have hM0 := hM
        have c9_0 := hM0.cellAt (b := w.heap.size + 1) (cs := #[.bool true, .int .i64 ex, .int .u64 fr]) (t := 27) (by simp) 1 _ rfl
        clear hM0
        clear hD hd9 hi9
        refine wpOp_step rfl (fun K hK => ?_)
        go_simp
        exact hK _ _ ⟨rfl, hM⟩
      · cases ho9
        have r11 := hD.on 1 11 _ rfl (getD_true (hd9 ⟨1, .data⟩ (by simp) rfl))
        clear hD hd9 hi9
        refine wpOp_step rfl (fun K hK => ?_)
        go_simp
        exact hK _ _ ⟨act_eq (by (first | rfl | skip); all_goals (rw [Value.bool.injEq]; first | (simp; done) | (simp; omega) | (rw [decide_eq_false_iff_not]; omega) | (rw [decide_eq_true_iff]; omega))), hM⟩
      · cases ho9
        have r12 := hD.on 2 12 _ rfl (getD_true (hd9 ⟨2, .data⟩ (by simp) rfl))
        clear hD hd9 hi9
        refine wpOp_step rfl (fun K hK => ?_)
        go_simp
        exact hK _ _ ⟨rfl, hM⟩
      · cases ho9
        have r13 := hD.on 3 13 _ rfl (getD_true (hd9 ⟨3, .guard⟩ (by simp) rfl))
        have r3 := hD.old 3 _ rfl rfl
        clear hD hd9 hi9
        refine wpOp_step rfl (fun K hK => ?_)
        go_simp
        exact hK _ _ ⟨rfl, hM⟩
      · cases ho9
        have r13 := hD.on 3 13 _ rfl (getD_true (hd9 ⟨3, .guard⟩ (by simp) rfl))
        have r14 := hD.on 4 14 _ rfl (getD_true (hd9 ⟨4, .data⟩ (by simp) rfl))
        have hM0 := hM
        have c9_0 := hM0.cellAt (b := w.heap.size + 1) (cs := #[.bool true, .int .i64 ex, .int .u64 fr]) (t := 27) (by simp) 1 _ rfl
        clear hM0
        clear hD hd9 hi9
        refine wpOp_step rfl (fun K hK => ?_)
        go_simp
        exact hK _ _ ⟨rfl, hM⟩
      · cases ho9
        have r13 := hD.on 3 13 _ rfl (getD_true (hd9 ⟨3, .guard⟩ (by simp) rfl))
        have r2 := hD.old 2 _ rfl rfl
        have hM0 := hM
        have c9_0 := hM0.cellAt (b := w.heap.size) (cs := #[.int .i64 E, .int .i64 F]) (t := 23) (by simp) 0 _ rfl
        have c9_1 := hM0.cellAt (b := w.heap.size) (cs := #[.int .i64 E, .int .i64 F]) (t := 23) (by simp) 1 _ rfl
        clear hM0
        clear hD hd9 hi9
        refine wpOp_step rfl (fun K hK => ?_)
        go_simp
        exact hK _ _ ⟨rfl, hM⟩
      · cases ho9
        have r13 := hD.on 3 13 _ rfl (getD_true (hd9 ⟨3, .chain⟩ (by simp) rfl))
        have r16 := hD.on 6 16 _ rfl (getD_true (hd9 ⟨6, .data⟩ (by simp) rfl))
        clear hD hd9 hi9
        refine wpOp_step rfl (fun K hK => ?_)
        go_simp
        go_wp2_with fail
        refine (rtop_any _ _ m1 h HM1 _).mono ?_
        rintro en w9 ⟨rfl, hb9⟩
        exact hK _ _ ⟨rfl, hM.kept hb9⟩
      · cases ho9
        have r13 := hD.on 3 13 _ rfl (getD_true (hd9 ⟨3, .guard⟩ (by simp) rfl))
        have r15 := hD.on 5 15 _ rfl (getD_true (hd9 ⟨5, .data⟩ (by simp) rfl))
        have r17 := hD.on 7 17 _ rfl (getD_true (hd9 ⟨7, .data⟩ (by simp) rfl))
        clear hD hd9 hi9
        refine wpOp_step rfl (fun K hK => ?_)
        go_simp
        exact hK _ _ ⟨act_eq (by (first | rfl | skip); all_goals (rw [Value.bool.injEq]; first | (simp; done) | (simp; omega) | (rw [decide_eq_false_iff_not]; omega) | (rw [decide_eq_true_iff]; omega))), hM⟩
      · cases ho9
        have r13 := hD.on 3 13 _ rfl (getD_true (hd9 ⟨3, .data⟩ (by simp) rfl))
        have r18 := hD.on 8 18 _ rfl (getD_true (hd9 ⟨8, .data⟩ (by simp) rfl))
        clear hD hd9 hi9
        refine wpOp_step rfl (fun K hK => ?_)
        go_simp
        exact hK _ _ ⟨rfl, hM⟩
      · cases ho9
        have r19 := hD.on 9 19 _ rfl (getD_true (hd9 ⟨9, .data⟩ (by simp) rfl))
        clear hD hd9 hi9
        refine wpOp_step rfl (fun K hK => ?_)
        go_simp
        exact hK _ _ ⟨rfl, hM⟩
      · cases ho9
        have r20 := hD.on 10 20 _ rfl (getD_true (hd9 ⟨10, .guard⟩ (by simp) rfl))
        have r3 := hD.old 3 _ rfl rfl
        clear hD hd9 hi9
        refine wpOp_step rfl (fun K hK => ?_)
        go_simp
        exact hK _ _ ⟨rfl, hM⟩
      · cases ho9
        have r20 := hD.on 10 20 _ rfl (getD_true (hd9 ⟨10, .guard⟩ (by simp) rfl))
        have r21 := hD.on 11 21 _ rfl (getD_true (hd9 ⟨11, .data⟩ (by simp) rfl))
        have hM0 := hM
        have c9_0 := hM0.cellAt (b := w.heap.size + 1) (cs := #[.bool true, .int .i64 ex, .int .u64 fr]) (t := 27) (by simp) 2 _ rfl
        clear hM0
        clear hD hd9 hi9
        refine wpOp_step rfl (fun K hK => ?_)
        go_simp
        exact hK _ _ ⟨rfl, hM⟩
      · cases ho9
        have r20 := hD.on 10 20 _ rfl (getD_true (hd9 ⟨10, .guard⟩ (by simp) rfl))
        have r2 := hD.old 2 _ rfl rfl
        clear hD hd9 hi9
        refine wpOp_step rfl (fun K hK => ?_)
        go_simp
        exact hK _ _ ⟨rfl, hM⟩
      · cases ho9
        have r20 := hD.on 10 20 _ rfl (getD_true (hd9 ⟨10, .guard⟩ (by simp) rfl))
        have r23 := hD.on 13 23 _ rfl (getD_true (hd9 ⟨13, .data⟩ (by simp) rfl))
        have hM0 := hM
        have c9_0 := hM0.cellAt (b := w.heap.size) (cs := #[.int .i64 E, .int .i64 F]) (t := 23) (by simp) 1 _ rfl
        clear hM0
        clear hD hd9 hi9
        refine wpOp_step rfl (fun K hK => ?_)
        go_simp
        exact hK _ _ ⟨rfl, hM⟩
      · cases ho9
        have r20 := hD.on 10 20 _ rfl (getD_true (hd9 ⟨10, .chain⟩ (by simp) rfl))
        have r24 := hD.on 14 24 _ rfl (getD_true (hd9 ⟨14, .data⟩ (by simp) rfl))
        clear hD hd9 hi9
        refine wpOp_step rfl (fun K hK => ?_)
        go_simp
        go_wp2_with fail
        refine (rpow_any F pF _ (by omega) HPF).mono ?_
        rintro en w9 ⟨rfl, hb9⟩
        exact hK _ _ ⟨rfl, hM.kept hb9⟩
      · cases ho9
        have r20 := hD.on 10 20 _ rfl (getD_true (hd9 ⟨10, .guard⟩ (by simp) rfl))
        have r22 := hD.on 12 22 _ rfl (getD_true (hd9 ⟨12, .data⟩ (by simp) rfl))
        have r25 := hD.on 15 25 _ rfl (getD_true (hd9 ⟨15, .data⟩ (by simp) rfl))
        clear hD hd9 hi9
        refine wpOp_step rfl (fun K hK => ?_)
        go_simp
        exact hK _ _ ⟨act_eq (by (first | rfl | skip); all_goals (rw [Value.bool.injEq]; first | (simp; done) | (simp; omega) | (rw [decide_eq_false_iff_not]; omega) | (rw [decide_eq_true_iff]; omega))), hM⟩
      · cases ho9
        have r20 := hD.on 10 20 _ rfl (getD_true (hd9 ⟨10, .data⟩ (by simp) rfl))
        have r26 := hD.on 16 26 _ rfl (getD_true (hd9 ⟨16, .data⟩ (by simp) rfl))
        clear hD hd9 hi9
        refine wpOp_step rfl (fun K hK => ?_)
        go_simp
        exact hK _ _ ⟨rfl, hM⟩
    · intro l9 W9 hl9 hM
      clear hl9
      clear hS z101_0_0 z101_0_1 z101_1_0 z101_1_1 z101_1_2
      have hS := hM
      clear hM
      simp only [Puts.lay, List.setIfInBounds_toArray, List.set_cons_zero, List.set_cons_succ]
      obtain ⟨⟨z102_0_0, z102_0_1, -⟩, ⟨z102_1_0, z102_1_1, z102_1_2, -⟩, -⟩ := hS.cells
      go_wp2_with fail
      refine wp_region_any (by kernel_rfl) ?_
      refine wpAny_det [some (28, .pointer (some ⟨w.heap.size + 1, 1, none⟩)), some (29, .int .i64 ex), some (30, .int .u64 ex), some (31, .pointer (some ⟨w.heap.size, 1, none⟩)), some (32, .int .i64 F), some (33, .int .u64 pF), some (34, .int .u64 t), some (35, .pointer (some ⟨w.heap.size + 1, 2, none⟩)), some (36, .int .u64 fr), some (37, .int .u64 u), some (6, .int .u64 u)]
        (fun _ W9 => Fs w W9 [⟨w.heap.size, #[.int .i64 E, .int .i64 F], 23⟩, ⟨w.heap.size + 1, #[.bool true, .int .i64 ex, .int .u64 fr], 27⟩]) _ _ rfl (by kernel_rfl) rfl rfl ?_ ?_ (hS).drew
      · intro l9 t9 W9 i9 hD hi9 hl9 hM
        obtain ⟨o9, ho9, hd9⟩ := (mem_ready.1 hi9).2
        have hin9 : i9 < 11 := by
          by_cases h : i9 < 11
          · exact h
          · rw [Array.getElem?_eq_none (by rw [hD.len]; simp; omega)] at hl9; cases hl9
        have hcase : i9 = 0 ∨ i9 = 1 ∨ i9 = 2 ∨ i9 = 3 ∨ i9 = 4 ∨ i9 = 5 ∨ i9 = 6 ∨ i9 = 7 ∨ i9 = 8 ∨ i9 = 9 ∨ i9 = 10 := by omega
        clear hin9
        rcases hcase with rfl | rfl | rfl | rfl | rfl | rfl | rfl | rfl | rfl | rfl | rfl
        · cases ho9
          have r3 := hD.old 3 _ rfl rfl
          clear hD hd9 hi9
          refine wpOp_step rfl (fun K hK => ?_)
          go_simp
          exact hK _ _ ⟨rfl, hM⟩
        · cases ho9
          have r28 := hD.on 0 28 _ rfl (getD_true (hd9 ⟨0, .data⟩ (by simp) rfl))
          have hM0 := hM
          have c9_0 := hM0.cellAt (b := w.heap.size + 1) (cs := #[.bool true, .int .i64 ex, .int .u64 fr]) (t := 27) (by simp) 1 _ rfl
          clear hM0
          clear hD hd9 hi9
          refine wpOp_step rfl (fun K hK => ?_)
          go_simp
          exact hK _ _ ⟨rfl, hM⟩
        · cases ho9
          have r29 := hD.on 1 29 _ rfl (getD_true (hd9 ⟨1, .data⟩ (by simp) rfl))
          clear hD hd9 hi9
          refine wpOp_step rfl (fun K hK => ?_)
          go_simp
          exact hK _ _ ⟨act_eq (by (show Value.int _ _ = Value.int _ _; congr 1; (first | rfl | omega | (rw [IntKind.wrap_i64]; omega) | (rw [IntKind.wrap_u64]; omega)))), hM⟩
        · cases ho9
          have r2 := hD.old 2 _ rfl rfl
          clear hD hd9 hi9
          refine wpOp_step rfl (fun K hK => ?_)
          go_simp
          exact hK _ _ ⟨rfl, hM⟩
        · cases ho9
          have r31 := hD.on 3 31 _ rfl (getD_true (hd9 ⟨3, .data⟩ (by simp) rfl))
          have hM0 := hM
          have c9_0 := hM0.cellAt (b := w.heap.size) (cs := #[.int .i64 E, .int .i64 F]) (t := 23) (by simp) 1 _ rfl
          clear hM0
          clear hD hd9 hi9
          refine wpOp_step rfl (fun K hK => ?_)
          go_simp
          exact hK _ _ ⟨rfl, hM⟩
        · cases ho9
          have r32 := hD.on 4 32 _ rfl (getD_true (hd9 ⟨4, .data⟩ (by simp) rfl))
          clear hD hd9 hi9
          refine wpOp_step rfl (fun K hK => ?_)
          go_simp
          go_wp2_with fail
          refine (rpow_any F pF _ (by omega) HPF).mono ?_
          rintro en w9 ⟨rfl, hb9⟩
          exact hK _ _ ⟨rfl, hM.kept hb9⟩
        · cases ho9
          have r30 := hD.on 2 30 _ rfl (getD_true (hd9 ⟨2, .data⟩ (by simp) rfl))
          have r33 := hD.on 5 33 _ rfl (getD_true (hd9 ⟨5, .data⟩ (by simp) rfl))
          clear hD hd9 hi9
          refine wpOp_step rfl (fun K hK => ?_)
          go_simp
          exact hK _ _ ⟨act_eq (by (refine congrArg (Value.int _) ?_; rw [unhide HT, IntKind.wrap_u64]; omega)), hM⟩
        · cases ho9
          have r3 := hD.old 3 _ rfl rfl
          clear hD hd9 hi9
          refine wpOp_step rfl (fun K hK => ?_)
          go_simp
          exact hK _ _ ⟨rfl, hM⟩
        · cases ho9
          have r35 := hD.on 7 35 _ rfl (getD_true (hd9 ⟨7, .data⟩ (by simp) rfl))
          have hM0 := hM
          have c9_0 := hM0.cellAt (b := w.heap.size + 1) (cs := #[.bool true, .int .i64 ex, .int .u64 fr]) (t := 27) (by simp) 2 _ rfl
          clear hM0
          clear hD hd9 hi9
          refine wpOp_step rfl (fun K hK => ?_)
          go_simp
          exact hK _ _ ⟨rfl, hM⟩
        · cases ho9
          have r34 := hD.on 6 34 _ rfl (getD_true (hd9 ⟨6, .data⟩ (by simp) rfl))
          have r36 := hD.on 8 36 _ rfl (getD_true (hd9 ⟨8, .data⟩ (by simp) rfl))
          clear hD hd9 hi9
          refine wpOp_step rfl (fun K hK => ?_)
          go_simp
          exact hK _ _ ⟨act_eq (by (refine congrArg (Value.int _) ?_; have := unhide HU; rw [IntKind.wrap_u64]; omega)), hM⟩
        · cases ho9
          have r37 := hD.on 9 37 _ rfl (getD_true (hd9 ⟨9, .data⟩ (by simp) rfl))
          clear hD hd9 hi9
          refine wpOp_step rfl (fun K hK => ?_)
          go_simp
          exact hK _ _ ⟨rfl, hM⟩
      · intro l9 W9 hl9 hM
        clear hl9
        clear hS z102_0_0 z102_0_1 z102_1_0 z102_1_1 z102_1_2
        have hS := hM
        clear hM
        simp only [Puts.lay, List.setIfInBounds_toArray, List.set_cons_zero, List.set_cons_succ]
        obtain ⟨⟨z103_0_0, z103_0_1, -⟩, ⟨z103_1_0, z103_1_1, z103_1_2, -⟩, -⟩ := hS.cells
        go_wp2_with fail
        refine (rpow_any n p _ hn63 HP).mono ?_
        rintro e w2 ⟨rfl, hb2⟩
        replace hS := hS.kept hb2
        clear z103_0_0 z103_0_1 z103_1_0 z103_1_1 z103_1_2
        obtain ⟨⟨z104_0_0, z104_0_1, -⟩, ⟨z104_1_0, z104_1_1, z104_1_2, -⟩, -⟩ := hS.cells
        go_wp2
        go_ret2
        exact ⟨rfl, hS.fr⟩

set_option maxHeartbeats 400000 in
theorem rJoin_neg (E F fr : Nat) (x : Int) (neg : Bool) (h : Fo E F) (hx : x < 0) (w : World) : Calls Try.prog 21 #[.agg #[.int .i64 E, .int .i64 F], .agg #[.bool neg, .int .i64 x, .int .u64 fr]] w fun e w' => e = .returned (.tuple #[.int .u64 0, .int .i64 30]) ∧ Below w.heap.size w w' := by
  go_enter Try.func21, Try.ntmps21
  go_wp2_with fail
  refine (rcheck_ok _ _ _ h).mono ?_
  rintro e w1 ⟨rfl, hb1⟩
  have hS := (Fs.two w _ _ _ _).kept hb1
  obtain ⟨⟨z1_0_0, z1_0_1, -⟩, ⟨z1_1_0, z1_1_1, z1_1_2, -⟩, -⟩ := hS.cells
  go_wp2_with fail
  refine wp_region_any (by kernel_rfl) ?_
  refine wpAny_det [some (10, .pointer (some ⟨w.heap.size + 1, 1, none⟩)), some (11, .int .i64 x), some (12, .bool true), some (13, .bool true), some (14, undef), some (15, undef), some (16, undef), some (17, undef), some (18, undef), some (19, .bool true), some (20, .bool true), some (21, undef), some (22, undef), some (23, undef), some (24, undef), some (25, undef), some (26, undef), some (27, .bool true)]
    (fun _ W9 => Fs w W9 [⟨w.heap.size, #[.int .i64 E, .int .i64 F], 23⟩, ⟨w.heap.size + 1, #[.bool neg, .int .i64 x, .int .u64 fr], 27⟩]) _ _ rfl (by kernel_rfl) rfl rfl ?_ ?_ (hS).drew
  · intro l9 t9 W9 i9 hD hi9 hl9 hM
    obtain ⟨o9, ho9, hd9⟩ := (mem_ready.1 hi9).2
    have hin9 : i9 < 18 := by
      by_cases h : i9 < 18
      · exact h
      · rw [Array.getElem?_eq_none (by rw [hD.len]; simp; omega)] at hl9; cases hl9
    have hcase : i9 = 0 ∨ i9 = 1 ∨ i9 = 2 ∨ i9 = 3 ∨ i9 = 4 ∨ i9 = 5 ∨ i9 = 6 ∨ i9 = 7 ∨ i9 = 8 ∨ i9 = 9 ∨ i9 = 10 ∨ i9 = 11 ∨ i9 = 12 ∨ i9 = 13 ∨ i9 = 14 ∨ i9 = 15 ∨ i9 = 16 ∨ i9 = 17 := by omega
    clear hin9
    rcases hcase with rfl | rfl | rfl | rfl | rfl | rfl | rfl | rfl | rfl | rfl | rfl | rfl | rfl | rfl | rfl | rfl | rfl | rfl
    · cases ho9
      have r3 := hD.old 3 _ rfl rfl
      clear hD hd9 hi9
      refine wpOp_step rfl (fun K hK => ?_)
      go_simp
      exact hK _ _ ⟨rfl, hM⟩
    · cases ho9
      have r10 := hD.on 0 10 _ rfl (getD_true (hd9 ⟨0, .data⟩ (by simp) rfl))
      have hM0 := hM
      have c9_0 := hM0.cellAt (b := w.heap.size + 1) (cs := #[.bool neg, .int .i64 x, .int .u64 fr]) (t := 27) (by simp) 1 _ rfl
      clear hM0
      clear hD hd9 hi9
      refine wpOp_step rfl (fun K hK => ?_)
      go_simp
      exact hK _ _ ⟨rfl, hM⟩
    · cases ho9
      have r11 := hD.on 1 11 _ rfl (getD_true (hd9 ⟨1, .data⟩ (by simp) rfl))
      clear hD hd9 hi9
      refine wpOp_step rfl (fun K hK => ?_)
      go_simp
      exact hK _ _ ⟨act_eq (by (first | rfl | skip); all_goals (rw [Value.bool.injEq]; first | (simp; done) | (simp; omega) | (rw [decide_eq_false_iff_not]; omega) | (rw [decide_eq_true_iff]; omega))), hM⟩
    · cases ho9
      have r12 := hD.on 2 12 _ rfl (getD_true (hd9 ⟨2, .data⟩ (by simp) rfl))
      clear hD hd9 hi9
      refine wpOp_step rfl (fun K hK => ?_)
      go_simp
      exact hK _ _ ⟨rfl, hM⟩
    · cases ho9
      have r13 := hD.on 3 13 _ rfl (getD_true (hd9 ⟨3, .guard⟩ (by simp) rfl))
      clear hD hd9 hi9
      refine wpOp_step rfl (fun K hK => ?_)
      go_simp
      exact hK _ _ ⟨rfl, hM⟩
    · cases ho9
      have r13 := hD.on 3 13 _ rfl (getD_true (hd9 ⟨3, .guard⟩ (by simp) rfl))
      clear hD hd9 hi9
      refine wpOp_step rfl (fun K hK => ?_)
      go_simp
      exact hK _ _ ⟨rfl, hM⟩
    · cases ho9
      have r13 := hD.on 3 13 _ rfl (getD_true (hd9 ⟨3, .guard⟩ (by simp) rfl))
      clear hD hd9 hi9
      refine wpOp_step rfl (fun K hK => ?_)
      go_simp
      exact hK _ _ ⟨rfl, hM⟩
    · cases ho9
      have r13 := hD.on 3 13 _ rfl (getD_true (hd9 ⟨3, .chain⟩ (by simp) rfl))
      clear hD hd9 hi9
      refine wpOp_step rfl (fun K hK => ?_)
      go_simp
      exact hK _ _ ⟨rfl, hM⟩
    · cases ho9
      have r13 := hD.on 3 13 _ rfl (getD_true (hd9 ⟨3, .guard⟩ (by simp) rfl))
      clear hD hd9 hi9
      refine wpOp_step rfl (fun K hK => ?_)
      go_simp
      exact hK _ _ ⟨rfl, hM⟩
    · cases ho9
      have r13 := hD.on 3 13 _ rfl (getD_true (hd9 ⟨3, .data⟩ (by simp) rfl))
      have r18 := hD.on 8 18 _ rfl (getD_true (hd9 ⟨8, .data⟩ (by simp) rfl))
      clear hD hd9 hi9
      refine wpOp_step rfl (fun K hK => ?_)
      go_simp
      exact hK _ _ ⟨rfl, hM⟩
    · cases ho9
      have r19 := hD.on 9 19 _ rfl (getD_true (hd9 ⟨9, .data⟩ (by simp) rfl))
      clear hD hd9 hi9
      refine wpOp_step rfl (fun K hK => ?_)
      go_simp
      exact hK _ _ ⟨rfl, hM⟩
    · cases ho9
      have r20 := hD.on 10 20 _ rfl (getD_true (hd9 ⟨10, .guard⟩ (by simp) rfl))
      clear hD hd9 hi9
      refine wpOp_step rfl (fun K hK => ?_)
      go_simp
      exact hK _ _ ⟨rfl, hM⟩
    · cases ho9
      have r20 := hD.on 10 20 _ rfl (getD_true (hd9 ⟨10, .guard⟩ (by simp) rfl))
      clear hD hd9 hi9
      refine wpOp_step rfl (fun K hK => ?_)
      go_simp
      exact hK _ _ ⟨rfl, hM⟩
    · cases ho9
      have r20 := hD.on 10 20 _ rfl (getD_true (hd9 ⟨10, .guard⟩ (by simp) rfl))
      clear hD hd9 hi9
      refine wpOp_step rfl (fun K hK => ?_)
      go_simp
      exact hK _ _ ⟨rfl, hM⟩
    · cases ho9
      have r20 := hD.on 10 20 _ rfl (getD_true (hd9 ⟨10, .guard⟩ (by simp) rfl))
      clear hD hd9 hi9
      refine wpOp_step rfl (fun K hK => ?_)
      go_simp
      exact hK _ _ ⟨rfl, hM⟩
    · cases ho9
      have r20 := hD.on 10 20 _ rfl (getD_true (hd9 ⟨10, .chain⟩ (by simp) rfl))
      clear hD hd9 hi9
      refine wpOp_step rfl (fun K hK => ?_)
      go_simp
      exact hK _ _ ⟨rfl, hM⟩
    · cases ho9
      have r20 := hD.on 10 20 _ rfl (getD_true (hd9 ⟨10, .guard⟩ (by simp) rfl))
      clear hD hd9 hi9
      refine wpOp_step rfl (fun K hK => ?_)
      go_simp
      exact hK _ _ ⟨rfl, hM⟩
    · cases ho9
      have r20 := hD.on 10 20 _ rfl (getD_true (hd9 ⟨10, .data⟩ (by simp) rfl))
      have r26 := hD.on 16 26 _ rfl (getD_true (hd9 ⟨16, .data⟩ (by simp) rfl))
      clear hD hd9 hi9
      refine wpOp_step rfl (fun K hK => ?_)
      go_simp
      exact hK _ _ ⟨rfl, hM⟩
  · intro l9 W9 hl9 hM
    clear hl9
    clear hS z1_0_0 z1_0_1 z1_1_0 z1_1_1 z1_1_2
    have hS := hM
    clear hM
    simp only [Puts.lay, List.setIfInBounds_toArray, List.set_cons_zero, List.set_cons_succ]
    obtain ⟨⟨z2_0_0, z2_0_1, -⟩, ⟨z2_1_0, z2_1_1, z2_1_2, -⟩, -⟩ := hS.cells
    go_wp2
    go_ret2
    exact ⟨rfl, hS.fr⟩

set_option maxHeartbeats 400000 in
theorem rJoin_exp (E F ex fr : Nat) (neg : Bool) (h : Fo E F) (hx : 2 ^ E ≤ ex) (w : World) : Calls Try.prog 21 #[.agg #[.int .i64 E, .int .i64 F], .agg #[.bool neg, .int .i64 ex, .int .u64 fr]] w fun e w' => e = .returned (.tuple #[.int .u64 0, .int .i64 30]) ∧ Below w.heap.size w w' := by
  obtain ⟨m1, hm1⟩ : ∃ m1, m1 = 2 ^ E - 1 := ⟨_, rfl⟩
  obtain ⟨pF, hpF⟩ : ∃ p, p = 2 ^ F := ⟨_, rfl⟩
  have HM1 := hide hm1
  have HPF := hide hpF
  have hpE := pow_pos2 E
  have h52 := h.f52
  have hx1 : m1 < ex := by omega
  clear hm1 hpE hx hpF HPF pF h52
  go_enter Try.func21, Try.ntmps21
  go_wp2_with fail
  refine (rcheck_ok _ _ _ h).mono ?_
  rintro e w1 ⟨rfl, hb1⟩
  have hS := (Fs.two w _ _ _ _).kept hb1
  obtain ⟨⟨z1_0_0, z1_0_1, -⟩, ⟨z1_1_0, z1_1_1, z1_1_2, -⟩, -⟩ := hS.cells
  go_wp2_with fail
  refine wp_region_any (by kernel_rfl) ?_
  refine wpAny_det [some (10, .pointer (some ⟨w.heap.size + 1, 1, none⟩)), some (11, .int .i64 ex), some (12, .bool false), some (13, .bool false), some (14, .pointer (some ⟨w.heap.size + 1, 1, none⟩)), some (15, .int .i64 ex), some (16, .agg #[.int .i64 E, .int .i64 F]), some (17, .int .i64 m1), some (18, .bool true), some (19, .bool true), some (20, .bool true), some (21, undef), some (22, undef), some (23, undef), some (24, undef), some (25, undef), some (26, undef), some (27, .bool true)]
    (fun _ W9 => Fs w W9 [⟨w.heap.size, #[.int .i64 E, .int .i64 F], 23⟩, ⟨w.heap.size + 1, #[.bool neg, .int .i64 ex, .int .u64 fr], 27⟩]) _ _ rfl (by kernel_rfl) rfl rfl ?_ ?_ (hS).drew
  · intro l9 t9 W9 i9 hD hi9 hl9 hM
    obtain ⟨o9, ho9, hd9⟩ := (mem_ready.1 hi9).2
    have hin9 : i9 < 18 := by
      by_cases h : i9 < 18
      · exact h
      · rw [Array.getElem?_eq_none (by rw [hD.len]; simp; omega)] at hl9; cases hl9
    have hcase : i9 = 0 ∨ i9 = 1 ∨ i9 = 2 ∨ i9 = 3 ∨ i9 = 4 ∨ i9 = 5 ∨ i9 = 6 ∨ i9 = 7 ∨ i9 = 8 ∨ i9 = 9 ∨ i9 = 10 ∨ i9 = 11 ∨ i9 = 12 ∨ i9 = 13 ∨ i9 = 14 ∨ i9 = 15 ∨ i9 = 16 ∨ i9 = 17 := by omega
    clear hin9
    rcases hcase with rfl | rfl | rfl | rfl | rfl | rfl | rfl | rfl | rfl | rfl | rfl | rfl | rfl | rfl | rfl | rfl | rfl | rfl
    · cases ho9
      have r3 := hD.old 3 _ rfl rfl
      clear hD hd9 hi9
      refine wpOp_step rfl (fun K hK => ?_)
      go_simp
      exact hK _ _ ⟨rfl, hM⟩
    · cases ho9
      have r10 := hD.on 0 10 _ rfl (getD_true (hd9 ⟨0, .data⟩ (by simp) rfl))
      have hM0 := hM
      have c9_0 := hM0.cellAt (b := w.heap.size + 1) (cs := #[.bool neg, .int .i64 ex, .int .u64 fr]) (t := 27) (by simp) 1 _ rfl
      clear hM0
      clear hD hd9 hi9
      refine wpOp_step rfl (fun K hK => ?_)
      go_simp
      exact hK _ _ ⟨rfl, hM⟩
    · cases ho9
      have r11 := hD.on 1 11 _ rfl (getD_true (hd9 ⟨1, .data⟩ (by simp) rfl))
      clear hD hd9 hi9
      refine wpOp_step rfl (fun K hK => ?_)
      go_simp
      exact hK _ _ ⟨act_eq (by (first | rfl | skip); all_goals (rw [Value.bool.injEq]; first | (simp; done) | (simp; omega) | (rw [decide_eq_false_iff_not]; omega) | (rw [decide_eq_true_iff]; omega))), hM⟩
    · cases ho9
      have r12 := hD.on 2 12 _ rfl (getD_true (hd9 ⟨2, .data⟩ (by simp) rfl))
      clear hD hd9 hi9
      refine wpOp_step rfl (fun K hK => ?_)
      go_simp
      exact hK _ _ ⟨rfl, hM⟩
    · cases ho9
      have r13 := hD.on 3 13 _ rfl (getD_true (hd9 ⟨3, .guard⟩ (by simp) rfl))
      have r3 := hD.old 3 _ rfl rfl
      clear hD hd9 hi9
      refine wpOp_step rfl (fun K hK => ?_)
      go_simp
      exact hK _ _ ⟨rfl, hM⟩
    · cases ho9
      have r13 := hD.on 3 13 _ rfl (getD_true (hd9 ⟨3, .guard⟩ (by simp) rfl))
      have r14 := hD.on 4 14 _ rfl (getD_true (hd9 ⟨4, .data⟩ (by simp) rfl))
      have hM0 := hM
      have c9_0 := hM0.cellAt (b := w.heap.size + 1) (cs := #[.bool neg, .int .i64 ex, .int .u64 fr]) (t := 27) (by simp) 1 _ rfl
      clear hM0
      clear hD hd9 hi9
      refine wpOp_step rfl (fun K hK => ?_)
      go_simp
      exact hK _ _ ⟨rfl, hM⟩
    · cases ho9
      have r13 := hD.on 3 13 _ rfl (getD_true (hd9 ⟨3, .guard⟩ (by simp) rfl))
      have r2 := hD.old 2 _ rfl rfl
      have hM0 := hM
      have c9_0 := hM0.cellAt (b := w.heap.size) (cs := #[.int .i64 E, .int .i64 F]) (t := 23) (by simp) 0 _ rfl
      have c9_1 := hM0.cellAt (b := w.heap.size) (cs := #[.int .i64 E, .int .i64 F]) (t := 23) (by simp) 1 _ rfl
      clear hM0
      clear hD hd9 hi9
      refine wpOp_step rfl (fun K hK => ?_)
      go_simp
      exact hK _ _ ⟨rfl, hM⟩
    · cases ho9
      have r13 := hD.on 3 13 _ rfl (getD_true (hd9 ⟨3, .chain⟩ (by simp) rfl))
      have r16 := hD.on 6 16 _ rfl (getD_true (hd9 ⟨6, .data⟩ (by simp) rfl))
      clear hD hd9 hi9
      refine wpOp_step rfl (fun K hK => ?_)
      go_simp
      go_wp2_with fail
      refine (rtop_any _ _ m1 h HM1 _).mono ?_
      rintro en w9 ⟨rfl, hb9⟩
      exact hK _ _ ⟨rfl, hM.kept hb9⟩
    · cases ho9
      have r13 := hD.on 3 13 _ rfl (getD_true (hd9 ⟨3, .guard⟩ (by simp) rfl))
      have r15 := hD.on 5 15 _ rfl (getD_true (hd9 ⟨5, .data⟩ (by simp) rfl))
      have r17 := hD.on 7 17 _ rfl (getD_true (hd9 ⟨7, .data⟩ (by simp) rfl))
      clear hD hd9 hi9
      refine wpOp_step rfl (fun K hK => ?_)
      go_simp
      exact hK _ _ ⟨act_eq (by (first | rfl | skip); all_goals (rw [Value.bool.injEq]; first | (simp; done) | (simp; omega) | (rw [decide_eq_false_iff_not]; omega) | (rw [decide_eq_true_iff]; omega))), hM⟩
    · cases ho9
      have r13 := hD.on 3 13 _ rfl (getD_true (hd9 ⟨3, .data⟩ (by simp) rfl))
      have r18 := hD.on 8 18 _ rfl (getD_true (hd9 ⟨8, .data⟩ (by simp) rfl))
      clear hD hd9 hi9
      refine wpOp_step rfl (fun K hK => ?_)
      go_simp
      exact hK _ _ ⟨rfl, hM⟩
    · cases ho9
      have r19 := hD.on 9 19 _ rfl (getD_true (hd9 ⟨9, .data⟩ (by simp) rfl))
      clear hD hd9 hi9
      refine wpOp_step rfl (fun K hK => ?_)
      go_simp
      exact hK _ _ ⟨rfl, hM⟩
    · cases ho9
      have r20 := hD.on 10 20 _ rfl (getD_true (hd9 ⟨10, .guard⟩ (by simp) rfl))
      clear hD hd9 hi9
      refine wpOp_step rfl (fun K hK => ?_)
      go_simp
      exact hK _ _ ⟨rfl, hM⟩
    · cases ho9
      have r20 := hD.on 10 20 _ rfl (getD_true (hd9 ⟨10, .guard⟩ (by simp) rfl))
      clear hD hd9 hi9
      refine wpOp_step rfl (fun K hK => ?_)
      go_simp
      exact hK _ _ ⟨rfl, hM⟩
    · cases ho9
      have r20 := hD.on 10 20 _ rfl (getD_true (hd9 ⟨10, .guard⟩ (by simp) rfl))
      clear hD hd9 hi9
      refine wpOp_step rfl (fun K hK => ?_)
      go_simp
      exact hK _ _ ⟨rfl, hM⟩
    · cases ho9
      have r20 := hD.on 10 20 _ rfl (getD_true (hd9 ⟨10, .guard⟩ (by simp) rfl))
      clear hD hd9 hi9
      refine wpOp_step rfl (fun K hK => ?_)
      go_simp
      exact hK _ _ ⟨rfl, hM⟩
    · cases ho9
      have r20 := hD.on 10 20 _ rfl (getD_true (hd9 ⟨10, .chain⟩ (by simp) rfl))
      clear hD hd9 hi9
      refine wpOp_step rfl (fun K hK => ?_)
      go_simp
      exact hK _ _ ⟨rfl, hM⟩
    · cases ho9
      have r20 := hD.on 10 20 _ rfl (getD_true (hd9 ⟨10, .guard⟩ (by simp) rfl))
      clear hD hd9 hi9
      refine wpOp_step rfl (fun K hK => ?_)
      go_simp
      exact hK _ _ ⟨rfl, hM⟩
    · cases ho9
      have r20 := hD.on 10 20 _ rfl (getD_true (hd9 ⟨10, .data⟩ (by simp) rfl))
      have r26 := hD.on 16 26 _ rfl (getD_true (hd9 ⟨16, .data⟩ (by simp) rfl))
      clear hD hd9 hi9
      refine wpOp_step rfl (fun K hK => ?_)
      go_simp
      exact hK _ _ ⟨rfl, hM⟩
  · intro l9 W9 hl9 hM
    clear hl9
    clear hS z1_0_0 z1_0_1 z1_1_0 z1_1_1 z1_1_2
    have hS := hM
    clear hM
    simp only [Puts.lay, List.setIfInBounds_toArray, List.set_cons_zero, List.set_cons_succ]
    obtain ⟨⟨z2_0_0, z2_0_1, -⟩, ⟨z2_1_0, z2_1_1, z2_1_2, -⟩, -⟩ := hS.cells
    go_wp2
    go_ret2
    exact ⟨rfl, hS.fr⟩

set_option maxHeartbeats 400000 in
theorem rJoin_frac (E F ex fr : Nat) (neg : Bool) (h : Fo E F) (hx : ex < 2 ^ E) (hf : 2 ^ F ≤ fr) (w : World) : Calls Try.prog 21 #[.agg #[.int .i64 E, .int .i64 F], .agg #[.bool neg, .int .i64 ex, .int .u64 fr]] w fun e w' => e = .returned (.tuple #[.int .u64 0, .int .i64 30]) ∧ Below w.heap.size w w' := by
  obtain ⟨m1, hm1⟩ : ∃ m1, m1 = 2 ^ E - 1 := ⟨_, rfl⟩
  obtain ⟨pF, hpF⟩ : ∃ p, p = 2 ^ F := ⟨_, rfl⟩
  have HM1 := hide hm1
  have HPF := hide hpF
  have hpE := pow_pos2 E
  have h52 := h.f52
  have hx1 : ex ≤ m1 := by omega
  have hf1 : pF ≤ fr := by omega
  clear hm1 hpE hx hf hpF
  go_enter Try.func21, Try.ntmps21
  go_wp2_with fail
  refine (rcheck_ok _ _ _ h).mono ?_
  rintro e w1 ⟨rfl, hb1⟩
  have hS := (Fs.two w _ _ _ _).kept hb1
  obtain ⟨⟨z1_0_0, z1_0_1, -⟩, ⟨z1_1_0, z1_1_1, z1_1_2, -⟩, -⟩ := hS.cells
  go_wp2_with fail
  refine wp_region_any (by kernel_rfl) ?_
  refine wpAny_det [some (10, .pointer (some ⟨w.heap.size + 1, 1, none⟩)), some (11, .int .i64 ex), some (12, .bool false), some (13, .bool false), some (14, .pointer (some ⟨w.heap.size + 1, 1, none⟩)), some (15, .int .i64 ex), some (16, .agg #[.int .i64 E, .int .i64 F]), some (17, .int .i64 m1), some (18, .bool false), some (19, .bool false), some (20, .bool false), some (21, .pointer (some ⟨w.heap.size + 1, 2, none⟩)), some (22, .int .u64 fr), some (23, .pointer (some ⟨w.heap.size, 1, none⟩)), some (24, .int .i64 F), some (25, .int .u64 pF), some (26, .bool true), some (27, .bool true)]
    (fun _ W9 => Fs w W9 [⟨w.heap.size, #[.int .i64 E, .int .i64 F], 23⟩, ⟨w.heap.size + 1, #[.bool neg, .int .i64 ex, .int .u64 fr], 27⟩]) _ _ rfl (by kernel_rfl) rfl rfl ?_ ?_ (hS).drew
  · intro l9 t9 W9 i9 hD hi9 hl9 hM
    obtain ⟨o9, ho9, hd9⟩ := (mem_ready.1 hi9).2
    have hin9 : i9 < 18 := by
      by_cases h : i9 < 18
      · exact h
      · rw [Array.getElem?_eq_none (by rw [hD.len]; simp; omega)] at hl9; cases hl9
    have hcase : i9 = 0 ∨ i9 = 1 ∨ i9 = 2 ∨ i9 = 3 ∨ i9 = 4 ∨ i9 = 5 ∨ i9 = 6 ∨ i9 = 7 ∨ i9 = 8 ∨ i9 = 9 ∨ i9 = 10 ∨ i9 = 11 ∨ i9 = 12 ∨ i9 = 13 ∨ i9 = 14 ∨ i9 = 15 ∨ i9 = 16 ∨ i9 = 17 := by omega
    clear hin9
    rcases hcase with rfl | rfl | rfl | rfl | rfl | rfl | rfl | rfl | rfl | rfl | rfl | rfl | rfl | rfl | rfl | rfl | rfl | rfl
    · cases ho9
      have r3 := hD.old 3 _ rfl rfl
      clear hD hd9 hi9
      refine wpOp_step rfl (fun K hK => ?_)
      go_simp
      exact hK _ _ ⟨rfl, hM⟩
    · cases ho9
      have r10 := hD.on 0 10 _ rfl (getD_true (hd9 ⟨0, .data⟩ (by simp) rfl))
      have hM0 := hM
      have c9_0 := hM0.cellAt (b := w.heap.size + 1) (cs := #[.bool neg, .int .i64 ex, .int .u64 fr]) (t := 27) (by simp) 1 _ rfl
      clear hM0
      clear hD hd9 hi9
      refine wpOp_step rfl (fun K hK => ?_)
      go_simp
      exact hK _ _ ⟨rfl, hM⟩
    · cases ho9
      have r11 := hD.on 1 11 _ rfl (getD_true (hd9 ⟨1, .data⟩ (by simp) rfl))
      clear hD hd9 hi9
      refine wpOp_step rfl (fun K hK => ?_)
      go_simp
      exact hK _ _ ⟨act_eq (by (first | rfl | skip); all_goals (rw [Value.bool.injEq]; first | (simp; done) | (simp; omega) | (rw [decide_eq_false_iff_not]; omega) | (rw [decide_eq_true_iff]; omega))), hM⟩
    · cases ho9
      have r12 := hD.on 2 12 _ rfl (getD_true (hd9 ⟨2, .data⟩ (by simp) rfl))
      clear hD hd9 hi9
      refine wpOp_step rfl (fun K hK => ?_)
      go_simp
      exact hK _ _ ⟨rfl, hM⟩
    · cases ho9
      have r13 := hD.on 3 13 _ rfl (getD_true (hd9 ⟨3, .guard⟩ (by simp) rfl))
      have r3 := hD.old 3 _ rfl rfl
      clear hD hd9 hi9
      refine wpOp_step rfl (fun K hK => ?_)
      go_simp
      exact hK _ _ ⟨rfl, hM⟩
    · cases ho9
      have r13 := hD.on 3 13 _ rfl (getD_true (hd9 ⟨3, .guard⟩ (by simp) rfl))
      have r14 := hD.on 4 14 _ rfl (getD_true (hd9 ⟨4, .data⟩ (by simp) rfl))
      have hM0 := hM
      have c9_0 := hM0.cellAt (b := w.heap.size + 1) (cs := #[.bool neg, .int .i64 ex, .int .u64 fr]) (t := 27) (by simp) 1 _ rfl
      clear hM0
      clear hD hd9 hi9
      refine wpOp_step rfl (fun K hK => ?_)
      go_simp
      exact hK _ _ ⟨rfl, hM⟩
    · cases ho9
      have r13 := hD.on 3 13 _ rfl (getD_true (hd9 ⟨3, .guard⟩ (by simp) rfl))
      have r2 := hD.old 2 _ rfl rfl
      have hM0 := hM
      have c9_0 := hM0.cellAt (b := w.heap.size) (cs := #[.int .i64 E, .int .i64 F]) (t := 23) (by simp) 0 _ rfl
      have c9_1 := hM0.cellAt (b := w.heap.size) (cs := #[.int .i64 E, .int .i64 F]) (t := 23) (by simp) 1 _ rfl
      clear hM0
      clear hD hd9 hi9
      refine wpOp_step rfl (fun K hK => ?_)
      go_simp
      exact hK _ _ ⟨rfl, hM⟩
    · cases ho9
      have r13 := hD.on 3 13 _ rfl (getD_true (hd9 ⟨3, .chain⟩ (by simp) rfl))
      have r16 := hD.on 6 16 _ rfl (getD_true (hd9 ⟨6, .data⟩ (by simp) rfl))
      clear hD hd9 hi9
      refine wpOp_step rfl (fun K hK => ?_)
      go_simp
      go_wp2_with fail
      refine (rtop_any _ _ m1 h HM1 _).mono ?_
      rintro en w9 ⟨rfl, hb9⟩
      exact hK _ _ ⟨rfl, hM.kept hb9⟩
    · cases ho9
      have r13 := hD.on 3 13 _ rfl (getD_true (hd9 ⟨3, .guard⟩ (by simp) rfl))
      have r15 := hD.on 5 15 _ rfl (getD_true (hd9 ⟨5, .data⟩ (by simp) rfl))
      have r17 := hD.on 7 17 _ rfl (getD_true (hd9 ⟨7, .data⟩ (by simp) rfl))
      clear hD hd9 hi9
      refine wpOp_step rfl (fun K hK => ?_)
      go_simp
      exact hK _ _ ⟨act_eq (by (first | rfl | skip); all_goals (rw [Value.bool.injEq]; first | (simp; done) | (simp; omega) | (rw [decide_eq_false_iff_not]; omega) | (rw [decide_eq_true_iff]; omega))), hM⟩
    · cases ho9
      have r13 := hD.on 3 13 _ rfl (getD_true (hd9 ⟨3, .data⟩ (by simp) rfl))
      have r18 := hD.on 8 18 _ rfl (getD_true (hd9 ⟨8, .data⟩ (by simp) rfl))
      clear hD hd9 hi9
      refine wpOp_step rfl (fun K hK => ?_)
      go_simp
      exact hK _ _ ⟨rfl, hM⟩
    · cases ho9
      have r19 := hD.on 9 19 _ rfl (getD_true (hd9 ⟨9, .data⟩ (by simp) rfl))
      clear hD hd9 hi9
      refine wpOp_step rfl (fun K hK => ?_)
      go_simp
      exact hK _ _ ⟨rfl, hM⟩
    · cases ho9
      have r20 := hD.on 10 20 _ rfl (getD_true (hd9 ⟨10, .guard⟩ (by simp) rfl))
      have r3 := hD.old 3 _ rfl rfl
      clear hD hd9 hi9
      refine wpOp_step rfl (fun K hK => ?_)
      go_simp
      exact hK _ _ ⟨rfl, hM⟩
    · cases ho9
      have r20 := hD.on 10 20 _ rfl (getD_true (hd9 ⟨10, .guard⟩ (by simp) rfl))
      have r21 := hD.on 11 21 _ rfl (getD_true (hd9 ⟨11, .data⟩ (by simp) rfl))
      have hM0 := hM
      have c9_0 := hM0.cellAt (b := w.heap.size + 1) (cs := #[.bool neg, .int .i64 ex, .int .u64 fr]) (t := 27) (by simp) 2 _ rfl
      clear hM0
      clear hD hd9 hi9
      refine wpOp_step rfl (fun K hK => ?_)
      go_simp
      exact hK _ _ ⟨rfl, hM⟩
    · cases ho9
      have r20 := hD.on 10 20 _ rfl (getD_true (hd9 ⟨10, .guard⟩ (by simp) rfl))
      have r2 := hD.old 2 _ rfl rfl
      clear hD hd9 hi9
      refine wpOp_step rfl (fun K hK => ?_)
      go_simp
      exact hK _ _ ⟨rfl, hM⟩
    · cases ho9
      have r20 := hD.on 10 20 _ rfl (getD_true (hd9 ⟨10, .guard⟩ (by simp) rfl))
      have r23 := hD.on 13 23 _ rfl (getD_true (hd9 ⟨13, .data⟩ (by simp) rfl))
      have hM0 := hM
      have c9_0 := hM0.cellAt (b := w.heap.size) (cs := #[.int .i64 E, .int .i64 F]) (t := 23) (by simp) 1 _ rfl
      clear hM0
      clear hD hd9 hi9
      refine wpOp_step rfl (fun K hK => ?_)
      go_simp
      exact hK _ _ ⟨rfl, hM⟩
    · cases ho9
      have r20 := hD.on 10 20 _ rfl (getD_true (hd9 ⟨10, .chain⟩ (by simp) rfl))
      have r24 := hD.on 14 24 _ rfl (getD_true (hd9 ⟨14, .data⟩ (by simp) rfl))
      clear hD hd9 hi9
      refine wpOp_step rfl (fun K hK => ?_)
      go_simp
      go_wp2_with fail
      refine (rpow_any F pF _ (by omega) HPF).mono ?_
      rintro en w9 ⟨rfl, hb9⟩
      exact hK _ _ ⟨rfl, hM.kept hb9⟩
    · cases ho9
      have r20 := hD.on 10 20 _ rfl (getD_true (hd9 ⟨10, .guard⟩ (by simp) rfl))
      have r22 := hD.on 12 22 _ rfl (getD_true (hd9 ⟨12, .data⟩ (by simp) rfl))
      have r25 := hD.on 15 25 _ rfl (getD_true (hd9 ⟨15, .data⟩ (by simp) rfl))
      clear hD hd9 hi9
      refine wpOp_step rfl (fun K hK => ?_)
      go_simp
      exact hK _ _ ⟨act_eq (by (first | rfl | skip); all_goals (rw [Value.bool.injEq]; first | (simp; done) | (simp; omega) | (rw [decide_eq_false_iff_not]; omega) | (rw [decide_eq_true_iff]; omega))), hM⟩
    · cases ho9
      have r20 := hD.on 10 20 _ rfl (getD_true (hd9 ⟨10, .data⟩ (by simp) rfl))
      have r26 := hD.on 16 26 _ rfl (getD_true (hd9 ⟨16, .data⟩ (by simp) rfl))
      clear hD hd9 hi9
      refine wpOp_step rfl (fun K hK => ?_)
      go_simp
      exact hK _ _ ⟨rfl, hM⟩
  · intro l9 W9 hl9 hM
    clear hl9
    clear hS z1_0_0 z1_0_1 z1_1_0 z1_1_1 z1_1_2
    have hS := hM
    clear hM
    simp only [Puts.lay, List.setIfInBounds_toArray, List.set_cons_zero, List.set_cons_succ]
    obtain ⟨⟨z2_0_0, z2_0_1, -⟩, ⟨z2_1_0, z2_1_1, z2_1_2, -⟩, -⟩ := hS.cells
    go_wp2
    go_ret2
    exact ⟨rfl, hS.fr⟩

set_option maxHeartbeats 400000 in
theorem rJoin_bad (E F : Int) (hbad : NoFo E F) (x fr : Int) (neg : Bool) (w : World) : Calls Try.prog 21 #[.agg #[.int .i64 E, .int .i64 F], .agg #[.bool neg, .int .i64 x, .int .u64 fr]] w fun e w' => e = .returned (.tuple #[.int .u64 0, .int .i64 5]) ∧ Below w.heap.size w w' := by
  have HB := hide hbad
  clear hbad
  go_enter Try.func21, Try.ntmps21
  go_wp2_with fail
  refine (rcheck_bad _ _ _ (unhide HB)).mono ?_
  rintro e w1 ⟨rfl, hb1⟩
  have hS := (Fs.two w _ _ _ _).kept hb1
  obtain ⟨⟨z1_0_0, z1_0_1, -⟩, ⟨z1_1_0, z1_1_1, z1_1_2, -⟩, -⟩ := hS.cells
  go_wp2
  go_ret2
  exact ⟨rfl, hS.fr⟩

end Go.Proofs.Ytafeioonnhnpcaa
