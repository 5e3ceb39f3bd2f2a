/- The call split. -/
import Derived.Test.YtafeioonnhnpcaaFmTake
namespace Go.Proofs.Ytafeioonnhnpcaa
open Go.RowKit

set_option maxHeartbeats 400000 in
theorem split_any (E F b ex fr : Nat) (neg : Bool) (h : Fo E F) (hB : Bt E F b neg ex fr) (w : World) : Calls Try.prog 46 #[.agg #[.int .i64 E, .int .i64 F], .int .u64 b] w fun e w' => e = .returned (.agg #[.bool neg, .int .i64 ex, .int .u64 fr]) ∧ Below w.heap.size w w' := by
  have HB := hide hB
  have hexl := hB.ex64 h
  clear hB
  go_enter Try.func46, Try.ntmps46
  go_wp2_with fail
  refine wp_region_any (by kernel_rfl) ?_
  refine wpAny_det [some (5, .agg #[.int .i64 E, .int .i64 F]), some (6, .int .u64 b), some (7, .int .u64 (neg.toNat : Int)), some (8, .bool neg), some (9, .agg #[.int .i64 E, .int .i64 F]), some (10, .int .u64 b), some (11, .int .u64 ex), some (12, .int .i64 ex), some (13, .agg #[.int .i64 E, .int .i64 F]), some (14, .int .u64 b), some (15, .int .u64 fr), some (16, .agg #[.bool neg, .int .i64 ex, .int .u64 fr]), none]
    (fun l9 W9 => Fs w W9 (pickBs l9 [(12, [⟨w.heap.size, #[.int .i64 E, .int .i64 F], 23⟩, ⟨w.heap.size + 1, #[.bool neg, .int .i64 ex, .int .u64 fr], 27⟩])] [⟨w.heap.size, #[.int .i64 E, .int .i64 F], 23⟩, ⟨w.heap.size + 1, #[.bool false, .int .i64 0, .int .u64 0], 27⟩])) _ _ rfl (by kernel_rfl) rfl rfl ?_ ?_ (Fs.two w _ _ _ _).drew
  · intro l9 t9 W9 i9 hD hi9 hl9 hM
    obtain ⟨o9, ho9, hd9⟩ := (mem_ready.1 hi9).2
    have hin9 : i9 < 13 := by
      by_cases h : i9 < 13
      · exact h
      · rw [Array.getElem?_eq_none (by rw [hD.len]; simp; omega)] at hl9; cases hl9
    have hcase : i9 = 0 ∨ i9 = 1 ∨ i9 = 2 ∨ i9 = 3 ∨ i9 = 4 ∨ i9 = 5 ∨ i9 = 6 ∨ i9 = 7 ∨ i9 = 8 ∨ i9 = 9 ∨ i9 = 10 ∨ i9 = 11 ∨ i9 = 12 := by omega
    clear hin9
    rcases hcase with rfl | rfl | rfl | rfl | rfl | rfl | rfl | rfl | rfl | rfl | rfl | rfl | rfl
    · cases ho9
      have r2 := hD.old 2 _ rfl rfl
      have hM0 : Fs w W9 [⟨w.heap.size, #[.int .i64 E, .int .i64 F], 23⟩, ⟨w.heap.size + 1, #[.bool false, .int .i64 0, .int .u64 0], 27⟩] := by
        have hM1 := hM
        simp only [pickBs] at hM1
        rw [if_neg (hD.waits 0 12 _ ⟨0, .phase⟩ hl9 rfl (by simp) rfl rfl)] at hM1
        exact hM1
      have c9_0 := hM0.cellAt (b := w.heap.size) (cs := #[.int .i64 E, .int .i64 F]) (t := 23) (by simp) 0 _ rfl
      have c9_1 := hM0.cellAt (b := w.heap.size) (cs := #[.int .i64 E, .int .i64 F]) (t := 23) (by simp) 1 _ rfl
      clear hM0
      clear hD hd9 hi9
      refine wpOp_step rfl (fun K hK => ?_)
      go_simp
      exact hK _ _ ⟨rfl, (keepM rfl hM)⟩
    · cases ho9
      have r1 := hD.old 1 _ rfl rfl
      clear hD hd9 hi9
      refine wpOp_step rfl (fun K hK => ?_)
      go_simp
      exact hK _ _ ⟨rfl, (keepM rfl hM)⟩
    · cases ho9
      have r5 := hD.on 0 5 _ rfl (getD_true (hd9 ⟨0, .data⟩ (by simp) rfl))
      have r6 := hD.on 1 6 _ rfl (getD_true (hd9 ⟨1, .data⟩ (by simp) rfl))
      have hM0 : Fs w W9 [⟨w.heap.size, #[.int .i64 E, .int .i64 F], 23⟩, ⟨w.heap.size + 1, #[.bool false, .int .i64 0, .int .u64 0], 27⟩] := by
        have hM1 := hM
        simp only [pickBs] at hM1
        rw [if_neg (hD.waits 2 12 _ ⟨2, .phase⟩ hl9 rfl (by simp) rfl rfl)] at hM1
        exact hM1
      clear hD hd9 hi9
      refine wpOp_step rfl (fun K hK => ?_)
      go_simp
      go_wp2_with fail
      refine (take2 _ _ _ ex fr neg _ h (unhide HB)).mono ?_
      rintro en w9 ⟨rfl, hb9⟩
      exact hK _ _ ⟨rfl, keepM rfl (hM.kept hb9)⟩
    · cases ho9
      have r7 := hD.on 2 7 _ rfl (getD_true (hd9 ⟨2, .data⟩ (by simp) rfl))
      clear hD hd9 hi9
      refine wpOp_step rfl (fun K hK => ?_)
      go_simp
      exact hK _ _ ⟨act_eq (by cases neg <;> rfl), (keepM rfl hM)⟩
    · cases ho9
      have r2 := hD.old 2 _ rfl rfl
      have hM0 : Fs w W9 [⟨w.heap.size, #[.int .i64 E, .int .i64 F], 23⟩, ⟨w.heap.size + 1, #[.bool false, .int .i64 0, .int .u64 0], 27⟩] := by
        have hM1 := hM
        simp only [pickBs] at hM1
        rw [if_neg (hD.waits 4 12 _ ⟨4, .phase⟩ hl9 rfl (by simp) rfl rfl)] at hM1
        exact hM1
      have c9_0 := hM0.cellAt (b := w.heap.size) (cs := #[.int .i64 E, .int .i64 F]) (t := 23) (by simp) 0 _ rfl
      have c9_1 := hM0.cellAt (b := w.heap.size) (cs := #[.int .i64 E, .int .i64 F]) (t := 23) (by simp) 1 _ rfl
      clear hM0
      clear hD hd9 hi9
      refine wpOp_step rfl (fun K hK => ?_)
      go_simp
      exact hK _ _ ⟨rfl, (keepM rfl hM)⟩
    · cases ho9
      have r1 := hD.old 1 _ rfl rfl
      clear hD hd9 hi9
      refine wpOp_step rfl (fun K hK => ?_)
      go_simp
      exact hK _ _ ⟨rfl, (keepM rfl hM)⟩
    · cases ho9
      have r9 := hD.on 4 9 _ rfl (getD_true (hd9 ⟨4, .data⟩ (by simp) rfl))
      have r10 := hD.on 5 10 _ rfl (getD_true (hd9 ⟨5, .data⟩ (by simp) rfl))
      have hM0 : Fs w W9 [⟨w.heap.size, #[.int .i64 E, .int .i64 F], 23⟩, ⟨w.heap.size + 1, #[.bool false, .int .i64 0, .int .u64 0], 27⟩] := by
        have hM1 := hM
        simp only [pickBs] at hM1
        rw [if_neg (hD.waits 6 12 _ ⟨6, .phase⟩ hl9 rfl (by simp) rfl rfl)] at hM1
        exact hM1
      clear hD hd9 hi9
      refine wpOp_step rfl (fun K hK => ?_)
      go_simp
      go_wp2_with fail
      refine (take1 _ _ _ ex fr neg _ h (unhide HB)).mono ?_
      rintro en w9 ⟨rfl, hb9⟩
      exact hK _ _ ⟨rfl, keepM rfl (hM.kept hb9)⟩
    · cases ho9
      have r11 := hD.on 6 11 _ rfl (getD_true (hd9 ⟨6, .data⟩ (by simp) rfl))
      clear hD hd9 hi9
      refine wpOp_step rfl (fun K hK => ?_)
      go_simp
      exact hK _ _ ⟨act_eq (by (show Value.int _ _ = Value.int _ _; congr 1; (first | rfl | omega | (rw [IntKind.wrap_i64]; omega) | (rw [IntKind.wrap_u64]; omega)))), (keepM rfl hM)⟩
    · cases ho9
      have r2 := hD.old 2 _ rfl rfl
      have hM0 : Fs w W9 [⟨w.heap.size, #[.int .i64 E, .int .i64 F], 23⟩, ⟨w.heap.size + 1, #[.bool false, .int .i64 0, .int .u64 0], 27⟩] := by
        have hM1 := hM
        simp only [pickBs] at hM1
        rw [if_neg (hD.waits 8 12 _ ⟨8, .phase⟩ hl9 rfl (by simp) rfl rfl)] at hM1
        exact hM1
      have c9_0 := hM0.cellAt (b := w.heap.size) (cs := #[.int .i64 E, .int .i64 F]) (t := 23) (by simp) 0 _ rfl
      have c9_1 := hM0.cellAt (b := w.heap.size) (cs := #[.int .i64 E, .int .i64 F]) (t := 23) (by simp) 1 _ rfl
      clear hM0
      clear hD hd9 hi9
      refine wpOp_step rfl (fun K hK => ?_)
      go_simp
      exact hK _ _ ⟨rfl, (keepM rfl hM)⟩
    · cases ho9
      have r1 := hD.old 1 _ rfl rfl
      clear hD hd9 hi9
      refine wpOp_step rfl (fun K hK => ?_)
      go_simp
      exact hK _ _ ⟨rfl, (keepM rfl hM)⟩
    · cases ho9
      have r13 := hD.on 8 13 _ rfl (getD_true (hd9 ⟨8, .data⟩ (by simp) rfl))
      have r14 := hD.on 9 14 _ rfl (getD_true (hd9 ⟨9, .data⟩ (by simp) rfl))
      have hM0 : Fs w W9 [⟨w.heap.size, #[.int .i64 E, .int .i64 F], 23⟩, ⟨w.heap.size + 1, #[.bool false, .int .i64 0, .int .u64 0], 27⟩] := by
        have hM1 := hM
        simp only [pickBs] at hM1
        rw [if_neg (hD.waits 10 12 _ ⟨10, .chain⟩ hl9 rfl (by simp) rfl rfl)] at hM1
        exact hM1
      clear hD hd9 hi9
      refine wpOp_step rfl (fun K hK => ?_)
      go_simp
      go_wp2_with fail
      refine (take0 _ _ _ ex fr neg _ h (unhide HB)).mono ?_
      rintro en w9 ⟨rfl, hb9⟩
      exact hK _ _ ⟨rfl, keepM rfl (hM.kept hb9)⟩
    · cases ho9
      have r8 := hD.on 3 8 _ rfl (getD_true (hd9 ⟨3, .data⟩ (by simp) rfl))
      have r12 := hD.on 7 12 _ rfl (getD_true (hd9 ⟨7, .data⟩ (by simp) rfl))
      have r15 := hD.on 10 15 _ rfl (getD_true (hd9 ⟨10, .data⟩ (by simp) rfl))
      clear hD hd9 hi9
      refine wpOp_step rfl (fun K hK => ?_)
      go_simp
      exact hK _ _ ⟨rfl, (keepM rfl hM)⟩
    · cases ho9
      have r4 := hD.old 4 _ rfl rfl
      have r16 := hD.on 11 16 _ rfl (getD_true (hd9 ⟨11, .data⟩ (by simp) rfl))
      have hM0 : Fs w W9 [⟨w.heap.size, #[.int .i64 E, .int .i64 F], 23⟩, ⟨w.heap.size + 1, #[.bool false, .int .i64 0, .int .u64 0], 27⟩] := by
        have hM1 := hM
        simp only [pickBs] at hM1
        rw [if_neg (by rw [hl9]; simp)] at hM1
        exact hM1
      have c9_0 := hM0.cellAt (b := w.heap.size + 1) (cs := #[.bool false, .int .i64 0, .int .u64 0]) (t := 27) (by simp) 0 _ rfl
      have z9_0 := hM0.frozen (b := w.heap.size + 1) (cs := #[.bool false, .int .i64 0, .int .u64 0]) (t := 27) (by simp) 0
      have c9_1 := hM0.cellAt (b := w.heap.size + 1) (cs := #[.bool false, .int .i64 0, .int .u64 0]) (t := 27) (by simp) 1 _ rfl
      have z9_1 := hM0.frozen (b := w.heap.size + 1) (cs := #[.bool false, .int .i64 0, .int .u64 0]) (t := 27) (by simp) 1
      have c9_2 := hM0.cellAt (b := w.heap.size + 1) (cs := #[.bool false, .int .i64 0, .int .u64 0]) (t := 27) (by simp) 2 _ rfl
      have z9_2 := hM0.frozen (b := w.heap.size + 1) (cs := #[.bool false, .int .i64 0, .int .u64 0]) (t := 27) (by simp) 2
      clear hD hd9 hi9
      refine wpOp_step rfl (fun K hK => ?_)
      go_simp
      exact hK _ _ ⟨rfl, putM trivial hl9 (((hM0.put (b := w.heap.size + 1) (cs := #[.bool false, .int .i64 0, .int .u64 0]) (t := 27) (by simp) (by simp) 0 (.bool neg) [⟨w.heap.size, #[.int .i64 E, .int .i64 F], 23⟩, ⟨w.heap.size + 1, #[.bool neg, .int .i64 0, .int .u64 0], 27⟩] (by simp)).put (b := w.heap.size + 1) (cs := #[.bool neg, .int .i64 0, .int .u64 0]) (t := 27) (by simp) (by simp) 1 (.int .i64 ex) [⟨w.heap.size, #[.int .i64 E, .int .i64 F], 23⟩, ⟨w.heap.size + 1, #[.bool neg, .int .i64 ex, .int .u64 0], 27⟩] (by simp)).put (b := w.heap.size + 1) (cs := #[.bool neg, .int .i64 ex, .int .u64 0]) (t := 27) (by simp) (by simp) 2 (.int .u64 fr) [⟨w.heap.size, #[.int .i64 E, .int .i64 F], 23⟩, ⟨w.heap.size + 1, #[.bool neg, .int .i64 ex, .int .u64 fr], 27⟩] (by simp))⟩
  · intro l9 W9 hl9 hM
    simp only [pickBs] at hM
    rw [if_pos (hl9 12 (by decide))] at hM
    clear hl9
    have hS := hM
    clear hM
    simp only [Puts.lay, List.setIfInBounds_toArray, List.set_cons_zero, List.set_cons_succ]
    obtain ⟨⟨z1_0_0, z1_0_1, -⟩, ⟨z1_1_0, z1_1_1, z1_1_2, -⟩, -⟩ := hS.cells
    go_wp2
    exact bodyPost_ret (v := .agg #[.bool neg, .int .i64 ex, .int .u64 fr]) (by simp [results, Try.results46, go_sem, z1_1_0, z1_1_1, z1_1_2]) rfl ⟨rfl, hS.fr⟩

end Go.Proofs.Ytafeioonnhnpcaa
