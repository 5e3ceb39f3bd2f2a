/- The fields of the known floats. -/
import Derived.Test.YtafeioonnhnpcaaFmJoin
namespace Go.Proofs.Ytafeioonnhnpcaa
open Go.RowKit

set_option maxHeartbeats 400000 in
theorem noughtParts_any (E F : Nat) (w : World) : Calls Try.prog 58 #[.agg #[.int .i64 E, .int .i64 F]] w fun e w' => e = .returned (.agg #[.bool false, .int .i64 0, .int .u64 0]) ∧ Below w.heap.size w w' := by
  go_enter Try.func58, Try.ntmps58
  go_wp2
  exact bodyPost_ret (v := .agg #[.bool false, .int .i64 0, .int .u64 0]) (by simp [results, Try.results58, go_sem]) rfl ⟨rfl, (Fs.two w _ _ _ _).fr⟩

set_option maxHeartbeats 400000 in
theorem normalParts_any (E F : Nat) (w : World) : Calls Try.prog 62 #[.agg #[.int .i64 E, .int .i64 F]] w fun e w' => e = .returned (.agg #[.bool false, .int .i64 1, .int .u64 0]) ∧ Below w.heap.size w w' := by
  go_enter Try.func62, Try.ntmps62
  go_wp2
  exact bodyPost_ret (v := .agg #[.bool false, .int .i64 1, .int .u64 0]) (by simp [results, Try.results62, go_sem]) rfl ⟨rfl, (Fs.two w _ _ _ _).fr⟩

set_option maxHeartbeats 400000 in
theorem leastParts_any (E F : Nat) (w : World) : Calls Try.prog 63 #[.agg #[.int .i64 E, .int .i64 F]] w fun e w' => e = .returned (.agg #[.bool false, .int .i64 0, .int .u64 1]) ∧ Below w.heap.size w w' := by
  go_enter Try.func63, Try.ntmps63
  go_wp2
  exact bodyPost_ret (v := .agg #[.bool false, .int .i64 0, .int .u64 1]) (by simp [results, Try.results63, go_sem]) rfl ⟨rfl, (Fs.two w _ _ _ _).fr⟩

set_option maxHeartbeats 400000 in
theorem infParts_any (E F m1 : Nat) (h : Fo E F) (hm : Hid (m1 = 2 ^ E - 1)) (w : World) : Calls Try.prog 60 #[.agg #[.int .i64 E, .int .i64 F]] w fun e w' => e = .returned (.agg #[.bool false, .int .i64 m1, .int .u64 0]) ∧ Below w.heap.size w w' := by
  go_enter Try.func60, Try.ntmps60
  go_wp2_with fail
  refine (lastExp_any _ _ m1 _ h hm).mono ?_
  rintro e w1 ⟨rfl, hb1⟩
  have hS := (Fs.two w _ _ _ _).kept hb1
  obtain ⟨⟨z1_0_0, z1_0_1, -⟩, ⟨z1_1_0, z1_1_1, z1_1_2, -⟩, -⟩ := hS.cells
  have fz0 := hS.frozen (b := w.heap.size + 1) (cs := #[.bool false, .int .i64 0, .int .u64 0]) (t := 27) (by simp) 0
  have fz1 := hS.frozen (b := w.heap.size + 1) (cs := #[.bool false, .int .i64 0, .int .u64 0]) (t := 27) (by simp) 1
  have fz2 := hS.frozen (b := w.heap.size + 1) (cs := #[.bool false, .int .i64 0, .int .u64 0]) (t := 27) (by simp) 2
  go_wp2
  exact bodyPost_ret (v := .agg #[.bool false, .int .i64 m1, .int .u64 0]) (by simp [results, Try.results60, go_sem, z1_1_0, z1_1_1, z1_1_2]) rfl ⟨rfl, ((hS.fr.setCell (by simp) _).setCell (by simp) _).setCell (by simp) _⟩

set_option maxHeartbeats 400000 in
theorem greatestParts_any (E F m1 m0 : Nat) (h : Fo E F) (hm : Hid (m1 + 1 = 2 ^ E - 1)) (HM0 : Hid (m0 = 2 ^ F - 1)) (w : World) : Calls Try.prog 61 #[.agg #[.int .i64 E, .int .i64 F]] w fun e w' => e = .returned (.agg #[.bool false, .int .i64 m1, .int .u64 m0]) ∧ Below w.heap.size w w' := by
  have hml : m1 < 2048 := by have := pow_bound h.e11; have := unhide hm; omega
  go_enter Try.func61, Try.ntmps61
  go_wp2_with fail
  refine wp_region_any (by kernel_rfl) ?_
  refine wpAny_det [some (3, .agg #[.int .i64 E, .int .i64 F]), some (4, .int .i64 ((m1 + 1 : Nat) : Int)), some (5, .int .i64 m1), some (6, .agg #[.int .i64 E, .int .i64 F]), some (7, .int .u64 m0), some (8, .agg #[.bool false, .int .i64 m1, .int .u64 m0]), none]
    (fun l9 W9 => Fs w W9 (pickBs l9 [(6, [⟨w.heap.size, #[.int .i64 E, .int .i64 F], 23⟩, ⟨w.heap.size + 1, #[.bool false, .int .i64 m1, .int .u64 m0], 27⟩])] [⟨w.heap.size, #[.int .i64 E, .int .i64 F], 23⟩, ⟨w.heap.size + 1, #[.bool false, .int .i64 0, .int .u64 0], 27⟩])) _ _ rfl (by kernel_rfl) rfl rfl ?_ ?_ (Fs.two w _ _ _ _).drew
  · intro l9 t9 W9 i9 hD hi9 hl9 hM
    obtain ⟨o9, ho9, hd9⟩ := (mem_ready.1 hi9).2
    have hin9 : i9 < 7 := by
      by_cases h : i9 < 7
      · exact h
      · rw [Array.getElem?_eq_none (by rw [hD.len]; simp; omega)] at hl9; cases hl9
    have hcase : i9 = 0 ∨ i9 = 1 ∨ i9 = 2 ∨ i9 = 3 ∨ i9 = 4 ∨ i9 = 5 ∨ i9 = 6 := by omega
    clear hin9
    rcases hcase with rfl | rfl | rfl | rfl | rfl | rfl | rfl
    · cases ho9
      have r1 := hD.old 1 _ rfl rfl
      have hM0 : Fs w W9 [⟨w.heap.size, #[.int .i64 E, .int .i64 F], 23⟩, ⟨w.heap.size + 1, #[.bool false, .int .i64 0, .int .u64 0], 27⟩] := by
        have hM1 := hM
        simp only [pickBs] at hM1
        rw [if_neg (hD.waits 0 6 _ ⟨0, .phase⟩ hl9 rfl (by simp) rfl rfl)] at hM1
        exact hM1
      have c9_0 := hM0.cellAt (b := w.heap.size) (cs := #[.int .i64 E, .int .i64 F]) (t := 23) (by simp) 0 _ rfl
      have c9_1 := hM0.cellAt (b := w.heap.size) (cs := #[.int .i64 E, .int .i64 F]) (t := 23) (by simp) 1 _ rfl
      clear hM0
      clear hD hd9 hi9
      refine wpOp_step rfl (fun K hK => ?_)
      go_simp
      exact hK _ _ ⟨rfl, (keepM rfl hM)⟩
    · cases ho9
      have r3 := hD.on 0 3 _ rfl (getD_true (hd9 ⟨0, .data⟩ (by simp) rfl))
      have hM0 : Fs w W9 [⟨w.heap.size, #[.int .i64 E, .int .i64 F], 23⟩, ⟨w.heap.size + 1, #[.bool false, .int .i64 0, .int .u64 0], 27⟩] := by
        have hM1 := hM
        simp only [pickBs] at hM1
        rw [if_neg (hD.waits 1 6 _ ⟨1, .phase⟩ hl9 rfl (by simp) rfl rfl)] at hM1
        exact hM1
      clear hD hd9 hi9
      refine wpOp_step rfl (fun K hK => ?_)
      go_simp
      go_wp2_with fail
      refine (lastExp_any _ _ (m1 + 1) _ h hm).mono ?_
      rintro en w9 ⟨rfl, hb9⟩
      exact hK _ _ ⟨rfl, keepM rfl (hM.kept hb9)⟩
    · cases ho9
      have r4 := hD.on 1 4 _ rfl (getD_true (hd9 ⟨1, .data⟩ (by simp) rfl))
      clear hD hd9 hi9
      refine wpOp_step rfl (fun K hK => ?_)
      go_simp
      exact hK _ _ ⟨act_eq (by (show Value.int _ _ = Value.int _ _; congr 1; (first | rfl | omega | (rw [IntKind.wrap_i64]; omega) | (rw [IntKind.wrap_u64]; omega)))), (keepM rfl hM)⟩
    · cases ho9
      have r1 := hD.old 1 _ rfl rfl
      have hM0 : Fs w W9 [⟨w.heap.size, #[.int .i64 E, .int .i64 F], 23⟩, ⟨w.heap.size + 1, #[.bool false, .int .i64 0, .int .u64 0], 27⟩] := by
        have hM1 := hM
        simp only [pickBs] at hM1
        rw [if_neg (hD.waits 3 6 _ ⟨3, .phase⟩ hl9 rfl (by simp) rfl rfl)] at hM1
        exact hM1
      have c9_0 := hM0.cellAt (b := w.heap.size) (cs := #[.int .i64 E, .int .i64 F]) (t := 23) (by simp) 0 _ rfl
      have c9_1 := hM0.cellAt (b := w.heap.size) (cs := #[.int .i64 E, .int .i64 F]) (t := 23) (by simp) 1 _ rfl
      clear hM0
      clear hD hd9 hi9
      refine wpOp_step rfl (fun K hK => ?_)
      go_simp
      exact hK _ _ ⟨rfl, (keepM rfl hM)⟩
    · cases ho9
      have r6 := hD.on 3 6 _ rfl (getD_true (hd9 ⟨3, .data⟩ (by simp) rfl))
      have hM0 : Fs w W9 [⟨w.heap.size, #[.int .i64 E, .int .i64 F], 23⟩, ⟨w.heap.size + 1, #[.bool false, .int .i64 0, .int .u64 0], 27⟩] := by
        have hM1 := hM
        simp only [pickBs] at hM1
        rw [if_neg (hD.waits 4 6 _ ⟨4, .chain⟩ hl9 rfl (by simp) rfl rfl)] at hM1
        exact hM1
      clear hD hd9 hi9
      refine wpOp_step rfl (fun K hK => ?_)
      go_simp
      go_wp2_with fail
      refine (full0 _ _ m0 _ h HM0).mono ?_
      rintro en w9 ⟨rfl, hb9⟩
      exact hK _ _ ⟨rfl, keepM rfl (hM.kept hb9)⟩
    · cases ho9
      have r5 := hD.on 2 5 _ rfl (getD_true (hd9 ⟨2, .data⟩ (by simp) rfl))
      have r7 := hD.on 4 7 _ rfl (getD_true (hd9 ⟨4, .data⟩ (by simp) rfl))
      clear hD hd9 hi9
      refine wpOp_step rfl (fun K hK => ?_)
      go_simp
      exact hK _ _ ⟨rfl, (keepM rfl hM)⟩
    · cases ho9
      have r2 := hD.old 2 _ rfl rfl
      have r8 := hD.on 5 8 _ rfl (getD_true (hd9 ⟨5, .data⟩ (by simp) rfl))
      have hM0 : Fs w W9 [⟨w.heap.size, #[.int .i64 E, .int .i64 F], 23⟩, ⟨w.heap.size + 1, #[.bool false, .int .i64 0, .int .u64 0], 27⟩] := by
        have hM1 := hM
        simp only [pickBs] at hM1
        rw [if_neg (by rw [hl9]; simp)] at hM1
        exact hM1
      have c9_0 := hM0.cellAt (b := w.heap.size + 1) (cs := #[.bool false, .int .i64 0, .int .u64 0]) (t := 27) (by simp) 0 _ rfl
      have z9_0 := hM0.frozen (b := w.heap.size + 1) (cs := #[.bool false, .int .i64 0, .int .u64 0]) (t := 27) (by simp) 0
      have c9_1 := hM0.cellAt (b := w.heap.size + 1) (cs := #[.bool false, .int .i64 0, .int .u64 0]) (t := 27) (by simp) 1 _ rfl
      have z9_1 := hM0.frozen (b := w.heap.size + 1) (cs := #[.bool false, .int .i64 0, .int .u64 0]) (t := 27) (by simp) 1
      have c9_2 := hM0.cellAt (b := w.heap.size + 1) (cs := #[.bool false, .int .i64 0, .int .u64 0]) (t := 27) (by simp) 2 _ rfl
      have z9_2 := hM0.frozen (b := w.heap.size + 1) (cs := #[.bool false, .int .i64 0, .int .u64 0]) (t := 27) (by simp) 2
      clear hD hd9 hi9
      refine wpOp_step rfl (fun K hK => ?_)
      go_simp
      exact hK _ _ ⟨rfl, putM trivial hl9 (((hM0.put (b := w.heap.size + 1) (cs := #[.bool false, .int .i64 0, .int .u64 0]) (t := 27) (by simp) (by simp) 0 (.bool false) [⟨w.heap.size, #[.int .i64 E, .int .i64 F], 23⟩, ⟨w.heap.size + 1, #[.bool false, .int .i64 0, .int .u64 0], 27⟩] (by simp)).put (b := w.heap.size + 1) (cs := #[.bool false, .int .i64 0, .int .u64 0]) (t := 27) (by simp) (by simp) 1 (.int .i64 m1) [⟨w.heap.size, #[.int .i64 E, .int .i64 F], 23⟩, ⟨w.heap.size + 1, #[.bool false, .int .i64 m1, .int .u64 0], 27⟩] (by simp)).put (b := w.heap.size + 1) (cs := #[.bool false, .int .i64 m1, .int .u64 0]) (t := 27) (by simp) (by simp) 2 (.int .u64 m0) [⟨w.heap.size, #[.int .i64 E, .int .i64 F], 23⟩, ⟨w.heap.size + 1, #[.bool false, .int .i64 m1, .int .u64 m0], 27⟩] (by simp))⟩
  · intro l9 W9 hl9 hM
    simp only [pickBs] at hM
    rw [if_pos (hl9 6 (by decide))] at hM
    clear hl9
    have hS := hM
    clear hM
    simp only [Puts.lay, List.setIfInBounds_toArray, List.set_cons_zero, List.set_cons_succ]
    obtain ⟨⟨z1_0_0, z1_0_1, -⟩, ⟨z1_1_0, z1_1_1, z1_1_2, -⟩, -⟩ := hS.cells
    go_wp2
    exact bodyPost_ret (v := .agg #[.bool false, .int .i64 m1, .int .u64 m0]) (by simp [results, Try.results61, go_sem, z1_1_0, z1_1_1, z1_1_2]) rfl ⟨rfl, hS.fr⟩

end Go.Proofs.Ytafeioonnhnpcaa
