/- Of what NearStepsRow stands on: NrBeside NrRows. -/
import Derived.Test.YtdfmanglfdeooaaGreatDoorPaf
namespace Go.Proofs.YtdfmanglfdeooaaGreatDoor
open Go.RowKit
set_option maxRecDepth 20000 in
set_option maxHeartbeats 2000000 in
theorem beside_end (E F b : Int) (d : Bool) (H0 : Tel 42 #[.agg #[.int .i64 E,.int .i64 F],.int .u64 b] (.int .i64 0)) (c : Int) (hc : (c == (5 : Int)) = false) (HC : Tel 43 #[.agg #[.int .i64 E,.int .i64 F],.int .u64 b] (.tuple #[.int .u8 c,.int .i64 0])) (en : Int) (HI : Tel 45 #[.agg #[.int .i64 E,.int .i64 F],.bool d] (.tuple #[.int .u64 en,.int .i64 0])) (q r : Int) (HP : Tel 22 #[.agg #[.int .i64 E,.int .i64 F],.int .u64 b] (.agg #[.int .u64 q,.int .u64 r])) (HQ : Tel 22 #[.agg #[.int .i64 E,.int .i64 F],.int .u64 en] (.agg #[.int .u64 q,.int .u64 r])) (w : World)  :
  Calls Tryz.prog 24 #[.agg #[.int .i64 E,.int .i64 F],.int .u64 b,.bool d] w fun e w' => e = .returned (.tuple #[.int .u64 0,.int .i64 60]) ∧ Below w.heap.size w w' := by
 go_enter Tryz.func24,Tryz.ntmps24
 go_wp2_with fail
 refine (check1_ok E F _ b H0 _ (by have := heap_alloc_new (w.alloc (.cells #[.int .i64 E,.int .i64 F] 23)) (.cells #[.int .u64 b] 24); simpa only [World.size_alloc] using this)).mono ?_
 rintro e w1 ⟨rfl,hb1⟩
 have hS : Fs w (w.alloc (.cells #[.int .i64 E,.int .i64 F] 23)) [⟨w.heap.size,#[.int .i64 E,.int .i64 F],23⟩] := Fs.one w _ _
 replace hS := ((hS.alloc #[.int .u64 b] 24).kept hb1).sub (fun x hx => List.mem_cons_of_mem _ hx)
 obtain ⟨⟨z1_0_0,z1_0_1,-⟩,-⟩ := hS.cells
 go_wp2_with fail
 refine (numbers1_yes E F c hc _ b HC _ (by have := heap_alloc_new w1 (.cells #[.int .u64 b] 24); simpa only [World.size_alloc] using this)).mono ?_
 rintro e w2 ⟨rfl,hb2⟩
 replace hS := ((hS.alloc #[.int .u64 b] 24).kept hb2).sub (fun x hx => List.mem_cons_of_mem _ hx)
 clear z1_0_0 z1_0_1
 obtain ⟨⟨z2_0_0,z2_0_1,-⟩,-⟩ := hS.cells
 go_wp2_with fail
 refine (HI _).mono ?_
 rintro e w3 ⟨rfl,hb3⟩
 replace hS := hS.kept hb3
 clear z2_0_0 z2_0_1
 obtain ⟨⟨z3_0_0,z3_0_1,-⟩,-⟩ := hS.cells
 go_wp2_with fail
 refine (HP _).mono ?_
 rintro e w4 ⟨rfl,hb4⟩
 replace hS := hS.kept hb4
 clear z3_0_0 z3_0_1
 obtain ⟨⟨z4_0_0,z4_0_1,-⟩,-⟩ := hS.cells
 have hltw4_0 : w.heap.size < w4.heap.size := block_lt (hS.bx ⟨w.heap.size,#[.int .i64 E,.int .i64 F],23⟩ (by simp))
 replace hS := hS.alloc #[.int .u64 q,.int .u64 r] 59
 clear z4_0_0 z4_0_1
 obtain ⟨⟨z5_0_0,z5_0_1,-⟩,⟨z5_1_0,z5_1_1,-⟩,-⟩ := hS.cells
 have hEq := eq_spot q r q r
 go_wp2_with fail
 refine wp_region_any (by kernel_rfl) ?_
 refine wpAny_det [some (37,.agg #[.int .u64 q,.int .u64 r]),some (38,.agg #[.int .i64 E,.int .i64 F]),some (39,.int .u64 en),some (40,.agg #[.int .u64 q,.int .u64 r]),some (41,.bool true)]
  (fun _ W9 => Fs w W9 [⟨w4.heap.size,#[.int .u64 q,.int .u64 r],59⟩,⟨w.heap.size,#[.int .i64 E,.int .i64 F],23⟩]) _ _ rfl (by kernel_rfl) rfl rfl ?_ ?_ (hS).drew
 ·intro l9 t9 W9 i9 hD hi9 hl9 hM
  obtain ⟨o9,ho9,hd9⟩ := (mem_ready.1 hi9).2
  have hin9 : i9 < 5 := by
   by_cases h : i9 < 5
   ·exact h
   ·rw [Array.getElem?_eq_none (by rw [hD.len]; simp; omega)] at hl9; cases hl9
  have hcase : i9 = 0 ∨ i9 = 1 ∨ i9 = 2 ∨ i9 = 3 ∨ i9 = 4 := by omega
  clear hin9
  rcases hcase with rfl | rfl | rfl | rfl | rfl
  ·cases ho9
   have r11 := hD.old 11 _ rfl rfl
   have hM0 := hM
   have c9_0 := hM0.cellAt (b := w4.heap.size) (cs := #[.int .u64 q,.int .u64 r]) (t := 59) (by simp) 0 _ rfl
   have c9_1 := hM0.cellAt (b := w4.heap.size) (cs := #[.int .u64 q,.int .u64 r]) (t := 59) (by simp) 1 _ rfl
   clear hM0
   clear hD hd9 hi9
   refine wpOp_step rfl (fun K hK => ?_)
   go_simp
   exact hK _ _ ⟨rfl,hM⟩
  ·cases ho9
   have r3 := hD.old 3 _ rfl rfl
   have hM0 := hM
   have c9_0 := hM0.cellAt (b := w.heap.size) (cs := #[.int .i64 E,.int .i64 F]) (t := 23) (by simp) 0 _ rfl
   have c9_1 := hM0.cellAt (b := w.heap.size) (cs := #[.int .i64 E,.int .i64 F]) (t := 23) (by simp) 1 _ rfl
   clear hM0
   clear hD hd9 hi9
   refine wpOp_step rfl (fun K hK => ?_)
   go_simp
   exact hK _ _ ⟨rfl,hM⟩
  ·cases ho9
   have r9 := hD.old 9 _ rfl rfl
   clear hD hd9 hi9
   refine wpOp_step rfl (fun K hK => ?_)
   go_simp
   exact hK _ _ ⟨rfl,hM⟩
  ·cases ho9
   have r38 := hD.on 1 38 _ rfl (getD_true (hd9 ⟨1,.data⟩ (by simp) rfl))
   have r39 := hD.on 2 39 _ rfl (getD_true (hd9 ⟨2,.data⟩ (by simp) rfl))
   clear hD hd9 hi9
   refine wpOp_step rfl (fun K hK => ?_)
   go_simp
   go_wp2_with fail
   refine (HQ _).mono ?_
   rintro en w9 ⟨rfl,hb9⟩
   exact hK _ _ ⟨rfl,hM.kept hb9⟩
  ·cases ho9
   have r37 := hD.on 0 37 _ rfl (getD_true (hd9 ⟨0,.data⟩ (by simp) rfl))
   have r40 := hD.on 3 40 _ rfl (getD_true (hd9 ⟨3,.data⟩ (by simp) rfl))
   clear hD hd9 hi9
   refine wpOp_step rfl (fun K hK => ?_)
   go_simp
   exact hK _ _ ⟨act_eq (by simp),hM⟩
 ·intro l9 W9 hl9 hM
  clear hl9
  clear hS z5_0_0 z5_0_1 z5_1_0 z5_1_1
  have hS := hM
  clear hM
  simp only [Puts.lay,List.setIfInBounds_toArray,List.set_cons_zero,List.set_cons_succ]
  obtain ⟨⟨z6_0_0,z6_0_1,-⟩,⟨z6_1_0,z6_1_1,-⟩,-⟩ := hS.cells
  clear hEq
  go_wp2
  go_ret2
  exact ⟨rfl,hS.fr⟩
set_option maxRecDepth 20000 in
set_option maxHeartbeats 2000000 in
theorem beside_up (E F b : Int) (H0 : Tel 42 #[.agg #[.int .i64 E,.int .i64 F],.int .u64 b] (.int .i64 0)) (c : Int) (hc : (c == (5 : Int)) = false) (HC : Tel 43 #[.agg #[.int .i64 E,.int .i64 F],.int .u64 b] (.tuple #[.int .u8 c,.int .i64 0])) (en : Int) (HI : Tel 45 #[.agg #[.int .i64 E,.int .i64 F],.bool false] (.tuple #[.int .u64 en,.int .i64 0])) (q r : Int) (HP : Tel 22 #[.agg #[.int .i64 E,.int .i64 F],.int .u64 b] (.agg #[.int .u64 q,.int .u64 r])) (q' r' : Int) (HQ : Tel 22 #[.agg #[.int .i64 E,.int .i64 F],.int .u64 en] (.agg #[.int .u64 q',.int .u64 r'])) (hne : (q == q' && r == r') = false) (p v : Int) (hp : -9223372036854775000 ≤ p) (hp2 : p ≤ 9223372036854775000) (neg : Bool) (hneg : (q == (1 : Int)) = neg) (HL : Tel 23 #[.agg #[.int .u64 q,.int .u64 r]] (.int .i64 p)) (HA : Tel 46 #[.agg #[.int .i64 E,.int .i64 F],.int .i64 (p + 1),.bool neg] (.int .u64 v)) (w : World)  :
  Calls Tryz.prog 24 #[.agg #[.int .i64 E,.int .i64 F],.int .u64 b,.bool false] w fun e w' => e = .returned (.tuple #[.int .u64 v,.int .i64 0]) ∧ Below w.heap.size w w' := by
 go_enter Tryz.func24,Tryz.ntmps24
 go_wp2_with fail
 refine (check1_ok E F _ b H0 _ (by have := heap_alloc_new (w.alloc (.cells #[.int .i64 E,.int .i64 F] 23)) (.cells #[.int .u64 b] 24); simpa only [World.size_alloc] using this)).mono ?_
 rintro e w1 ⟨rfl,hb1⟩
 have hS : Fs w (w.alloc (.cells #[.int .i64 E,.int .i64 F] 23)) [⟨w.heap.size,#[.int .i64 E,.int .i64 F],23⟩] := Fs.one w _ _
 replace hS := ((hS.alloc #[.int .u64 b] 24).kept hb1).sub (fun x hx => List.mem_cons_of_mem _ hx)
 obtain ⟨⟨z1_0_0,z1_0_1,-⟩,-⟩ := hS.cells
 go_wp2_with fail
 refine (numbers1_yes E F c hc _ b HC _ (by have := heap_alloc_new w1 (.cells #[.int .u64 b] 24); simpa only [World.size_alloc] using this)).mono ?_
 rintro e w2 ⟨rfl,hb2⟩
 replace hS := ((hS.alloc #[.int .u64 b] 24).kept hb2).sub (fun x hx => List.mem_cons_of_mem _ hx)
 clear z1_0_0 z1_0_1
 obtain ⟨⟨z2_0_0,z2_0_1,-⟩,-⟩ := hS.cells
 go_wp2_with fail
 refine (HI _).mono ?_
 rintro e w3 ⟨rfl,hb3⟩
 replace hS := hS.kept hb3
 clear z2_0_0 z2_0_1
 obtain ⟨⟨z3_0_0,z3_0_1,-⟩,-⟩ := hS.cells
 go_wp2_with fail
 refine (HP _).mono ?_
 rintro e w4 ⟨rfl,hb4⟩
 replace hS := hS.kept hb4
 clear z3_0_0 z3_0_1
 obtain ⟨⟨z4_0_0,z4_0_1,-⟩,-⟩ := hS.cells
 have hltw4_0 : w.heap.size < w4.heap.size := block_lt (hS.bx ⟨w.heap.size,#[.int .i64 E,.int .i64 F],23⟩ (by simp))
 replace hS := hS.alloc #[.int .u64 q,.int .u64 r] 59
 clear z4_0_0 z4_0_1
 obtain ⟨⟨z5_0_0,z5_0_1,-⟩,⟨z5_1_0,z5_1_1,-⟩,-⟩ := hS.cells
 have hEq := eq_spot q r q' r'
 go_wp2_with fail
 refine wp_region_any (by kernel_rfl) ?_
 refine wpAny_det [some (37,.agg #[.int .u64 q,.int .u64 r]),some (38,.agg #[.int .i64 E,.int .i64 F]),some (39,.int .u64 en),some (40,.agg #[.int .u64 q',.int .u64 r']),some (41,.bool false)]
  (fun _ W9 => Fs w W9 [⟨w4.heap.size,#[.int .u64 q,.int .u64 r],59⟩,⟨w.heap.size,#[.int .i64 E,.int .i64 F],23⟩]) _ _ rfl (by kernel_rfl) rfl rfl ?_ ?_ (hS).drew
 ·intro l9 t9 W9 i9 hD hi9 hl9 hM
  obtain ⟨o9,ho9,hd9⟩ := (mem_ready.1 hi9).2
  have hin9 : i9 < 5 := by
   by_cases h : i9 < 5
   ·exact h
   ·rw [Array.getElem?_eq_none (by rw [hD.len]; simp; omega)] at hl9; cases hl9
  have hcase : i9 = 0 ∨ i9 = 1 ∨ i9 = 2 ∨ i9 = 3 ∨ i9 = 4 := by omega
  clear hin9
  rcases hcase with rfl | rfl | rfl | rfl | rfl
  ·cases ho9
   have r11 := hD.old 11 _ rfl rfl
   have hM0 := hM
   have c9_0 := hM0.cellAt (b := w4.heap.size) (cs := #[.int .u64 q,.int .u64 r]) (t := 59) (by simp) 0 _ rfl
   have c9_1 := hM0.cellAt (b := w4.heap.size) (cs := #[.int .u64 q,.int .u64 r]) (t := 59) (by simp) 1 _ rfl
   clear hM0
   clear hD hd9 hi9
   refine wpOp_step rfl (fun K hK => ?_)
   go_simp
   exact hK _ _ ⟨rfl,hM⟩
  ·cases ho9
   have r3 := hD.old 3 _ rfl rfl
   have hM0 := hM
   have c9_0 := hM0.cellAt (b := w.heap.size) (cs := #[.int .i64 E,.int .i64 F]) (t := 23) (by simp) 0 _ rfl
   have c9_1 := hM0.cellAt (b := w.heap.size) (cs := #[.int .i64 E,.int .i64 F]) (t := 23) (by simp) 1 _ rfl
   clear hM0
   clear hD hd9 hi9
   refine wpOp_step rfl (fun K hK => ?_)
   go_simp
   exact hK _ _ ⟨rfl,hM⟩
  ·cases ho9
   have r9 := hD.old 9 _ rfl rfl
   clear hD hd9 hi9
   refine wpOp_step rfl (fun K hK => ?_)
   go_simp
   exact hK _ _ ⟨rfl,hM⟩
  ·cases ho9
   have r38 := hD.on 1 38 _ rfl (getD_true (hd9 ⟨1,.data⟩ (by simp) rfl))
   have r39 := hD.on 2 39 _ rfl (getD_true (hd9 ⟨2,.data⟩ (by simp) rfl))
   clear hD hd9 hi9
   refine wpOp_step rfl (fun K hK => ?_)
   go_simp
   go_wp2_with fail
   refine (HQ _).mono ?_
   rintro en w9 ⟨rfl,hb9⟩
   exact hK _ _ ⟨rfl,hM.kept hb9⟩
  ·cases ho9
   have r37 := hD.on 0 37 _ rfl (getD_true (hd9 ⟨0,.data⟩ (by simp) rfl))
   have r40 := hD.on 3 40 _ rfl (getD_true (hd9 ⟨3,.data⟩ (by simp) rfl))
   clear hD hd9 hi9
   refine wpOp_step rfl (fun K hK => ?_)
   go_simp
   exact hK _ _ ⟨act_eq (by rfl),hM⟩
 ·intro l9 W9 hl9 hM
  clear hl9
  clear hS z5_0_0 z5_0_1 z5_1_0 z5_1_1
  have hS := hM
  clear hM
  simp only [Puts.lay,List.setIfInBounds_toArray,List.set_cons_zero,List.set_cons_succ]
  obtain ⟨⟨z6_0_0,z6_0_1,-⟩,⟨z6_1_0,z6_1_1,-⟩,-⟩ := hS.cells
  clear hEq
  go_wp2_with fail
  refine wp_region_any (by kernel_rfl) ?_
  refine wpAny_det [some (52,.agg #[.int .i64 E,.int .i64 F]),some (53,.agg #[.int .u64 q,.int .u64 r]),some (54,.int .i64 p),some (55,.int .i64 (p + 1)),some (56,.bool neg),some (57,.int .u64 v),some (6,.int .u64 v),some (7,.int .i64 0)]
   (fun _ W9 => Fs w W9 [⟨w4.heap.size,#[.int .u64 q,.int .u64 r],59⟩,⟨w.heap.size,#[.int .i64 E,.int .i64 F],23⟩]) _ _ rfl (by kernel_rfl) rfl rfl ?_ ?_ (hS).drew
  ·intro l9 t9 W9 i9 hD hi9 hl9 hM
   obtain ⟨o9,ho9,hd9⟩ := (mem_ready.1 hi9).2
   have hin9 : i9 < 8 := by
    by_cases h : i9 < 8
    ·exact h
    ·rw [Array.getElem?_eq_none (by rw [hD.len]; simp; omega)] at hl9; cases hl9
   have hcase : i9 = 0 ∨ i9 = 1 ∨ i9 = 2 ∨ i9 = 3 ∨ i9 = 4 ∨ i9 = 5 ∨ i9 = 6 ∨ i9 = 7 := by omega
   clear hin9
   rcases hcase with rfl | rfl | rfl | rfl | rfl | rfl | rfl | rfl
   ·cases ho9
    have r3 := hD.old 3 _ rfl rfl
    have hM0 := hM
    have c9_0 := hM0.cellAt (b := w.heap.size) (cs := #[.int .i64 E,.int .i64 F]) (t := 23) (by simp) 0 _ rfl
    have c9_1 := hM0.cellAt (b := w.heap.size) (cs := #[.int .i64 E,.int .i64 F]) (t := 23) (by simp) 1 _ rfl
    clear hM0
    clear hD hd9 hi9
    refine wpOp_step rfl (fun K hK => ?_)
    go_simp
    exact hK _ _ ⟨rfl,hM⟩
   ·cases ho9
    have r11 := hD.old 11 _ rfl rfl
    have hM0 := hM
    have c9_0 := hM0.cellAt (b := w4.heap.size) (cs := #[.int .u64 q,.int .u64 r]) (t := 59) (by simp) 0 _ rfl
    have c9_1 := hM0.cellAt (b := w4.heap.size) (cs := #[.int .u64 q,.int .u64 r]) (t := 59) (by simp) 1 _ rfl
    clear hM0
    clear hD hd9 hi9
    refine wpOp_step rfl (fun K hK => ?_)
    go_simp
    exact hK _ _ ⟨rfl,hM⟩
   ·cases ho9
    have r53 := hD.on 1 53 _ rfl (getD_true (hd9 ⟨1,.data⟩ (by simp) rfl))
    clear hD hd9 hi9
    refine wpOp_step rfl (fun K hK => ?_)
    go_simp
    go_wp2_with fail
    refine (HL _).mono ?_
    rintro en w9 ⟨rfl,hb9⟩
    exact hK _ _ ⟨rfl,hM.kept hb9⟩
   ·cases ho9
    have r54 := hD.on 2 54 _ rfl (getD_true (hd9 ⟨2,.data⟩ (by simp) rfl))
    clear hD hd9 hi9
    refine wpOp_step rfl (fun K hK => ?_)
    go_simp
    exact hK _ _ ⟨act_eq (by (show Value.int _ _ = Value.int _ _; congr 1; (first | rfl | omega | (rw [IntKind.wrap_i64]; omega) | (rw [IntKind.wrap_u64]; omega)))),hM⟩
   ·cases ho9
    have r12 := hD.old 12 _ rfl rfl
    clear hD hd9 hi9
    refine wpOp_step rfl (fun K hK => ?_)
    go_simp
    exact hK _ _ ⟨rfl,hM⟩
   ·cases ho9
    have r52 := hD.on 0 52 _ rfl (getD_true (hd9 ⟨0,.data⟩ (by simp) rfl))
    have r55 := hD.on 3 55 _ rfl (getD_true (hd9 ⟨3,.data⟩ (by simp) rfl))
    have r56 := hD.on 4 56 _ rfl (getD_true (hd9 ⟨4,.data⟩ (by simp) rfl))
    clear hD hd9 hi9
    refine wpOp_step rfl (fun K hK => ?_)
    go_simp
    go_wp2_with fail
    refine (HA _).mono ?_
    rintro en w9 ⟨rfl,hb9⟩
    exact hK _ _ ⟨rfl,hM.kept hb9⟩
   ·cases ho9
    have r57 := hD.on 5 57 _ rfl (getD_true (hd9 ⟨5,.data⟩ (by simp) rfl))
    clear hD hd9 hi9
    refine wpOp_step rfl (fun K hK => ?_)
    go_simp
    exact hK _ _ ⟨rfl,hM⟩
   ·cases ho9
    clear hD hd9 hi9
    refine wpOp_step rfl (fun K hK => ?_)
    go_simp
    exact hK _ _ ⟨rfl,hM⟩
  ·intro l9 W9 hl9 hM
   clear hl9
   clear hS z6_0_0 z6_0_1 z6_1_0 z6_1_1
   have hS := hM
   clear hM
   simp only [Puts.lay,List.setIfInBounds_toArray,List.set_cons_zero,List.set_cons_succ]
   obtain ⟨⟨z7_0_0,z7_0_1,-⟩,⟨z7_1_0,z7_1_1,-⟩,-⟩ := hS.cells
   go_wp2
   go_ret2
   exact ⟨rfl,hS.fr⟩
set_option maxRecDepth 20000 in
set_option maxHeartbeats 2000000 in
theorem beside_down (E F b : Int) (H0 : Tel 42 #[.agg #[.int .i64 E,.int .i64 F],.int .u64 b] (.int .i64 0)) (c : Int) (hc : (c == (5 : Int)) = false) (HC : Tel 43 #[.agg #[.int .i64 E,.int .i64 F],.int .u64 b] (.tuple #[.int .u8 c,.int .i64 0])) (en : Int) (HI : Tel 45 #[.agg #[.int .i64 E,.int .i64 F],.bool true] (.tuple #[.int .u64 en,.int .i64 0])) (q r : Int) (HP : Tel 22 #[.agg #[.int .i64 E,.int .i64 F],.int .u64 b] (.agg #[.int .u64 q,.int .u64 r])) (q' r' : Int) (HQ : Tel 22 #[.agg #[.int .i64 E,.int .i64 F],.int .u64 en] (.agg #[.int .u64 q',.int .u64 r'])) (hne : (q == q' && r == r') = false) (p v : Int) (hp : -9223372036854775000 ≤ p) (hp2 : p ≤ 9223372036854775000) (neg : Bool) (hneg : (q == (1 : Int)) = neg) (HL : Tel 23 #[.agg #[.int .u64 q,.int .u64 r]] (.int .i64 p)) (HA : Tel 46 #[.agg #[.int .i64 E,.int .i64 F],.int .i64 (p - 1),.bool neg] (.int .u64 v)) (w : World)  :
  Calls Tryz.prog 24 #[.agg #[.int .i64 E,.int .i64 F],.int .u64 b,.bool true] w fun e w' => e = .returned (.tuple #[.int .u64 v,.int .i64 0]) ∧ Below w.heap.size w w' := by
 go_enter Tryz.func24,Tryz.ntmps24
 go_wp2_with fail
 refine (check1_ok E F _ b H0 _ (by have := heap_alloc_new (w.alloc (.cells #[.int .i64 E,.int .i64 F] 23)) (.cells #[.int .u64 b] 24); simpa only [World.size_alloc] using this)).mono ?_
 rintro e w1 ⟨rfl,hb1⟩
 have hS : Fs w (w.alloc (.cells #[.int .i64 E,.int .i64 F] 23)) [⟨w.heap.size,#[.int .i64 E,.int .i64 F],23⟩] := Fs.one w _ _
 replace hS := ((hS.alloc #[.int .u64 b] 24).kept hb1).sub (fun x hx => List.mem_cons_of_mem _ hx)
 obtain ⟨⟨z1_0_0,z1_0_1,-⟩,-⟩ := hS.cells
 go_wp2_with fail
 refine (numbers1_yes E F c hc _ b HC _ (by have := heap_alloc_new w1 (.cells #[.int .u64 b] 24); simpa only [World.size_alloc] using this)).mono ?_
 rintro e w2 ⟨rfl,hb2⟩
 replace hS := ((hS.alloc #[.int .u64 b] 24).kept hb2).sub (fun x hx => List.mem_cons_of_mem _ hx)
 clear z1_0_0 z1_0_1
 obtain ⟨⟨z2_0_0,z2_0_1,-⟩,-⟩ := hS.cells
 go_wp2_with fail
 refine (HI _).mono ?_
 rintro e w3 ⟨rfl,hb3⟩
 replace hS := hS.kept hb3
 clear z2_0_0 z2_0_1
 obtain ⟨⟨z3_0_0,z3_0_1,-⟩,-⟩ := hS.cells
 go_wp2_with fail
 refine (HP _).mono ?_
 rintro e w4 ⟨rfl,hb4⟩
 replace hS := hS.kept hb4
 clear z3_0_0 z3_0_1
 obtain ⟨⟨z4_0_0,z4_0_1,-⟩,-⟩ := hS.cells
 have hltw4_0 : w.heap.size < w4.heap.size := block_lt (hS.bx ⟨w.heap.size,#[.int .i64 E,.int .i64 F],23⟩ (by simp))
 replace hS := hS.alloc #[.int .u64 q,.int .u64 r] 59
 clear z4_0_0 z4_0_1
 obtain ⟨⟨z5_0_0,z5_0_1,-⟩,⟨z5_1_0,z5_1_1,-⟩,-⟩ := hS.cells
 have hEq := eq_spot q r q' r'
 go_wp2_with fail
 refine wp_region_any (by kernel_rfl) ?_
 refine wpAny_det [some (37,.agg #[.int .u64 q,.int .u64 r]),some (38,.agg #[.int .i64 E,.int .i64 F]),some (39,.int .u64 en),some (40,.agg #[.int .u64 q',.int .u64 r']),some (41,.bool false)]
  (fun _ W9 => Fs w W9 [⟨w4.heap.size,#[.int .u64 q,.int .u64 r],59⟩,⟨w.heap.size,#[.int .i64 E,.int .i64 F],23⟩]) _ _ rfl (by kernel_rfl) rfl rfl ?_ ?_ (hS).drew
 ·intro l9 t9 W9 i9 hD hi9 hl9 hM
  obtain ⟨o9,ho9,hd9⟩ := (mem_ready.1 hi9).2
  have hin9 : i9 < 5 := by
   by_cases h : i9 < 5
   ·exact h
   ·rw [Array.getElem?_eq_none (by rw [hD.len]; simp; omega)] at hl9; cases hl9
  have hcase : i9 = 0 ∨ i9 = 1 ∨ i9 = 2 ∨ i9 = 3 ∨ i9 = 4 := by omega
  clear hin9
  rcases hcase with rfl | rfl | rfl | rfl | rfl
  ·cases ho9
   have r11 := hD.old 11 _ rfl rfl
   have hM0 := hM
   have c9_0 := hM0.cellAt (b := w4.heap.size) (cs := #[.int .u64 q,.int .u64 r]) (t := 59) (by simp) 0 _ rfl
   have c9_1 := hM0.cellAt (b := w4.heap.size) (cs := #[.int .u64 q,.int .u64 r]) (t := 59) (by simp) 1 _ rfl
   clear hM0
   clear hD hd9 hi9
   refine wpOp_step rfl (fun K hK => ?_)
   go_simp
   exact hK _ _ ⟨rfl,hM⟩
  ·cases ho9
   have r3 := hD.old 3 _ rfl rfl
   have hM0 := hM
   have c9_0 := hM0.cellAt (b := w.heap.size) (cs := #[.int .i64 E,.int .i64 F]) (t := 23) (by simp) 0 _ rfl
   have c9_1 := hM0.cellAt (b := w.heap.size) (cs := #[.int .i64 E,.int .i64 F]) (t := 23) (by simp) 1 _ rfl
   clear hM0
   clear hD hd9 hi9
   refine wpOp_step rfl (fun K hK => ?_)
   go_simp
   exact hK _ _ ⟨rfl,hM⟩
  ·cases ho9
   have r9 := hD.old 9 _ rfl rfl
   clear hD hd9 hi9
   refine wpOp_step rfl (fun K hK => ?_)
   go_simp
   exact hK _ _ ⟨rfl,hM⟩
  ·cases ho9
   have r38 := hD.on 1 38 _ rfl (getD_true (hd9 ⟨1,.data⟩ (by simp) rfl))
   have r39 := hD.on 2 39 _ rfl (getD_true (hd9 ⟨2,.data⟩ (by simp) rfl))
   clear hD hd9 hi9
   refine wpOp_step rfl (fun K hK => ?_)
   go_simp
   go_wp2_with fail
   refine (HQ _).mono ?_
   rintro en w9 ⟨rfl,hb9⟩
   exact hK _ _ ⟨rfl,hM.kept hb9⟩
  ·cases ho9
   have r37 := hD.on 0 37 _ rfl (getD_true (hd9 ⟨0,.data⟩ (by simp) rfl))
   have r40 := hD.on 3 40 _ rfl (getD_true (hd9 ⟨3,.data⟩ (by simp) rfl))
   clear hD hd9 hi9
   refine wpOp_step rfl (fun K hK => ?_)
   go_simp
   exact hK _ _ ⟨act_eq (by rfl),hM⟩
 ·intro l9 W9 hl9 hM
  clear hl9
  clear hS z5_0_0 z5_0_1 z5_1_0 z5_1_1
  have hS := hM
  clear hM
  simp only [Puts.lay,List.setIfInBounds_toArray,List.set_cons_zero,List.set_cons_succ]
  obtain ⟨⟨z6_0_0,z6_0_1,-⟩,⟨z6_1_0,z6_1_1,-⟩,-⟩ := hS.cells
  clear hEq
  go_wp2_with fail
  refine wp_region_any (by kernel_rfl) ?_
  refine wpAny_det [some (46,.agg #[.int .i64 E,.int .i64 F]),some (47,.agg #[.int .u64 q,.int .u64 r]),some (48,.int .i64 p),some (49,.int .i64 (p - 1)),some (50,.bool neg),some (51,.int .u64 v),some (6,.int .u64 v),some (7,.int .i64 0)]
   (fun _ W9 => Fs w W9 [⟨w4.heap.size,#[.int .u64 q,.int .u64 r],59⟩,⟨w.heap.size,#[.int .i64 E,.int .i64 F],23⟩]) _ _ rfl (by kernel_rfl) rfl rfl ?_ ?_ (hS).drew
  ·intro l9 t9 W9 i9 hD hi9 hl9 hM
   obtain ⟨o9,ho9,hd9⟩ := (mem_ready.1 hi9).2
   have hin9 : i9 < 8 := by
    by_cases h : i9 < 8
    ·exact h
    ·rw [Array.getElem?_eq_none (by rw [hD.len]; simp; omega)] at hl9; cases hl9
   have hcase : i9 = 0 ∨ i9 = 1 ∨ i9 = 2 ∨ i9 = 3 ∨ i9 = 4 ∨ i9 = 5 ∨ i9 = 6 ∨ i9 = 7 := by omega
   clear hin9
   rcases hcase with rfl | rfl | rfl | rfl | rfl | rfl | rfl | rfl
   ·cases ho9
    have r3 := hD.old 3 _ rfl rfl
    have hM0 := hM
    have c9_0 := hM0.cellAt (b := w.heap.size) (cs := #[.int .i64 E,.int .i64 F]) (t := 23) (by simp) 0 _ rfl
    have c9_1 := hM0.cellAt (b := w.heap.size) (cs := #[.int .i64 E,.int .i64 F]) (t := 23) (by simp) 1 _ rfl
    clear hM0
    clear hD hd9 hi9
    refine wpOp_step rfl (fun K hK => ?_)
    go_simp
    exact hK _ _ ⟨rfl,hM⟩
   ·cases ho9
    have r11 := hD.old 11 _ rfl rfl
    have hM0 := hM
    have c9_0 := hM0.cellAt (b := w4.heap.size) (cs := #[.int .u64 q,.int .u64 r]) (t := 59) (by simp) 0 _ rfl
    have c9_1 := hM0.cellAt (b := w4.heap.size) (cs := #[.int .u64 q,.int .u64 r]) (t := 59) (by simp) 1 _ rfl
    clear hM0
    clear hD hd9 hi9
    refine wpOp_step rfl (fun K hK => ?_)
    go_simp
    exact hK _ _ ⟨rfl,hM⟩
   ·cases ho9
    have r47 := hD.on 1 47 _ rfl (getD_true (hd9 ⟨1,.data⟩ (by simp) rfl))
    clear hD hd9 hi9
    refine wpOp_step rfl (fun K hK => ?_)
    go_simp
    go_wp2_with fail
    refine (HL _).mono ?_
    rintro en w9 ⟨rfl,hb9⟩
    exact hK _ _ ⟨rfl,hM.kept hb9⟩
   ·cases ho9
    have r48 := hD.on 2 48 _ rfl (getD_true (hd9 ⟨2,.data⟩ (by simp) rfl))
    clear hD hd9 hi9
    refine wpOp_step rfl (fun K hK => ?_)
    go_simp
    exact hK _ _ ⟨act_eq (by (show Value.int _ _ = Value.int _ _; congr 1; (first | rfl | omega | (rw [IntKind.wrap_i64]; omega) | (rw [IntKind.wrap_u64]; omega)))),hM⟩
   ·cases ho9
    have r12 := hD.old 12 _ rfl rfl
    clear hD hd9 hi9
    refine wpOp_step rfl (fun K hK => ?_)
    go_simp
    exact hK _ _ ⟨rfl,hM⟩
   ·cases ho9
    have r46 := hD.on 0 46 _ rfl (getD_true (hd9 ⟨0,.data⟩ (by simp) rfl))
    have r49 := hD.on 3 49 _ rfl (getD_true (hd9 ⟨3,.data⟩ (by simp) rfl))
    have r50 := hD.on 4 50 _ rfl (getD_true (hd9 ⟨4,.data⟩ (by simp) rfl))
    clear hD hd9 hi9
    refine wpOp_step rfl (fun K hK => ?_)
    go_simp
    go_wp2_with fail
    refine (HA _).mono ?_
    rintro en w9 ⟨rfl,hb9⟩
    exact hK _ _ ⟨rfl,hM.kept hb9⟩
   ·cases ho9
    have r51 := hD.on 5 51 _ rfl (getD_true (hd9 ⟨5,.data⟩ (by simp) rfl))
    clear hD hd9 hi9
    refine wpOp_step rfl (fun K hK => ?_)
    go_simp
    exact hK _ _ ⟨rfl,hM⟩
   ·cases ho9
    clear hD hd9 hi9
    refine wpOp_step rfl (fun K hK => ?_)
    go_simp
    exact hK _ _ ⟨rfl,hM⟩
  ·intro l9 W9 hl9 hM
   clear hl9
   clear hS z6_0_0 z6_0_1 z6_1_0 z6_1_1
   have hS := hM
   clear hM
   simp only [Puts.lay,List.setIfInBounds_toArray,List.set_cons_zero,List.set_cons_succ]
   obtain ⟨⟨z7_0_0,z7_0_1,-⟩,⟨z7_1_0,z7_1_1,-⟩,-⟩ := hS.cells
   go_wp2
   go_ret2
   exact ⟨rfl,hS.fr⟩
end Go.Proofs.YtdfmanglfdeooaaGreatDoor
namespace Go.Proofs.YtdfmanglfdeooaaGreatDoor
open Go.RowKit
set_option maxHeartbeats 400000 in
theorem Up_is (E F b x y : Int) (H : Tel 24 #[.agg #[.int .i64 E,.int .i64 F],.int .u64 b,.bool false] (.tuple #[.int .u64 x,.int .i64 y])) (w : World)  :
  Calls Tryz.prog 7 #[.agg #[.int .i64 E,.int .i64 F],.int .u64 b] w fun e w' => e = .returned (.tuple #[.int .u64 x,.int .i64 y]) ∧ Below w.heap.size w w' := by
 go_enter Tryz.func7,Tryz.ntmps7
 go_wp2_with fail
 refine (H _).mono ?_
 rintro e w1 ⟨rfl,hb1⟩
 have hS := (Fs.one w _ _).kept hb1
 obtain ⟨⟨z1_0_0,z1_0_1,-⟩,-⟩ := hS.cells
 go_wp2
 go_ret2
 exact ⟨rfl,hS.fr⟩
set_option maxHeartbeats 400000 in
theorem Down_is (E F b x y : Int) (H : Tel 24 #[.agg #[.int .i64 E,.int .i64 F],.int .u64 b,.bool true] (.tuple #[.int .u64 x,.int .i64 y])) (w : World)  :
  Calls Tryz.prog 8 #[.agg #[.int .i64 E,.int .i64 F],.int .u64 b] w fun e w' => e = .returned (.tuple #[.int .u64 x,.int .i64 y]) ∧ Below w.heap.size w w' := by
 go_enter Tryz.func8,Tryz.ntmps8
 go_wp2_with fail
 refine (H _).mono ?_
 rintro e w1 ⟨rfl,hb1⟩
 have hS := (Fs.one w _ _).kept hb1
 obtain ⟨⟨z1_0_0,z1_0_1,-⟩,-⟩ := hS.cells
 go_wp2
 go_ret2
 exact ⟨rfl,hS.fr⟩
set_option maxHeartbeats 400000 in
theorem notNaN_any (a : Int) (w : World)  :
  Calls Tryz.prog 47 #[.int .i64 a] w fun e w' => e = .returned (.bool false) ∧ Below w.heap.size w w' := by
 go_enter Tryz.func47,Tryz.ntmps47
 go_wp2
 go_ret
 exact ⟨rfl,(Fs.begin w).fr⟩
set_option maxHeartbeats 400000 in
theorem ncompare_lt (a b : Int) (h : a < b) (w : World)  :
  Calls Tryz.prog 25 #[.int .i64 a,.int .i64 b] w fun e w' => e = .returned (.int .i64 (-1)) ∧ Below w.heap.size w w' := by
 go_enter Tryz.func25,Tryz.ntmps25
 go_wp2_with fail
 refine (notNaN_any _ _).mono ?_
 rintro e w1 ⟨rfl,hb1⟩
 have hS := (Fs.begin w).kept hb1
 go_wp2_with fail
 refine (notNaN_any _ _).mono ?_
 rintro e w2 ⟨rfl,hb2⟩
 replace hS := hS.kept hb2
 go_wp2
 go_ret
 exact ⟨rfl,hS.fr⟩
set_option maxHeartbeats 400000 in
theorem ncompare_eq (a b : Int) (h : a = b) (w : World)  :
  Calls Tryz.prog 25 #[.int .i64 a,.int .i64 b] w fun e w' => e = .returned (.int .i64 0) ∧ Below w.heap.size w w' := by
 subst h
 go_enter Tryz.func25,Tryz.ntmps25
 go_wp2_with fail
 refine (notNaN_any _ _).mono ?_
 rintro e w1 ⟨rfl,hb1⟩
 have hS := (Fs.begin w).kept hb1
 go_wp2_with fail
 refine (notNaN_any _ _).mono ?_
 rintro e w2 ⟨rfl,hb2⟩
 replace hS := hS.kept hb2
 go_wp2
 go_ret
 exact ⟨rfl,hS.fr⟩
set_option maxHeartbeats 400000 in
theorem ncompare_gt (a b : Int) (h : b < a) (w : World)  :
  Calls Tryz.prog 25 #[.int .i64 a,.int .i64 b] w fun e w' => e = .returned (.int .i64 1) ∧ Below w.heap.size w w' := by
 have h2 : ¬ a < b := by omega
 go_enter Tryz.func25,Tryz.ntmps25
 go_wp2_with fail
 refine (notNaN_any _ _).mono ?_
 rintro e w1 ⟨rfl,hb1⟩
 have hS := (Fs.begin w).kept hb1
 go_wp2_with fail
 refine (notNaN_any _ _).mono ?_
 rintro e w2 ⟨rfl,hb2⟩
 replace hS := hS.kept hb2
 go_wp2
 go_ret
 exact ⟨rfl,hS.fr⟩
def cm3 (a b : Int) : Int := if a < b then -1 else if b < a then 1 else 0
theorem ncompare_any (a b : Int) (w : World) : Calls Tryz.prog 25 #[.int .i64 a,.int .i64 b] w fun e w' => e = .returned (.int .i64 (cm3 a b)) ∧ Below w.heap.size w w' := by
 unfold cm3
 by_cases h : a < b
 ·rw [if_pos h]; exact ncompare_lt a b h w
 ·rw [if_neg h]
  by_cases h2 : b < a
  ·rw [if_pos h2]; exact ncompare_gt a b h2 w
  ·rw [if_neg h2]; exact ncompare_eq a b (by omega) w
set_option maxRecDepth 20000 in
set_option maxHeartbeats 400000 in
theorem Steps_err1 (E F a b : Int) (c : Int) (hc : (c == (0 : Int)) = false) (H0 : Tel 42 #[.agg #[.int .i64 E,.int .i64 F],.int .u64 a] (.int .i64 c))  (w : World)  :
  Calls Tryz.prog 6 #[.agg #[.int .i64 E,.int .i64 F],.int .u64 a,.int .u64 b] w fun e w' => e = .returned (.tuple #[.bool false,.int .u64 0,.int .i64 c]) ∧ Below w.heap.size w w' := by
 go_enter Tryz.func6,Tryz.ntmps6
 go_wp2_with fail
 refine (check2_err1 E F c hc _ a b H0 _ (by have := heap_alloc_new (w.alloc (.cells #[.int .i64 E,.int .i64 F] 23)) (.cells #[.int .u64 a,.int .u64 b] 24); simpa only [World.size_alloc] using this)).mono ?_
 rintro e w1 ⟨rfl,hb1⟩
 have hS : Fs w (w.alloc (.cells #[.int .i64 E,.int .i64 F] 23)) [⟨w.heap.size,#[.int .i64 E,.int .i64 F],23⟩] := Fs.one w _ _
 replace hS := ((hS.alloc #[.int .u64 a,.int .u64 b] 24).kept hb1).sub (fun x hx => List.mem_cons_of_mem _ hx)
 obtain ⟨⟨z1_0_0,z1_0_1,-⟩,-⟩ := hS.cells
 go_wp2
 go_ret3
 exact ⟨rfl,hS.fr⟩
set_option maxRecDepth 20000 in
set_option maxHeartbeats 400000 in
theorem Steps_err2 (E F a b : Int) (c : Int) (hc : (c == (0 : Int)) = false) (H0 : Tel 42 #[.agg #[.int .i64 E,.int .i64 F],.int .u64 a] (.int .i64 0)) (H1 : Tel 42 #[.agg #[.int .i64 E,.int .i64 F],.int .u64 b] (.int .i64 c))  (w : World)  :
  Calls Tryz.prog 6 #[.agg #[.int .i64 E,.int .i64 F],.int .u64 a,.int .u64 b] w fun e w' => e = .returned (.tuple #[.bool false,.int .u64 0,.int .i64 c]) ∧ Below w.heap.size w w' := by
 go_enter Tryz.func6,Tryz.ntmps6
 go_wp2_with fail
 refine (check2_err2 E F c hc _ a b H0 H1 _ (by have := heap_alloc_new (w.alloc (.cells #[.int .i64 E,.int .i64 F] 23)) (.cells #[.int .u64 a,.int .u64 b] 24); simpa only [World.size_alloc] using this)).mono ?_
 rintro e w1 ⟨rfl,hb1⟩
 have hS : Fs w (w.alloc (.cells #[.int .i64 E,.int .i64 F] 23)) [⟨w.heap.size,#[.int .i64 E,.int .i64 F],23⟩] := Fs.one w _ _
 replace hS := ((hS.alloc #[.int .u64 a,.int .u64 b] 24).kept hb1).sub (fun x hx => List.mem_cons_of_mem _ hx)
 obtain ⟨⟨z1_0_0,z1_0_1,-⟩,-⟩ := hS.cells
 go_wp2
 go_ret3
 exact ⟨rfl,hS.fr⟩
set_option maxRecDepth 20000 in
set_option maxHeartbeats 400000 in
theorem Steps_nan1 (E F a b : Int) (H0 : Tel 42 #[.agg #[.int .i64 E,.int .i64 F],.int .u64 a] (.int .i64 0)) (H1 : Tel 42 #[.agg #[.int .i64 E,.int .i64 F],.int .u64 b] (.int .i64 0)) (HC : Tel 43 #[.agg #[.int .i64 E,.int .i64 F],.int .u64 a] (.tuple #[.int .u8 5,.int .i64 0]))  (w : World)  :
  Calls Tryz.prog 6 #[.agg #[.int .i64 E,.int .i64 F],.int .u64 a,.int .u64 b] w fun e w' => e = .returned (.tuple #[.bool false,.int .u64 0,.int .i64 2]) ∧ Below w.heap.size w w' := by
 go_enter Tryz.func6,Tryz.ntmps6
 go_wp2_with fail
 refine (check2_ok E F _ a b H0 H1 _ (by have := heap_alloc_new (w.alloc (.cells #[.int .i64 E,.int .i64 F] 23)) (.cells #[.int .u64 a,.int .u64 b] 24); simpa only [World.size_alloc] using this)).mono ?_
 rintro e w1 ⟨rfl,hb1⟩
 have hS : Fs w (w.alloc (.cells #[.int .i64 E,.int .i64 F] 23)) [⟨w.heap.size,#[.int .i64 E,.int .i64 F],23⟩] := Fs.one w _ _
 replace hS := ((hS.alloc #[.int .u64 a,.int .u64 b] 24).kept hb1).sub (fun x hx => List.mem_cons_of_mem _ hx)
 obtain ⟨⟨z1_0_0,z1_0_1,-⟩,-⟩ := hS.cells
 go_wp2_with fail
 refine (numbers2_no1 E F _ a b HC _ (by have := heap_alloc_new w1 (.cells #[.int .u64 a,.int .u64 b] 24); simpa only [World.size_alloc] using this)).mono ?_
 rintro e w2 ⟨rfl,hb2⟩
 replace hS := ((hS.alloc #[.int .u64 a,.int .u64 b] 24).kept hb2).sub (fun x hx => List.mem_cons_of_mem _ hx)
 clear z1_0_0 z1_0_1
 obtain ⟨⟨z2_0_0,z2_0_1,-⟩,-⟩ := hS.cells
 go_wp2
 go_ret3
 exact ⟨rfl,hS.fr⟩
set_option maxRecDepth 20000 in
set_option maxHeartbeats 400000 in
theorem Steps_nan2 (E F a b : Int) (c1 : Int) (h1 : (c1 == (5 : Int)) = false) (H0 : Tel 42 #[.agg #[.int .i64 E,.int .i64 F],.int .u64 a] (.int .i64 0)) (H1 : Tel 42 #[.agg #[.int .i64 E,.int .i64 F],.int .u64 b] (.int .i64 0)) (HC : Tel 43 #[.agg #[.int .i64 E,.int .i64 F],.int .u64 a] (.tuple #[.int .u8 c1,.int .i64 0])) (HD : Tel 43 #[.agg #[.int .i64 E,.int .i64 F],.int .u64 b] (.tuple #[.int .u8 5,.int .i64 0]))  (w : World)  :
  Calls Tryz.prog 6 #[.agg #[.int .i64 E,.int .i64 F],.int .u64 a,.int .u64 b] w fun e w' => e = .returned (.tuple #[.bool false,.int .u64 0,.int .i64 2]) ∧ Below w.heap.size w w' := by
 go_enter Tryz.func6,Tryz.ntmps6
 go_wp2_with fail
 refine (check2_ok E F _ a b H0 H1 _ (by have := heap_alloc_new (w.alloc (.cells #[.int .i64 E,.int .i64 F] 23)) (.cells #[.int .u64 a,.int .u64 b] 24); simpa only [World.size_alloc] using this)).mono ?_
 rintro e w1 ⟨rfl,hb1⟩
 have hS : Fs w (w.alloc (.cells #[.int .i64 E,.int .i64 F] 23)) [⟨w.heap.size,#[.int .i64 E,.int .i64 F],23⟩] := Fs.one w _ _
 replace hS := ((hS.alloc #[.int .u64 a,.int .u64 b] 24).kept hb1).sub (fun x hx => List.mem_cons_of_mem _ hx)
 obtain ⟨⟨z1_0_0,z1_0_1,-⟩,-⟩ := hS.cells
 go_wp2_with fail
 refine (numbers2_no2 E F c1 h1 _ a b HC HD _ (by have := heap_alloc_new w1 (.cells #[.int .u64 a,.int .u64 b] 24); simpa only [World.size_alloc] using this)).mono ?_
 rintro e w2 ⟨rfl,hb2⟩
 replace hS := ((hS.alloc #[.int .u64 a,.int .u64 b] 24).kept hb2).sub (fun x hx => List.mem_cons_of_mem _ hx)
 clear z1_0_0 z1_0_1
 obtain ⟨⟨z2_0_0,z2_0_1,-⟩,-⟩ := hS.cells
 go_wp2
 go_ret3
 exact ⟨rfl,hS.fr⟩
set_option maxRecDepth 20000 in
set_option maxHeartbeats 2000000 in
theorem Order_ok (E F a b : Int) (H0 : Tel 42 #[.agg #[.int .i64 E,.int .i64 F],.int .u64 a] (.int .i64 0)) (H1 : Tel 42 #[.agg #[.int .i64 E,.int .i64 F],.int .u64 b] (.int .i64 0)) (x y : Int) (HX : Tel 26 #[.agg #[.int .i64 E,.int .i64 F],.int .u64 a] (.int .i64 x)) (HY : Tel 26 #[.agg #[.int .i64 E,.int .i64 F],.int .u64 b] (.int .i64 y)) (w : World)  :
  Calls Tryz.prog 10 #[.agg #[.int .i64 E,.int .i64 F],.int .u64 a,.int .u64 b] w fun e w' => e = .returned (.tuple #[.int .i64 (cm3 x y),.int .i64 0]) ∧ Below w.heap.size w w' := by
 go_enter Tryz.func10,Tryz.ntmps10
 go_wp2_with fail
 refine (check2_ok E F _ a b H0 H1 _ (by have := heap_alloc_new (w.alloc (.cells #[.int .i64 E,.int .i64 F] 23)) (.cells #[.int .u64 a,.int .u64 b] 24); simpa only [World.size_alloc] using this)).mono ?_
 rintro e w1 ⟨rfl,hb1⟩
 have hS : Fs w (w.alloc (.cells #[.int .i64 E,.int .i64 F] 23)) [⟨w.heap.size,#[.int .i64 E,.int .i64 F],23⟩] := Fs.one w _ _
 replace hS := ((hS.alloc #[.int .u64 a,.int .u64 b] 24).kept hb1).sub (fun x hx => List.mem_cons_of_mem _ hx)
 obtain ⟨⟨z1_0_0,z1_0_1,-⟩,-⟩ := hS.cells
 go_wp2_with fail
 refine wp_region_any (by kernel_rfl) ?_
 refine wpAny_det [some (17,.agg #[.int .i64 E,.int .i64 F]),some (18,.int .u64 a),some (19,.int .i64 x),some (20,.agg #[.int .i64 E,.int .i64 F]),some (21,.int .u64 b),some (22,.int .i64 y),some (23,.int .i64 (cm3 x y)),some (6,.int .i64 (cm3 x y)),some (7,.int .i64 0)]
  (fun _ W9 => Fs w W9 [⟨w.heap.size,#[.int .i64 E,.int .i64 F],23⟩]) _ _ rfl (by kernel_rfl) rfl rfl ?_ ?_ (hS).drew
 ·intro l9 t9 W9 i9 hD hi9 hl9 hM
  obtain ⟨o9,ho9,hd9⟩ := (mem_ready.1 hi9).2
  have hin9 : i9 < 9 := by
   by_cases h : i9 < 9
   ·exact h
   ·rw [Array.getElem?_eq_none (by rw [hD.len]; simp; omega)] at hl9; cases hl9
  have hcase : i9 = 0 ∨ i9 = 1 ∨ i9 = 2 ∨ i9 = 3 ∨ i9 = 4 ∨ i9 = 5 ∨ i9 = 6 ∨ i9 = 7 ∨ i9 = 8 := by omega
  clear hin9
  rcases hcase with rfl | rfl | rfl | rfl | rfl | rfl | rfl | rfl | rfl
  ·cases ho9
   have r3 := hD.old 3 _ rfl rfl
   have hM0 := hM
   have c9_0 := hM0.cellAt (b := w.heap.size) (cs := #[.int .i64 E,.int .i64 F]) (t := 23) (by simp) 0 _ rfl
   have c9_1 := hM0.cellAt (b := w.heap.size) (cs := #[.int .i64 E,.int .i64 F]) (t := 23) (by simp) 1 _ rfl
   clear hM0
   clear hD hd9 hi9
   refine wpOp_step rfl (fun K hK => ?_)
   go_simp
   exact hK _ _ ⟨rfl,hM⟩
  ·cases ho9
   have r1 := hD.old 1 _ rfl rfl
   clear hD hd9 hi9
   refine wpOp_step rfl (fun K hK => ?_)
   go_simp
   exact hK _ _ ⟨rfl,hM⟩
  ·cases ho9
   have r17 := hD.on 0 17 _ rfl (getD_true (hd9 ⟨0,.data⟩ (by simp) rfl))
   have r18 := hD.on 1 18 _ rfl (getD_true (hd9 ⟨1,.data⟩ (by simp) rfl))
   clear hD hd9 hi9
   refine wpOp_step rfl (fun K hK => ?_)
   go_simp
   go_wp2_with fail
   refine (HX _).mono ?_
   rintro en w9 ⟨rfl,hb9⟩
   exact hK _ _ ⟨rfl,hM.kept hb9⟩
  ·cases ho9
   have r3 := hD.old 3 _ rfl rfl
   have hM0 := hM
   have c9_0 := hM0.cellAt (b := w.heap.size) (cs := #[.int .i64 E,.int .i64 F]) (t := 23) (by simp) 0 _ rfl
   have c9_1 := hM0.cellAt (b := w.heap.size) (cs := #[.int .i64 E,.int .i64 F]) (t := 23) (by simp) 1 _ rfl
   clear hM0
   clear hD hd9 hi9
   refine wpOp_step rfl (fun K hK => ?_)
   go_simp
   exact hK _ _ ⟨rfl,hM⟩
  ·cases ho9
   have r2 := hD.old 2 _ rfl rfl
   clear hD hd9 hi9
   refine wpOp_step rfl (fun K hK => ?_)
   go_simp
   exact hK _ _ ⟨rfl,hM⟩
  ·cases ho9
   have r20 := hD.on 3 20 _ rfl (getD_true (hd9 ⟨3,.data⟩ (by simp) rfl))
   have r21 := hD.on 4 21 _ rfl (getD_true (hd9 ⟨4,.data⟩ (by simp) rfl))
   clear hD hd9 hi9
   refine wpOp_step rfl (fun K hK => ?_)
   go_simp
   go_wp2_with fail
   refine (HY _).mono ?_
   rintro en w9 ⟨rfl,hb9⟩
   exact hK _ _ ⟨rfl,hM.kept hb9⟩
  ·cases ho9
   have r19 := hD.on 2 19 _ rfl (getD_true (hd9 ⟨2,.data⟩ (by simp) rfl))
   have r22 := hD.on 5 22 _ rfl (getD_true (hd9 ⟨5,.data⟩ (by simp) rfl))
   clear hD hd9 hi9
   refine wpOp_step rfl (fun K hK => ?_)
   go_simp
   go_wp2_with fail
   refine (ncompare_any _ _ _).mono ?_
   rintro en w9 ⟨rfl,hb9⟩
   exact hK _ _ ⟨rfl,hM.kept hb9⟩
  ·cases ho9
   have r23 := hD.on 6 23 _ rfl (getD_true (hd9 ⟨6,.data⟩ (by simp) rfl))
   clear hD hd9 hi9
   refine wpOp_step rfl (fun K hK => ?_)
   go_simp
   exact hK _ _ ⟨rfl,hM⟩
  ·cases ho9
   clear hD hd9 hi9
   refine wpOp_step rfl (fun K hK => ?_)
   go_simp
   exact hK _ _ ⟨rfl,hM⟩
 ·intro l9 W9 hl9 hM
  clear hl9
  clear hS z1_0_0 z1_0_1
  have hS := hM
  clear hM
  simp only [Puts.lay,List.setIfInBounds_toArray,List.set_cons_zero,List.set_cons_succ]
  obtain ⟨⟨z2_0_0,z2_0_1,-⟩,-⟩ := hS.cells
  go_wp2
  go_ret2
  exact ⟨rfl,hS.fr⟩
set_option maxRecDepth 20000 in
set_option maxHeartbeats 2000000 in
theorem Steps_down (E F a b : Int) (c1 : Int) (h1 : (c1 == (5 : Int)) = false) (c2 : Int) (h2 : (c2 == (5 : Int)) = false) (H0 : Tel 42 #[.agg #[.int .i64 E,.int .i64 F],.int .u64 a] (.int .i64 0)) (H1 : Tel 42 #[.agg #[.int .i64 E,.int .i64 F],.int .u64 b] (.int .i64 0)) (HC : Tel 43 #[.agg #[.int .i64 E,.int .i64 F],.int .u64 a] (.tuple #[.int .u8 c1,.int .i64 0])) (HD : Tel 43 #[.agg #[.int .i64 E,.int .i64 F],.int .u64 b] (.tuple #[.int .u8 c2,.int .i64 0])) (qa ra qb rb x y : Int) (HP : Tel 22 #[.agg #[.int .i64 E,.int .i64 F],.int .u64 a] (.agg #[.int .u64 qa,.int .u64 ra])) (HQ : Tel 22 #[.agg #[.int .i64 E,.int .i64 F],.int .u64 b] (.agg #[.int .u64 qb,.int .u64 rb])) (HX : Tel 23 #[.agg #[.int .u64 qa,.int .u64 ra]] (.int .i64 x)) (HY : Tel 23 #[.agg #[.int .u64 qb,.int .u64 rb]] (.int .i64 y)) (h : y < x) (hx : -9223372036854775808 ≤ x) (hx2 : x < 9223372036854775808) (hy : -9223372036854775808 ≤ y) (hy2 : y < 9223372036854775808) (n : Int) (hn : n = x - y) (w : World)  :
  Calls Tryz.prog 6 #[.agg #[.int .i64 E,.int .i64 F],.int .u64 a,.int .u64 b] w fun e w' => e = .returned (.tuple #[.bool true,.int .u64 n,.int .i64 0]) ∧ Below w.heap.size w w' := by
 have e1 : IntKind.u64.wrap (IntKind.u64.wrap (x) - IntKind.u64.wrap (y)) = n := by rw [IntKind.wrap_u64,IntKind.wrap_u64,IntKind.wrap_u64]; omega
 clear hn hx hx2 hy hy2
 go_enter Tryz.func6,Tryz.ntmps6
 go_wp2_with fail
 refine (check2_ok E F _ a b H0 H1 _ (by have := heap_alloc_new (w.alloc (.cells #[.int .i64 E,.int .i64 F] 23)) (.cells #[.int .u64 a,.int .u64 b] 24); simpa only [World.size_alloc] using this)).mono ?_
 rintro e w1 ⟨rfl,hb1⟩
 have hS : Fs w (w.alloc (.cells #[.int .i64 E,.int .i64 F] 23)) [⟨w.heap.size,#[.int .i64 E,.int .i64 F],23⟩] := Fs.one w _ _
 replace hS := ((hS.alloc #[.int .u64 a,.int .u64 b] 24).kept hb1).sub (fun x hx => List.mem_cons_of_mem _ hx)
 obtain ⟨⟨z1_0_0,z1_0_1,-⟩,-⟩ := hS.cells
 go_wp2_with fail
 refine (numbers2_yes E F c1 h1 c2 h2 _ a b HC HD _ (by have := heap_alloc_new w1 (.cells #[.int .u64 a,.int .u64 b] 24); simpa only [World.size_alloc] using this)).mono ?_
 rintro e w2 ⟨rfl,hb2⟩
 replace hS := ((hS.alloc #[.int .u64 a,.int .u64 b] 24).kept hb2).sub (fun x hx => List.mem_cons_of_mem _ hx)
 clear z1_0_0 z1_0_1
 obtain ⟨⟨z2_0_0,z2_0_1,-⟩,-⟩ := hS.cells
 go_wp2_with fail
 refine wp_region_any (by kernel_rfl) ?_
 refine wpAny_det [some (26,.agg #[.int .i64 E,.int .i64 F]),some (27,.int .u64 a),some (28,.agg #[.int .u64 qa,.int .u64 ra]),some (29,.int .i64 x),some (30,.agg #[.int .i64 E,.int .i64 F]),some (31,.int .u64 b),some (32,.agg #[.int .u64 qb,.int .u64 rb]),some (33,.int .i64 y),some (10,.int .i64 x),some (11,.int .i64 y)]
  (fun _ W9 => Fs w W9 [⟨w.heap.size,#[.int .i64 E,.int .i64 F],23⟩]) _ _ rfl (by kernel_rfl) rfl rfl ?_ ?_ (hS).drew
 ·intro l9 t9 W9 i9 hD hi9 hl9 hM
  obtain ⟨o9,ho9,hd9⟩ := (mem_ready.1 hi9).2
  have hin9 : i9 < 10 := by
   by_cases h : i9 < 10
   ·exact h
   ·rw [Array.getElem?_eq_none (by rw [hD.len]; simp; omega)] at hl9; cases hl9
  have hcase : i9 = 0 ∨ i9 = 1 ∨ i9 = 2 ∨ i9 = 3 ∨ i9 = 4 ∨ i9 = 5 ∨ i9 = 6 ∨ i9 = 7 ∨ i9 = 8 ∨ i9 = 9 := by omega
  clear hin9
  rcases hcase with rfl | rfl | rfl | rfl | rfl | rfl | rfl | rfl | rfl | rfl
  ·cases ho9
   have r3 := hD.old 3 _ rfl rfl
   have hM0 := hM
   have c9_0 := hM0.cellAt (b := w.heap.size) (cs := #[.int .i64 E,.int .i64 F]) (t := 23) (by simp) 0 _ rfl
   have c9_1 := hM0.cellAt (b := w.heap.size) (cs := #[.int .i64 E,.int .i64 F]) (t := 23) (by simp) 1 _ rfl
   clear hM0
   clear hD hd9 hi9
   refine wpOp_step rfl (fun K hK => ?_)
   go_simp
   exact hK _ _ ⟨rfl,hM⟩
  ·cases ho9
   have r1 := hD.old 1 _ rfl rfl
   clear hD hd9 hi9
   refine wpOp_step rfl (fun K hK => ?_)
   go_simp
   exact hK _ _ ⟨rfl,hM⟩
  ·cases ho9
   have r26 := hD.on 0 26 _ rfl (getD_true (hd9 ⟨0,.data⟩ (by simp) rfl))
   have r27 := hD.on 1 27 _ rfl (getD_true (hd9 ⟨1,.data⟩ (by simp) rfl))
   clear hD hd9 hi9
   refine wpOp_step rfl (fun K hK => ?_)
   go_simp
   go_wp2_with fail
   refine (HP _).mono ?_
   rintro en w9 ⟨rfl,hb9⟩
   exact hK _ _ ⟨rfl,hM.kept hb9⟩
  ·cases ho9
   have r28 := hD.on 2 28 _ rfl (getD_true (hd9 ⟨2,.data⟩ (by simp) rfl))
   clear hD hd9 hi9
   refine wpOp_step rfl (fun K hK => ?_)
   go_simp
   go_wp2_with fail
   refine (HX _).mono ?_
   rintro en w9 ⟨rfl,hb9⟩
   exact hK _ _ ⟨rfl,hM.kept hb9⟩
  ·cases ho9
   have r3 := hD.old 3 _ rfl rfl
   have hM0 := hM
   have c9_0 := hM0.cellAt (b := w.heap.size) (cs := #[.int .i64 E,.int .i64 F]) (t := 23) (by simp) 0 _ rfl
   have c9_1 := hM0.cellAt (b := w.heap.size) (cs := #[.int .i64 E,.int .i64 F]) (t := 23) (by simp) 1 _ rfl
   clear hM0
   clear hD hd9 hi9
   refine wpOp_step rfl (fun K hK => ?_)
   go_simp
   exact hK _ _ ⟨rfl,hM⟩
  ·cases ho9
   have r2 := hD.old 2 _ rfl rfl
   clear hD hd9 hi9
   refine wpOp_step rfl (fun K hK => ?_)
   go_simp
   exact hK _ _ ⟨rfl,hM⟩
  ·cases ho9
   have r30 := hD.on 4 30 _ rfl (getD_true (hd9 ⟨4,.data⟩ (by simp) rfl))
   have r31 := hD.on 5 31 _ rfl (getD_true (hd9 ⟨5,.data⟩ (by simp) rfl))
   clear hD hd9 hi9
   refine wpOp_step rfl (fun K hK => ?_)
   go_simp
   go_wp2_with fail
   refine (HQ _).mono ?_
   rintro en w9 ⟨rfl,hb9⟩
   exact hK _ _ ⟨rfl,hM.kept hb9⟩
  ·cases ho9
   have r32 := hD.on 6 32 _ rfl (getD_true (hd9 ⟨6,.data⟩ (by simp) rfl))
   clear hD hd9 hi9
   refine wpOp_step rfl (fun K hK => ?_)
   go_simp
   go_wp2_with fail
   refine (HY _).mono ?_
   rintro en w9 ⟨rfl,hb9⟩
   exact hK _ _ ⟨rfl,hM.kept hb9⟩
  ·cases ho9
   have r29 := hD.on 3 29 _ rfl (getD_true (hd9 ⟨3,.data⟩ (by simp) rfl))
   clear hD hd9 hi9
   refine wpOp_step rfl (fun K hK => ?_)
   go_simp
   exact hK _ _ ⟨rfl,hM⟩
  ·cases ho9
   have r33 := hD.on 7 33 _ rfl (getD_true (hd9 ⟨7,.data⟩ (by simp) rfl))
   clear hD hd9 hi9
   refine wpOp_step rfl (fun K hK => ?_)
   go_simp
   exact hK _ _ ⟨rfl,hM⟩
 ·intro l9 W9 hl9 hM
  clear hl9
  clear hS z2_0_0 z2_0_1
  have hS := hM
  clear hM
  simp only [Puts.lay,List.setIfInBounds_toArray,List.set_cons_zero,List.set_cons_succ]
  obtain ⟨⟨z3_0_0,z3_0_1,-⟩,-⟩ := hS.cells
  go_wp2
  go_ret3
  exact ⟨rfl,hS.fr⟩
set_option maxRecDepth 20000 in
set_option maxHeartbeats 2000000 in
theorem Steps_up (E F a b : Int) (c1 : Int) (h1 : (c1 == (5 : Int)) = false) (c2 : Int) (h2 : (c2 == (5 : Int)) = false) (H0 : Tel 42 #[.agg #[.int .i64 E,.int .i64 F],.int .u64 a] (.int .i64 0)) (H1 : Tel 42 #[.agg #[.int .i64 E,.int .i64 F],.int .u64 b] (.int .i64 0)) (HC : Tel 43 #[.agg #[.int .i64 E,.int .i64 F],.int .u64 a] (.tuple #[.int .u8 c1,.int .i64 0])) (HD : Tel 43 #[.agg #[.int .i64 E,.int .i64 F],.int .u64 b] (.tuple #[.int .u8 c2,.int .i64 0])) (qa ra qb rb x y : Int) (HP : Tel 22 #[.agg #[.int .i64 E,.int .i64 F],.int .u64 a] (.agg #[.int .u64 qa,.int .u64 ra])) (HQ : Tel 22 #[.agg #[.int .i64 E,.int .i64 F],.int .u64 b] (.agg #[.int .u64 qb,.int .u64 rb])) (HX : Tel 23 #[.agg #[.int .u64 qa,.int .u64 ra]] (.int .i64 x)) (HY : Tel 23 #[.agg #[.int .u64 qb,.int .u64 rb]] (.int .i64 y)) (h : ¬ y < x) (hx : -9223372036854775808 ≤ x) (hx2 : x < 9223372036854775808) (hy : -9223372036854775808 ≤ y) (hy2 : y < 9223372036854775808) (n : Int) (hn : n = y - x) (w : World)  :
  Calls Tryz.prog 6 #[.agg #[.int .i64 E,.int .i64 F],.int .u64 a,.int .u64 b] w fun e w' => e = .returned (.tuple #[.bool false,.int .u64 n,.int .i64 0]) ∧ Below w.heap.size w w' := by
 have e1 : IntKind.u64.wrap (IntKind.u64.wrap (y) - IntKind.u64.wrap (x)) = n := by rw [IntKind.wrap_u64,IntKind.wrap_u64,IntKind.wrap_u64]; omega
 clear hn hx hx2 hy hy2
 go_enter Tryz.func6,Tryz.ntmps6
 go_wp2_with fail
 refine (check2_ok E F _ a b H0 H1 _ (by have := heap_alloc_new (w.alloc (.cells #[.int .i64 E,.int .i64 F] 23)) (.cells #[.int .u64 a,.int .u64 b] 24); simpa only [World.size_alloc] using this)).mono ?_
 rintro e w1 ⟨rfl,hb1⟩
 have hS : Fs w (w.alloc (.cells #[.int .i64 E,.int .i64 F] 23)) [⟨w.heap.size,#[.int .i64 E,.int .i64 F],23⟩] := Fs.one w _ _
 replace hS := ((hS.alloc #[.int .u64 a,.int .u64 b] 24).kept hb1).sub (fun x hx => List.mem_cons_of_mem _ hx)
 obtain ⟨⟨z1_0_0,z1_0_1,-⟩,-⟩ := hS.cells
 go_wp2_with fail
 refine (numbers2_yes E F c1 h1 c2 h2 _ a b HC HD _ (by have := heap_alloc_new w1 (.cells #[.int .u64 a,.int .u64 b] 24); simpa only [World.size_alloc] using this)).mono ?_
 rintro e w2 ⟨rfl,hb2⟩
 replace hS := ((hS.alloc #[.int .u64 a,.int .u64 b] 24).kept hb2).sub (fun x hx => List.mem_cons_of_mem _ hx)
 clear z1_0_0 z1_0_1
 obtain ⟨⟨z2_0_0,z2_0_1,-⟩,-⟩ := hS.cells
 go_wp2_with fail
 refine wp_region_any (by kernel_rfl) ?_
 refine wpAny_det [some (26,.agg #[.int .i64 E,.int .i64 F]),some (27,.int .u64 a),some (28,.agg #[.int .u64 qa,.int .u64 ra]),some (29,.int .i64 x),some (30,.agg #[.int .i64 E,.int .i64 F]),some (31,.int .u64 b),some (32,.agg #[.int .u64 qb,.int .u64 rb]),some (33,.int .i64 y),some (10,.int .i64 x),some (11,.int .i64 y)]
  (fun _ W9 => Fs w W9 [⟨w.heap.size,#[.int .i64 E,.int .i64 F],23⟩]) _ _ rfl (by kernel_rfl) rfl rfl ?_ ?_ (hS).drew
 ·intro l9 t9 W9 i9 hD hi9 hl9 hM
  obtain ⟨o9,ho9,hd9⟩ := (mem_ready.1 hi9).2
  have hin9 : i9 < 10 := by
   by_cases h : i9 < 10
   ·exact h
   ·rw [Array.getElem?_eq_none (by rw [hD.len]; simp; omega)] at hl9; cases hl9
  have hcase : i9 = 0 ∨ i9 = 1 ∨ i9 = 2 ∨ i9 = 3 ∨ i9 = 4 ∨ i9 = 5 ∨ i9 = 6 ∨ i9 = 7 ∨ i9 = 8 ∨ i9 = 9 := by omega
  clear hin9
  rcases hcase with rfl | rfl | rfl | rfl | rfl | rfl | rfl | rfl | rfl | rfl
  ·cases ho9
   have r3 := hD.old 3 _ rfl rfl
   have hM0 := hM
   have c9_0 := hM0.cellAt (b := w.heap.size) (cs := #[.int .i64 E,.int .i64 F]) (t := 23) (by simp) 0 _ rfl
   have c9_1 := hM0.cellAt (b := w.heap.size) (cs := #[.int .i64 E,.int .i64 F]) (t := 23) (by simp) 1 _ rfl
   clear hM0
   clear hD hd9 hi9
   refine wpOp_step rfl (fun K hK => ?_)
   go_simp
   exact hK _ _ ⟨rfl,hM⟩
  ·cases ho9
   have r1 := hD.old 1 _ rfl rfl
   clear hD hd9 hi9
   refine wpOp_step rfl (fun K hK => ?_)
   go_simp
   exact hK _ _ ⟨rfl,hM⟩
  ·cases ho9
   have r26 := hD.on 0 26 _ rfl (getD_true (hd9 ⟨0,.data⟩ (by simp) rfl))
   have r27 := hD.on 1 27 _ rfl (getD_true (hd9 ⟨1,.data⟩ (by simp) rfl))
   clear hD hd9 hi9
   refine wpOp_step rfl (fun K hK => ?_)
   go_simp
   go_wp2_with fail
   refine (HP _).mono ?_
   rintro en w9 ⟨rfl,hb9⟩
   exact hK _ _ ⟨rfl,hM.kept hb9⟩
  ·cases ho9
   have r28 := hD.on 2 28 _ rfl (getD_true (hd9 ⟨2,.data⟩ (by simp) rfl))
   clear hD hd9 hi9
   refine wpOp_step rfl (fun K hK => ?_)
   go_simp
   go_wp2_with fail
   refine (HX _).mono ?_
   rintro en w9 ⟨rfl,hb9⟩
   exact hK _ _ ⟨rfl,hM.kept hb9⟩
  ·cases ho9
   have r3 := hD.old 3 _ rfl rfl
   have hM0 := hM
   have c9_0 := hM0.cellAt (b := w.heap.size) (cs := #[.int .i64 E,.int .i64 F]) (t := 23) (by simp) 0 _ rfl
   have c9_1 := hM0.cellAt (b := w.heap.size) (cs := #[.int .i64 E,.int .i64 F]) (t := 23) (by simp) 1 _ rfl
   clear hM0
   clear hD hd9 hi9
   refine wpOp_step rfl (fun K hK => ?_)
   go_simp
   exact hK _ _ ⟨rfl,hM⟩
  ·cases ho9
   have r2 := hD.old 2 _ rfl rfl
   clear hD hd9 hi9
   refine wpOp_step rfl (fun K hK => ?_)
   go_simp
   exact hK _ _ ⟨rfl,hM⟩
  ·cases ho9
   have r30 := hD.on 4 30 _ rfl (getD_true (hd9 ⟨4,.data⟩ (by simp) rfl))
   have r31 := hD.on 5 31 _ rfl (getD_true (hd9 ⟨5,.data⟩ (by simp) rfl))
   clear hD hd9 hi9
   refine wpOp_step rfl (fun K hK => ?_)
   go_simp
   go_wp2_with fail
   refine (HQ _).mono ?_
   rintro en w9 ⟨rfl,hb9⟩
   exact hK _ _ ⟨rfl,hM.kept hb9⟩
  ·cases ho9
   have r32 := hD.on 6 32 _ rfl (getD_true (hd9 ⟨6,.data⟩ (by simp) rfl))
   clear hD hd9 hi9
   refine wpOp_step rfl (fun K hK => ?_)
   go_simp
   go_wp2_with fail
   refine (HY _).mono ?_
   rintro en w9 ⟨rfl,hb9⟩
   exact hK _ _ ⟨rfl,hM.kept hb9⟩
  ·cases ho9
   have r29 := hD.on 3 29 _ rfl (getD_true (hd9 ⟨3,.data⟩ (by simp) rfl))
   clear hD hd9 hi9
   refine wpOp_step rfl (fun K hK => ?_)
   go_simp
   exact hK _ _ ⟨rfl,hM⟩
  ·cases ho9
   have r33 := hD.on 7 33 _ rfl (getD_true (hd9 ⟨7,.data⟩ (by simp) rfl))
   clear hD hd9 hi9
   refine wpOp_step rfl (fun K hK => ?_)
   go_simp
   exact hK _ _ ⟨rfl,hM⟩
 ·intro l9 W9 hl9 hM
  clear hl9
  clear hS z2_0_0 z2_0_1
  have hS := hM
  clear hM
  simp only [Puts.lay,List.setIfInBounds_toArray,List.set_cons_zero,List.set_cons_succ]
  obtain ⟨⟨z3_0_0,z3_0_1,-⟩,-⟩ := hS.cells
  go_wp2
  go_ret3
  exact ⟨by show Ending.returned (.tuple #[.bool (decide (y < x)),_,_]) = _; rw [decide_eq_false (show ¬ y < x by omega)]; rfl,hS.fr⟩
end Go.Proofs.YtdfmanglfdeooaaGreatDoor
