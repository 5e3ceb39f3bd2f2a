/- Of what NearNativeRow stands on: NrRows. -/
import Derived.Test.YtdfmanglfdeooaaGreatDoorPaf
namespace Go.Proofs.YtdfmanglfdeooaaGreatDoor
open Go.RowKit
set_option maxHeartbeats 400000 in
theorem Up_is (E F b x y : Int) (H : Tel 24 #[.agg #[.int .i64 E,.int .i64 F],.int .u64 b,.bool false] (.tuple #[.int .u64 x,.int .i64 y])) (w : World)  :
  Calls Tryz.prog 7 #[.agg #[.int .i64 E,.int .i64 F],.int .u64 b] w fun e w' => e = .returned (.tuple #[.int .u64 x,.int .i64 y]) ∧ Below w.heap.size w w' := by
 go_enter Tryz.func7,Tryz.ntmps7
 go_wp2_with fail
 refine (H _).mono ?_
 rintro e w1 ⟨rfl,hb1⟩
 have hS := (Fs.one w _ _).kept hb1
 obtain ⟨⟨z1_0_0,z1_0_1,-⟩,-⟩ := hS.cells
 go_wp2
 go_ret2
 exact ⟨rfl,hS.fr⟩
set_option maxHeartbeats 400000 in
theorem Down_is (E F b x y : Int) (H : Tel 24 #[.agg #[.int .i64 E,.int .i64 F],.int .u64 b,.bool true] (.tuple #[.int .u64 x,.int .i64 y])) (w : World)  :
  Calls Tryz.prog 8 #[.agg #[.int .i64 E,.int .i64 F],.int .u64 b] w fun e w' => e = .returned (.tuple #[.int .u64 x,.int .i64 y]) ∧ Below w.heap.size w w' := by
 go_enter Tryz.func8,Tryz.ntmps8
 go_wp2_with fail
 refine (H _).mono ?_
 rintro e w1 ⟨rfl,hb1⟩
 have hS := (Fs.one w _ _).kept hb1
 obtain ⟨⟨z1_0_0,z1_0_1,-⟩,-⟩ := hS.cells
 go_wp2
 go_ret2
 exact ⟨rfl,hS.fr⟩
def cm3 (a b : Int) : Int := if a < b then -1 else if b < a then 1 else 0
set_option maxRecDepth 20000 in
set_option maxHeartbeats 400000 in
theorem Cmp_nan1 (E F a b : Int) (H0 : Tel 42 #[.agg #[.int .i64 E,.int .i64 F],.int .u64 a] (.int .i64 0)) (H1 : Tel 42 #[.agg #[.int .i64 E,.int .i64 F],.int .u64 b] (.int .i64 0)) (HC : Tel 43 #[.agg #[.int .i64 E,.int .i64 F],.int .u64 a] (.tuple #[.int .u8 5,.int .i64 0]))  (w : World)  :
  Calls Tryz.prog 9 #[.agg #[.int .i64 E,.int .i64 F],.int .u64 a,.int .u64 b] w fun e w' => e = .returned (.tuple #[.int .i64 0,.bool false,.int .i64 0]) ∧ Below w.heap.size w w' := by
 go_enter Tryz.func9,Tryz.ntmps9
 go_wp2_with fail
 refine (check2_ok E F _ a b H0 H1 _ (by have := heap_alloc_new (w.alloc (.cells #[.int .i64 E,.int .i64 F] 23)) (.cells #[.int .u64 a,.int .u64 b] 24); simpa only [World.size_alloc] using this)).mono ?_
 rintro e w1 ⟨rfl,hb1⟩
 have hS : Fs w (w.alloc (.cells #[.int .i64 E,.int .i64 F] 23)) [⟨w.heap.size,#[.int .i64 E,.int .i64 F],23⟩] := Fs.one w _ _
 replace hS := ((hS.alloc #[.int .u64 a,.int .u64 b] 24).kept hb1).sub (fun x hx => List.mem_cons_of_mem _ hx)
 obtain ⟨⟨z1_0_0,z1_0_1,-⟩,-⟩ := hS.cells
 go_wp2_with fail
 refine (numbers2_no1 E F _ a b HC _ (by have := heap_alloc_new w1 (.cells #[.int .u64 a,.int .u64 b] 24); simpa only [World.size_alloc] using this)).mono ?_
 rintro e w2 ⟨rfl,hb2⟩
 replace hS := ((hS.alloc #[.int .u64 a,.int .u64 b] 24).kept hb2).sub (fun x hx => List.mem_cons_of_mem _ hx)
 clear z1_0_0 z1_0_1
 obtain ⟨⟨z2_0_0,z2_0_1,-⟩,-⟩ := hS.cells
 go_wp2
 go_ret3
 exact ⟨rfl,hS.fr⟩
set_option maxRecDepth 20000 in
set_option maxHeartbeats 400000 in
theorem Cmp_nan2 (E F a b : Int) (c1 : Int) (h1 : (c1 == (5 : Int)) = false) (H0 : Tel 42 #[.agg #[.int .i64 E,.int .i64 F],.int .u64 a] (.int .i64 0)) (H1 : Tel 42 #[.agg #[.int .i64 E,.int .i64 F],.int .u64 b] (.int .i64 0)) (HC : Tel 43 #[.agg #[.int .i64 E,.int .i64 F],.int .u64 a] (.tuple #[.int .u8 c1,.int .i64 0])) (HD : Tel 43 #[.agg #[.int .i64 E,.int .i64 F],.int .u64 b] (.tuple #[.int .u8 5,.int .i64 0]))  (w : World)  :
  Calls Tryz.prog 9 #[.agg #[.int .i64 E,.int .i64 F],.int .u64 a,.int .u64 b] w fun e w' => e = .returned (.tuple #[.int .i64 0,.bool false,.int .i64 0]) ∧ Below w.heap.size w w' := by
 go_enter Tryz.func9,Tryz.ntmps9
 go_wp2_with fail
 refine (check2_ok E F _ a b H0 H1 _ (by have := heap_alloc_new (w.alloc (.cells #[.int .i64 E,.int .i64 F] 23)) (.cells #[.int .u64 a,.int .u64 b] 24); simpa only [World.size_alloc] using this)).mono ?_
 rintro e w1 ⟨rfl,hb1⟩
 have hS : Fs w (w.alloc (.cells #[.int .i64 E,.int .i64 F] 23)) [⟨w.heap.size,#[.int .i64 E,.int .i64 F],23⟩] := Fs.one w _ _
 replace hS := ((hS.alloc #[.int .u64 a,.int .u64 b] 24).kept hb1).sub (fun x hx => List.mem_cons_of_mem _ hx)
 obtain ⟨⟨z1_0_0,z1_0_1,-⟩,-⟩ := hS.cells
 go_wp2_with fail
 refine (numbers2_no2 E F c1 h1 _ a b HC HD _ (by have := heap_alloc_new w1 (.cells #[.int .u64 a,.int .u64 b] 24); simpa only [World.size_alloc] using this)).mono ?_
 rintro e w2 ⟨rfl,hb2⟩
 replace hS := ((hS.alloc #[.int .u64 a,.int .u64 b] 24).kept hb2).sub (fun x hx => List.mem_cons_of_mem _ hx)
 clear z1_0_0 z1_0_1
 obtain ⟨⟨z2_0_0,z2_0_1,-⟩,-⟩ := hS.cells
 go_wp2
 go_ret3
 exact ⟨rfl,hS.fr⟩
set_option maxRecDepth 20000 in
set_option maxHeartbeats 2000000 in
theorem Steps_down (E F a b : Int) (c1 : Int) (h1 : (c1 == (5 : Int)) = false) (c2 : Int) (h2 : (c2 == (5 : Int)) = false) (H0 : Tel 42 #[.agg #[.int .i64 E,.int .i64 F],.int .u64 a] (.int .i64 0)) (H1 : Tel 42 #[.agg #[.int .i64 E,.int .i64 F],.int .u64 b] (.int .i64 0)) (HC : Tel 43 #[.agg #[.int .i64 E,.int .i64 F],.int .u64 a] (.tuple #[.int .u8 c1,.int .i64 0])) (HD : Tel 43 #[.agg #[.int .i64 E,.int .i64 F],.int .u64 b] (.tuple #[.int .u8 c2,.int .i64 0])) (qa ra qb rb x y : Int) (HP : Tel 22 #[.agg #[.int .i64 E,.int .i64 F],.int .u64 a] (.agg #[.int .u64 qa,.int .u64 ra])) (HQ : Tel 22 #[.agg #[.int .i64 E,.int .i64 F],.int .u64 b] (.agg #[.int .u64 qb,.int .u64 rb])) (HX : Tel 23 #[.agg #[.int .u64 qa,.int .u64 ra]] (.int .i64 x)) (HY : Tel 23 #[.agg #[.int .u64 qb,.int .u64 rb]] (.int .i64 y)) (h : y < x) (hx : -9223372036854775808 ≤ x) (hx2 : x < 9223372036854775808) (hy : -9223372036854775808 ≤ y) (hy2 : y < 9223372036854775808) (n : Int) (hn : n = x - y) (w : World)  :
  Calls Tryz.prog 6 #[.agg #[.int .i64 E,.int .i64 F],.int .u64 a,.int .u64 b] w fun e w' => e = .returned (.tuple #[.bool true,.int .u64 n,.int .i64 0]) ∧ Below w.heap.size w w' := by
 have e1 : IntKind.u64.wrap (IntKind.u64.wrap (x) - IntKind.u64.wrap (y)) = n := by rw [IntKind.wrap_u64,IntKind.wrap_u64,IntKind.wrap_u64]; omega
 clear hn hx hx2 hy hy2
 go_enter Tryz.func6,Tryz.ntmps6
 go_wp2_with fail
 refine (check2_ok E F _ a b H0 H1 _ (by have := heap_alloc_new (w.alloc (.cells #[.int .i64 E,.int .i64 F] 23)) (.cells #[.int .u64 a,.int .u64 b] 24); simpa only [World.size_alloc] using this)).mono ?_
 rintro e w1 ⟨rfl,hb1⟩
 have hS : Fs w (w.alloc (.cells #[.int .i64 E,.int .i64 F] 23)) [⟨w.heap.size,#[.int .i64 E,.int .i64 F],23⟩] := Fs.one w _ _
 replace hS := ((hS.alloc #[.int .u64 a,.int .u64 b] 24).kept hb1).sub (fun x hx => List.mem_cons_of_mem _ hx)
 obtain ⟨⟨z1_0_0,z1_0_1,-⟩,-⟩ := hS.cells
 go_wp2_with fail
 refine (numbers2_yes E F c1 h1 c2 h2 _ a b HC HD _ (by have := heap_alloc_new w1 (.cells #[.int .u64 a,.int .u64 b] 24); simpa only [World.size_alloc] using this)).mono ?_
 rintro e w2 ⟨rfl,hb2⟩
 replace hS := ((hS.alloc #[.int .u64 a,.int .u64 b] 24).kept hb2).sub (fun x hx => List.mem_cons_of_mem _ hx)
 clear z1_0_0 z1_0_1
 obtain ⟨⟨z2_0_0,z2_0_1,-⟩,-⟩ := hS.cells
 go_wp2_with fail
 refine wp_region_any (by kernel_rfl) ?_
 refine wpAny_det [some (26,.agg #[.int .i64 E,.int .i64 F]),some (27,.int .u64 a),some (28,.agg #[.int .u64 qa,.int .u64 ra]),some (29,.int .i64 x),some (30,.agg #[.int .i64 E,.int .i64 F]),some (31,.int .u64 b),some (32,.agg #[.int .u64 qb,.int .u64 rb]),some (33,.int .i64 y),some (10,.int .i64 x),some (11,.int .i64 y)]
  (fun _ W9 => Fs w W9 [⟨w.heap.size,#[.int .i64 E,.int .i64 F],23⟩]) _ _ rfl (by kernel_rfl) rfl rfl ?_ ?_ (hS).drew
 ·intro l9 t9 W9 i9 hD hi9 hl9 hM
  obtain ⟨o9,ho9,hd9⟩ := (mem_ready.1 hi9).2
  have hin9 : i9 < 10 := by
   by_cases h : i9 < 10
   ·exact h
   ·rw [Array.getElem?_eq_none (by rw [hD.len]; simp; omega)] at hl9; cases hl9
  have hcase : i9 = 0 ∨ i9 = 1 ∨ i9 = 2 ∨ i9 = 3 ∨ i9 = 4 ∨ i9 = 5 ∨ i9 = 6 ∨ i9 = 7 ∨ i9 = 8 ∨ i9 = 9 := by omega
  clear hin9
  rcases hcase with rfl | rfl | rfl | rfl | rfl | rfl | rfl | rfl | rfl | rfl
  ·cases ho9
   have r3 := hD.old 3 _ rfl rfl
   have hM0 := hM
   have c9_0 := hM0.cellAt (b := w.heap.size) (cs := #[.int .i64 E,.int .i64 F]) (t := 23) (by simp) 0 _ rfl
   have c9_1 := hM0.cellAt (b := w.heap.size) (cs := #[.int .i64 E,.int .i64 F]) (t := 23) (by simp) 1 _ rfl
   clear hM0
   clear hD hd9 hi9
   refine wpOp_step rfl (fun K hK => ?_)
   go_simp
   exact hK _ _ ⟨rfl,hM⟩
  ·cases ho9
   have r1 := hD.old 1 _ rfl rfl
   clear hD hd9 hi9
   refine wpOp_step rfl (fun K hK => ?_)
   go_simp
   exact hK _ _ ⟨rfl,hM⟩
  ·cases ho9
   have r26 := hD.on 0 26 _ rfl (getD_true (hd9 ⟨0,.data⟩ (by simp) rfl))
   have r27 := hD.on 1 27 _ rfl (getD_true (hd9 ⟨1,.data⟩ (by simp) rfl))
   clear hD hd9 hi9
   refine wpOp_step rfl (fun K hK => ?_)
   go_simp
   go_wp2_with fail
   refine (HP _).mono ?_
   rintro en w9 ⟨rfl,hb9⟩
   exact hK _ _ ⟨rfl,hM.kept hb9⟩
  ·cases ho9
   have r28 := hD.on 2 28 _ rfl (getD_true (hd9 ⟨2,.data⟩ (by simp) rfl))
   clear hD hd9 hi9
   refine wpOp_step rfl (fun K hK => ?_)
   go_simp
   go_wp2_with fail
   refine (HX _).mono ?_
   rintro en w9 ⟨rfl,hb9⟩
   exact hK _ _ ⟨rfl,hM.kept hb9⟩
  ·cases ho9
   have r3 := hD.old 3 _ rfl rfl
   have hM0 := hM
   have c9_0 := hM0.cellAt (b := w.heap.size) (cs := #[.int .i64 E,.int .i64 F]) (t := 23) (by simp) 0 _ rfl
   have c9_1 := hM0.cellAt (b := w.heap.size) (cs := #[.int .i64 E,.int .i64 F]) (t := 23) (by simp) 1 _ rfl
   clear hM0
   clear hD hd9 hi9
   refine wpOp_step rfl (fun K hK => ?_)
   go_simp
   exact hK _ _ ⟨rfl,hM⟩
  ·cases ho9
   have r2 := hD.old 2 _ rfl rfl
   clear hD hd9 hi9
   refine wpOp_step rfl (fun K hK => ?_)
   go_simp
   exact hK _ _ ⟨rfl,hM⟩
  ·cases ho9
   have r30 := hD.on 4 30 _ rfl (getD_true (hd9 ⟨4,.data⟩ (by simp) rfl))
   have r31 := hD.on 5 31 _ rfl (getD_true (hd9 ⟨5,.data⟩ (by simp) rfl))
   clear hD hd9 hi9
   refine wpOp_step rfl (fun K hK => ?_)
   go_simp
   go_wp2_with fail
   refine (HQ _).mono ?_
   rintro en w9 ⟨rfl,hb9⟩
   exact hK _ _ ⟨rfl,hM.kept hb9⟩
  ·cases ho9
   have r32 := hD.on 6 32 _ rfl (getD_true (hd9 ⟨6,.data⟩ (by simp) rfl))
   clear hD hd9 hi9
   refine wpOp_step rfl (fun K hK => ?_)
   go_simp
   go_wp2_with fail
   refine (HY _).mono ?_
   rintro en w9 ⟨rfl,hb9⟩
   exact hK _ _ ⟨rfl,hM.kept hb9⟩
  ·cases ho9
   have r29 := hD.on 3 29 _ rfl (getD_true (hd9 ⟨3,.data⟩ (by simp) rfl))
   clear hD hd9 hi9
   refine wpOp_step rfl (fun K hK => ?_)
   go_simp
   exact hK _ _ ⟨rfl,hM⟩
  ·cases ho9
   have r33 := hD.on 7 33 _ rfl (getD_true (hd9 ⟨7,.data⟩ (by simp) rfl))
   clear hD hd9 hi9
   refine wpOp_step rfl (fun K hK => ?_)
   go_simp
   exact hK _ _ ⟨rfl,hM⟩
 ·intro l9 W9 hl9 hM
  clear hl9
  clear hS z2_0_0 z2_0_1
  have hS := hM
  clear hM
  simp only [Puts.lay,List.setIfInBounds_toArray,List.set_cons_zero,List.set_cons_succ]
  obtain ⟨⟨z3_0_0,z3_0_1,-⟩,-⟩ := hS.cells
  go_wp2
  go_ret3
  exact ⟨rfl,hS.fr⟩
set_option maxRecDepth 20000 in
set_option maxHeartbeats 2000000 in
theorem Steps_up (E F a b : Int) (c1 : Int) (h1 : (c1 == (5 : Int)) = false) (c2 : Int) (h2 : (c2 == (5 : Int)) = false) (H0 : Tel 42 #[.agg #[.int .i64 E,.int .i64 F],.int .u64 a] (.int .i64 0)) (H1 : Tel 42 #[.agg #[.int .i64 E,.int .i64 F],.int .u64 b] (.int .i64 0)) (HC : Tel 43 #[.agg #[.int .i64 E,.int .i64 F],.int .u64 a] (.tuple #[.int .u8 c1,.int .i64 0])) (HD : Tel 43 #[.agg #[.int .i64 E,.int .i64 F],.int .u64 b] (.tuple #[.int .u8 c2,.int .i64 0])) (qa ra qb rb x y : Int) (HP : Tel 22 #[.agg #[.int .i64 E,.int .i64 F],.int .u64 a] (.agg #[.int .u64 qa,.int .u64 ra])) (HQ : Tel 22 #[.agg #[.int .i64 E,.int .i64 F],.int .u64 b] (.agg #[.int .u64 qb,.int .u64 rb])) (HX : Tel 23 #[.agg #[.int .u64 qa,.int .u64 ra]] (.int .i64 x)) (HY : Tel 23 #[.agg #[.int .u64 qb,.int .u64 rb]] (.int .i64 y)) (h : ¬ y < x) (hx : -9223372036854775808 ≤ x) (hx2 : x < 9223372036854775808) (hy : -9223372036854775808 ≤ y) (hy2 : y < 9223372036854775808) (n : Int) (hn : n = y - x) (w : World)  :
  Calls Tryz.prog 6 #[.agg #[.int .i64 E,.int .i64 F],.int .u64 a,.int .u64 b] w fun e w' => e = .returned (.tuple #[.bool false,.int .u64 n,.int .i64 0]) ∧ Below w.heap.size w w' := by
 have e1 : IntKind.u64.wrap (IntKind.u64.wrap (y) - IntKind.u64.wrap (x)) = n := by rw [IntKind.wrap_u64,IntKind.wrap_u64,IntKind.wrap_u64]; omega
 clear hn hx hx2 hy hy2
 go_enter Tryz.func6,Tryz.ntmps6
 go_wp2_with fail
 refine (check2_ok E F _ a b H0 H1 _ (by have := heap_alloc_new (w.alloc (.cells #[.int .i64 E,.int .i64 F] 23)) (.cells #[.int .u64 a,.int .u64 b] 24); simpa only [World.size_alloc] using this)).mono ?_
 rintro e w1 ⟨rfl,hb1⟩
 have hS : Fs w (w.alloc (.cells #[.int .i64 E,.int .i64 F] 23)) [⟨w.heap.size,#[.int .i64 E,.int .i64 F],23⟩] := Fs.one w _ _
 replace hS := ((hS.alloc #[.int .u64 a,.int .u64 b] 24).kept hb1).sub (fun x hx => List.mem_cons_of_mem _ hx)
 obtain ⟨⟨z1_0_0,z1_0_1,-⟩,-⟩ := hS.cells
 go_wp2_with fail
 refine (numbers2_yes E F c1 h1 c2 h2 _ a b HC HD _ (by have := heap_alloc_new w1 (.cells #[.int .u64 a,.int .u64 b] 24); simpa only [World.size_alloc] using this)).mono ?_
 rintro e w2 ⟨rfl,hb2⟩
 replace hS := ((hS.alloc #[.int .u64 a,.int .u64 b] 24).kept hb2).sub (fun x hx => List.mem_cons_of_mem _ hx)
 clear z1_0_0 z1_0_1
 obtain ⟨⟨z2_0_0,z2_0_1,-⟩,-⟩ := hS.cells
 go_wp2_with fail
 refine wp_region_any (by kernel_rfl) ?_
 refine wpAny_det [some (26,.agg #[.int .i64 E,.int .i64 F]),some (27,.int .u64 a),some (28,.agg #[.int .u64 qa,.int .u64 ra]),some (29,.int .i64 x),some (30,.agg #[.int .i64 E,.int .i64 F]),some (31,.int .u64 b),some (32,.agg #[.int .u64 qb,.int .u64 rb]),some (33,.int .i64 y),some (10,.int .i64 x),some (11,.int .i64 y)]
  (fun _ W9 => Fs w W9 [⟨w.heap.size,#[.int .i64 E,.int .i64 F],23⟩]) _ _ rfl (by kernel_rfl) rfl rfl ?_ ?_ (hS).drew
 ·intro l9 t9 W9 i9 hD hi9 hl9 hM
  obtain ⟨o9,ho9,hd9⟩ := (mem_ready.1 hi9).2
  have hin9 : i9 < 10 := by
   by_cases h : i9 < 10
   ·exact h
   ·rw [Array.getElem?_eq_none (by rw [hD.len]; simp; omega)] at hl9; cases hl9
  have hcase : i9 = 0 ∨ i9 = 1 ∨ i9 = 2 ∨ i9 = 3 ∨ i9 = 4 ∨ i9 = 5 ∨ i9 = 6 ∨ i9 = 7 ∨ i9 = 8 ∨ i9 = 9 := by omega
  clear hin9
  rcases hcase with rfl | rfl | rfl | rfl | rfl | rfl | rfl | rfl | rfl | rfl
  ·cases ho9
   have r3 := hD.old 3 _ rfl rfl
   have hM0 := hM
   have c9_0 := hM0.cellAt (b := w.heap.size) (cs := #[.int .i64 E,.int .i64 F]) (t := 23) (by simp) 0 _ rfl
   have c9_1 := hM0.cellAt (b := w.heap.size) (cs := #[.int .i64 E,.int .i64 F]) (t := 23) (by simp) 1 _ rfl
   clear hM0
   clear hD hd9 hi9
   refine wpOp_step rfl (fun K hK => ?_)
   go_simp
   exact hK _ _ ⟨rfl,hM⟩
  ·cases ho9
   have r1 := hD.old 1 _ rfl rfl
   clear hD hd9 hi9
   refine wpOp_step rfl (fun K hK => ?_)
   go_simp
   exact hK _ _ ⟨rfl,hM⟩
  ·cases ho9
   have r26 := hD.on 0 26 _ rfl (getD_true (hd9 ⟨0,.data⟩ (by simp) rfl))
   have r27 := hD.on 1 27 _ rfl (getD_true (hd9 ⟨1,.data⟩ (by simp) rfl))
   clear hD hd9 hi9
   refine wpOp_step rfl (fun K hK => ?_)
   go_simp
   go_wp2_with fail
   refine (HP _).mono ?_
   rintro en w9 ⟨rfl,hb9⟩
   exact hK _ _ ⟨rfl,hM.kept hb9⟩
  ·cases ho9
   have r28 := hD.on 2 28 _ rfl (getD_true (hd9 ⟨2,.data⟩ (by simp) rfl))
   clear hD hd9 hi9
   refine wpOp_step rfl (fun K hK => ?_)
   go_simp
   go_wp2_with fail
   refine (HX _).mono ?_
   rintro en w9 ⟨rfl,hb9⟩
   exact hK _ _ ⟨rfl,hM.kept hb9⟩
  ·cases ho9
   have r3 := hD.old 3 _ rfl rfl
   have hM0 := hM
   have c9_0 := hM0.cellAt (b := w.heap.size) (cs := #[.int .i64 E,.int .i64 F]) (t := 23) (by simp) 0 _ rfl
   have c9_1 := hM0.cellAt (b := w.heap.size) (cs := #[.int .i64 E,.int .i64 F]) (t := 23) (by simp) 1 _ rfl
   clear hM0
   clear hD hd9 hi9
   refine wpOp_step rfl (fun K hK => ?_)
   go_simp
   exact hK _ _ ⟨rfl,hM⟩
  ·cases ho9
   have r2 := hD.old 2 _ rfl rfl
   clear hD hd9 hi9
   refine wpOp_step rfl (fun K hK => ?_)
   go_simp
   exact hK _ _ ⟨rfl,hM⟩
  ·cases ho9
   have r30 := hD.on 4 30 _ rfl (getD_true (hd9 ⟨4,.data⟩ (by simp) rfl))
   have r31 := hD.on 5 31 _ rfl (getD_true (hd9 ⟨5,.data⟩ (by simp) rfl))
   clear hD hd9 hi9
   refine wpOp_step rfl (fun K hK => ?_)
   go_simp
   go_wp2_with fail
   refine (HQ _).mono ?_
   rintro en w9 ⟨rfl,hb9⟩
   exact hK _ _ ⟨rfl,hM.kept hb9⟩
  ·cases ho9
   have r32 := hD.on 6 32 _ rfl (getD_true (hd9 ⟨6,.data⟩ (by simp) rfl))
   clear hD hd9 hi9
   refine wpOp_step rfl (fun K hK => ?_)
   go_simp
   go_wp2_with fail
   refine (HY _).mono ?_
   rintro en w9 ⟨rfl,hb9⟩
   exact hK _ _ ⟨rfl,hM.kept hb9⟩
  ·cases ho9
   have r29 := hD.on 3 29 _ rfl (getD_true (hd9 ⟨3,.data⟩ (by simp) rfl))
   clear hD hd9 hi9
   refine wpOp_step rfl (fun K hK => ?_)
   go_simp
   exact hK _ _ ⟨rfl,hM⟩
  ·cases ho9
   have r33 := hD.on 7 33 _ rfl (getD_true (hd9 ⟨7,.data⟩ (by simp) rfl))
   clear hD hd9 hi9
   refine wpOp_step rfl (fun K hK => ?_)
   go_simp
   exact hK _ _ ⟨rfl,hM⟩
 ·intro l9 W9 hl9 hM
  clear hl9
  clear hS z2_0_0 z2_0_1
  have hS := hM
  clear hM
  simp only [Puts.lay,List.setIfInBounds_toArray,List.set_cons_zero,List.set_cons_succ]
  obtain ⟨⟨z3_0_0,z3_0_1,-⟩,-⟩ := hS.cells
  go_wp2
  go_ret3
  exact ⟨by show Ending.returned (.tuple #[.bool (decide (y < x)),_,_]) = _; rw [decide_eq_false (show ¬ y < x by omega)]; rfl,hS.fr⟩
end Go.Proofs.YtdfmanglfdeooaaGreatDoor
