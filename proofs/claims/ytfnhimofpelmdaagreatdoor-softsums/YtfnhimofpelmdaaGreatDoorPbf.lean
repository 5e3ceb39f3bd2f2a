/- Of what SoftSumsRow stands on: SfRef SfNans SxNl SfAsk. -/
import Derived.Test.YtfnhimofpelmdaaGreatDoorPaf
import Derived.Test.YtfnhimofpelmdaaGreatDoorPbb
namespace Go.Proofs.YtfnhimofpelmdaaGreatDoor
open Go.RowKit
set_option maxHeartbeats 4000000
set_option maxRecDepth 20000
theorem xsign_t (E F S : Nat) (h : Fo E F) (hS : Hid (S = 2 ^ (F + E))) (w : World)  :
  Calls Tryz.prog 30 #[.agg #[.int .i64 E,.int .i64 F],.bool true] w fun e w' => e = .returned (.int .u64 (S : Int)) ∧ Below w.heap.size w w' := by
 have h63 := h.sum
 have e1 : IntKind.u64.wrap ((2 : Int) ^ (E + F)) = (S : Int) := by rw [nwrap_pow _ (by omega),unhide hS,Nat.add_comm]
 go_enter Tryz.func30,Tryz.ntmps30
 go_wp2
 go_ret
 exact ⟨by rw [← e1]; rfl,(Fs.one w _ _).fr⟩
theorem xsign_f (E F : Int) (w : World)  :
  Calls Tryz.prog 30 #[.agg #[.int .i64 E,.int .i64 F],.bool false] w fun e w' => e = .returned (.int .u64 0) ∧ Below w.heap.size w w' := by
 go_enter Tryz.func30,Tryz.ntmps30
 go_wp2
 go_ret
 exact ⟨rfl,(Fs.one w _ _).fr⟩
theorem xInf_t (E F pE tE I sg v : Nat) (HS : Tel 30 #[.agg #[.int .i64 E,.int .i64 F],.bool true] (.int .u64 (sg : Int))) (hE : E ≤ 11) (hF : F ≤ 52) (hF1 : 1 ≤ F) (h6 : IntKind.u64.wrap ((2 : Int) ^ E) = (pE : Int)) (h7 : IntKind.u64.wrap ((pE : Int) - 1) = (tE : Int)) (h11 : IntKind.u64.wrap ((tE : Int) * 2 ^ F) = (I : Int)) (h12 : IntKind.u64.wrap ((sg : Int) + (I : Int)) = (v : Int)) (w : World)  :
  Calls Tryz.prog 33 #[.agg #[.int .i64 E,.int .i64 F],.bool true] w fun e w' => e = .returned (.int .u64 (v : Int)) ∧ Below w.heap.size w w' := by
 go_enter Tryz.func33,Tryz.ntmps33
 go_wp2_with fail
 refine wp_region_any (by kernel_rfl) ?_
 refine wpAny_det [some (5,.agg #[.int .i64 E,.int .i64 F]),some (6,.bool true),some (7,.int .u64 (sg : Int)),some (8,.pointer (some ⟨w.heap.size,0,none⟩)),some (9,.int .i64 E),some (10,.int .u64 E),some (11,.int .u64 pE),some (12,.int .u64 tE),some (13,.pointer (some ⟨w.heap.size,1,none⟩)),some (14,.int .i64 F),some (15,.int .u64 F),some (16,.int .u64 I),some (17,.int .u64 v),some (4,.int .u64 v)]
  (fun _ W9 => Fs w W9 [⟨w.heap.size,#[.int .i64 E,.int .i64 F],23⟩]) _ _ rfl (by kernel_rfl) rfl rfl ?_ ?_ (Fs.one w _ _).drew
 ·intro l9 t9 W9 i9 hD hi9 hl9 hM
  obtain ⟨o9,ho9,hd9⟩ := (mem_ready.1 hi9).2
  have hin9 : i9 < 14 := by
   by_cases h : i9 < 14
   ·exact h
   ·rw [Array.getElem?_eq_none (by rw [hD.len]; simp; omega)] at hl9; cases hl9
  have hcase : i9 = 0 ∨ i9 = 1 ∨ i9 = 2 ∨ i9 = 3 ∨ i9 = 4 ∨ i9 = 5 ∨ i9 = 6 ∨ i9 = 7 ∨ i9 = 8 ∨ i9 = 9 ∨ i9 = 10 ∨ i9 = 11 ∨ i9 = 12 ∨ i9 = 13 := by omega
  clear hin9
  rcases hcase with rfl | rfl | rfl | rfl | rfl | rfl | rfl | rfl | rfl | rfl | rfl | rfl | rfl | rfl
  ·cases ho9
   have r2 := hD.old 2 _ rfl rfl
   have hM0 := hM
   have Q_ := hM0.cellAt (b := w.heap.size) (cs := #[.int .i64 E,.int .i64 F]) (t := 23) (by simp)
   have c9_0 := Q_ 0 _ rfl
   have c9_1 := Q_ 1 _ rfl
   clear Q_
   clear hM0
   refine wpOp_step rfl fun K hK => ?_
   go_simp
   exact hK _ _ ⟨rfl,hM⟩
  ·cases ho9
   have r1 := hD.old 1 _ rfl rfl
   refine wpOp_step rfl fun K hK => ?_
   go_simp
   exact hK _ _ ⟨rfl,hM⟩
  ·cases ho9
   have r5 := hD.od hd9 0 5 _ rfl (by simp)
   have r6 := hD.od hd9 1 6 _ rfl (by simp)
   refine wpOp_step rfl fun K hK => ?_
   go_simp
   go_wp2_with fail
   refine (HS _).mono ?_
   rintro en w9 ⟨rfl,hb9⟩
   exact hK _ _ ⟨rfl,hM.kept hb9⟩
  ·cases ho9
   have r2 := hD.old 2 _ rfl rfl
   refine wpOp_step rfl fun K hK => ?_
   go_simp
   exact hK _ _ ⟨rfl,hM⟩
  ·cases ho9
   have r8 := hD.od hd9 3 8 _ rfl (by simp)
   have hM0 := hM
   have c9_0 := hM0.cellAt (b := w.heap.size) (cs := #[.int .i64 E,.int .i64 F]) (t := 23) (by simp) 0 _ rfl
   clear hM0
   refine wpOp_step rfl fun K hK => ?_
   go_simp
   exact hK _ _ ⟨rfl,hM⟩
  ·cases ho9
   have r9 := hD.od hd9 4 9 _ rfl (by simp)
   refine wpOp_step rfl fun K hK => ?_
   go_simp
   exact hK _ _ ⟨act_eq (by (show Value.int _ _ = Value.int _ _; congr 1; (first | rfl | omega | (rw [IntKind.wrap_i64]; omega) | (rw [IntKind.wrap_u64]; omega)))),hM⟩
  ·cases ho9
   have r10 := hD.od hd9 5 10 _ rfl (by simp)
   refine wpOp_step rfl fun K hK => ?_
   go_simp
   exact hK _ _ ⟨act_eq (by (first | rfl | exact congrArg (Value.int .u64) h6 | (rw [← h6]; rfl) | (simp [h6]))),hM⟩
  ·cases ho9
   have r11 := hD.od hd9 6 11 _ rfl (by simp)
   refine wpOp_step rfl fun K hK => ?_
   go_simp
   exact hK _ _ ⟨act_eq (by (first | rfl | exact congrArg (Value.int .u64) h7 | (rw [← h7]; rfl) | (simp [h7]))),hM⟩
  ·cases ho9
   have r2 := hD.old 2 _ rfl rfl
   refine wpOp_step rfl fun K hK => ?_
   go_simp
   exact hK _ _ ⟨rfl,hM⟩
  ·cases ho9
   have r13 := hD.od hd9 8 13 _ rfl (by simp)
   have hM0 := hM
   have c9_0 := hM0.cellAt (b := w.heap.size) (cs := #[.int .i64 E,.int .i64 F]) (t := 23) (by simp) 1 _ rfl
   clear hM0
   refine wpOp_step rfl fun K hK => ?_
   go_simp
   exact hK _ _ ⟨rfl,hM⟩
  ·cases ho9
   have r14 := hD.od hd9 9 14 _ rfl (by simp)
   refine wpOp_step rfl fun K hK => ?_
   go_simp
   exact hK _ _ ⟨act_eq (by (show Value.int _ _ = Value.int _ _; congr 1; (first | rfl | omega | (rw [IntKind.wrap_i64]; omega) | (rw [IntKind.wrap_u64]; omega)))),hM⟩
  ·cases ho9
   have r12 := hD.od hd9 7 12 _ rfl (by simp)
   have r15 := hD.od hd9 10 15 _ rfl (by simp)
   refine wpOp_step rfl fun K hK => ?_
   go_simp
   exact hK _ _ ⟨act_eq (by (first | rfl | exact congrArg (Value.int .u64) h11 | (rw [← h11]; rfl) | (simp [h11]))),hM⟩
  ·cases ho9
   have r7 := hD.od hd9 2 7 _ rfl (by simp)
   have r16 := hD.od hd9 11 16 _ rfl (by simp)
   refine wpOp_step rfl fun K hK => ?_
   go_simp
   exact hK _ _ ⟨act_eq (by (first | rfl | exact congrArg (Value.int .u64) h12 | (rw [← h12]; rfl) | (simp [h12]))),hM⟩
  ·cases ho9
   have r17 := hD.od hd9 12 17 _ rfl (by simp)
   refine wpOp_step rfl fun K hK => ?_
   go_simp
   exact hK _ _ ⟨rfl,hM⟩
 ·intro l9 W9 hl9 hM
  have hS := hM
  clear hM
  simp only [Puts.lay,List.setIfInBounds_toArray,List.set_cons_zero,List.set_cons_succ]
  obtain ⟨⟨ya,yb,-⟩,-⟩ := hS.cells
  go_wp2
  go_ret
  exact ⟨rfl,hS.fr⟩
theorem xInf_f (E F pE tE I sg v : Nat) (HS : Tel 30 #[.agg #[.int .i64 E,.int .i64 F],.bool false] (.int .u64 (sg : Int))) (hE : E ≤ 11) (hF : F ≤ 52) (hF1 : 1 ≤ F) (h6 : IntKind.u64.wrap ((2 : Int) ^ E) = (pE : Int)) (h7 : IntKind.u64.wrap ((pE : Int) - 1) = (tE : Int)) (h11 : IntKind.u64.wrap ((tE : Int) * 2 ^ F) = (I : Int)) (h12 : IntKind.u64.wrap ((sg : Int) + (I : Int)) = (v : Int)) (w : World)  :
  Calls Tryz.prog 33 #[.agg #[.int .i64 E,.int .i64 F],.bool false] w fun e w' => e = .returned (.int .u64 (v : Int)) ∧ Below w.heap.size w w' := by
 go_enter Tryz.func33,Tryz.ntmps33
 go_wp2_with fail
 refine wp_region_any (by kernel_rfl) ?_
 refine wpAny_det [some (5,.agg #[.int .i64 E,.int .i64 F]),some (6,.bool false),some (7,.int .u64 (sg : Int)),some (8,.pointer (some ⟨w.heap.size,0,none⟩)),some (9,.int .i64 E),some (10,.int .u64 E),some (11,.int .u64 pE),some (12,.int .u64 tE),some (13,.pointer (some ⟨w.heap.size,1,none⟩)),some (14,.int .i64 F),some (15,.int .u64 F),some (16,.int .u64 I),some (17,.int .u64 v),some (4,.int .u64 v)]
  (fun _ W9 => Fs w W9 [⟨w.heap.size,#[.int .i64 E,.int .i64 F],23⟩]) _ _ rfl (by kernel_rfl) rfl rfl ?_ ?_ (Fs.one w _ _).drew
 ·intro l9 t9 W9 i9 hD hi9 hl9 hM
  obtain ⟨o9,ho9,hd9⟩ := (mem_ready.1 hi9).2
  have hin9 : i9 < 14 := by
   by_cases h : i9 < 14
   ·exact h
   ·rw [Array.getElem?_eq_none (by rw [hD.len]; simp; omega)] at hl9; cases hl9
  have hcase : i9 = 0 ∨ i9 = 1 ∨ i9 = 2 ∨ i9 = 3 ∨ i9 = 4 ∨ i9 = 5 ∨ i9 = 6 ∨ i9 = 7 ∨ i9 = 8 ∨ i9 = 9 ∨ i9 = 10 ∨ i9 = 11 ∨ i9 = 12 ∨ i9 = 13 := by omega
  clear hin9
  rcases hcase with rfl | rfl | rfl | rfl | rfl | rfl | rfl | rfl | rfl | rfl | rfl | rfl | rfl | rfl
  ·cases ho9
   have r2 := hD.old 2 _ rfl rfl
   have hM0 := hM
   have Q_ := hM0.cellAt (b := w.heap.size) (cs := #[.int .i64 E,.int .i64 F]) (t := 23) (by simp)
   have c9_0 := Q_ 0 _ rfl
   have c9_1 := Q_ 1 _ rfl
   clear Q_
   clear hM0
   refine wpOp_step rfl fun K hK => ?_
   go_simp
   exact hK _ _ ⟨rfl,hM⟩
  ·cases ho9
   have r1 := hD.old 1 _ rfl rfl
   refine wpOp_step rfl fun K hK => ?_
   go_simp
   exact hK _ _ ⟨rfl,hM⟩
  ·cases ho9
   have r5 := hD.od hd9 0 5 _ rfl (by simp)
   have r6 := hD.od hd9 1 6 _ rfl (by simp)
   refine wpOp_step rfl fun K hK => ?_
   go_simp
   go_wp2_with fail
   refine (HS _).mono ?_
   rintro en w9 ⟨rfl,hb9⟩
   exact hK _ _ ⟨rfl,hM.kept hb9⟩
  ·cases ho9
   have r2 := hD.old 2 _ rfl rfl
   refine wpOp_step rfl fun K hK => ?_
   go_simp
   exact hK _ _ ⟨rfl,hM⟩
  ·cases ho9
   have r8 := hD.od hd9 3 8 _ rfl (by simp)
   have hM0 := hM
   have c9_0 := hM0.cellAt (b := w.heap.size) (cs := #[.int .i64 E,.int .i64 F]) (t := 23) (by simp) 0 _ rfl
   clear hM0
   refine wpOp_step rfl fun K hK => ?_
   go_simp
   exact hK _ _ ⟨rfl,hM⟩
  ·cases ho9
   have r9 := hD.od hd9 4 9 _ rfl (by simp)
   refine wpOp_step rfl fun K hK => ?_
   go_simp
   exact hK _ _ ⟨act_eq (by (show Value.int _ _ = Value.int _ _; congr 1; (first | rfl | omega | (rw [IntKind.wrap_i64]; omega) | (rw [IntKind.wrap_u64]; omega)))),hM⟩
  ·cases ho9
   have r10 := hD.od hd9 5 10 _ rfl (by simp)
   refine wpOp_step rfl fun K hK => ?_
   go_simp
   exact hK _ _ ⟨act_eq (by (first | rfl | exact congrArg (Value.int .u64) h6 | (rw [← h6]; rfl) | (simp [h6]))),hM⟩
  ·cases ho9
   have r11 := hD.od hd9 6 11 _ rfl (by simp)
   refine wpOp_step rfl fun K hK => ?_
   go_simp
   exact hK _ _ ⟨act_eq (by (first | rfl | exact congrArg (Value.int .u64) h7 | (rw [← h7]; rfl) | (simp [h7]))),hM⟩
  ·cases ho9
   have r2 := hD.old 2 _ rfl rfl
   refine wpOp_step rfl fun K hK => ?_
   go_simp
   exact hK _ _ ⟨rfl,hM⟩
  ·cases ho9
   have r13 := hD.od hd9 8 13 _ rfl (by simp)
   have hM0 := hM
   have c9_0 := hM0.cellAt (b := w.heap.size) (cs := #[.int .i64 E,.int .i64 F]) (t := 23) (by simp) 1 _ rfl
   clear hM0
   refine wpOp_step rfl fun K hK => ?_
   go_simp
   exact hK _ _ ⟨rfl,hM⟩
  ·cases ho9
   have r14 := hD.od hd9 9 14 _ rfl (by simp)
   refine wpOp_step rfl fun K hK => ?_
   go_simp
   exact hK _ _ ⟨act_eq (by (show Value.int _ _ = Value.int _ _; congr 1; (first | rfl | omega | (rw [IntKind.wrap_i64]; omega) | (rw [IntKind.wrap_u64]; omega)))),hM⟩
  ·cases ho9
   have r12 := hD.od hd9 7 12 _ rfl (by simp)
   have r15 := hD.od hd9 10 15 _ rfl (by simp)
   refine wpOp_step rfl fun K hK => ?_
   go_simp
   exact hK _ _ ⟨act_eq (by (first | rfl | exact congrArg (Value.int .u64) h11 | (rw [← h11]; rfl) | (simp [h11]))),hM⟩
  ·cases ho9
   have r7 := hD.od hd9 2 7 _ rfl (by simp)
   have r16 := hD.od hd9 11 16 _ rfl (by simp)
   refine wpOp_step rfl fun K hK => ?_
   go_simp
   exact hK _ _ ⟨act_eq (by (first | rfl | exact congrArg (Value.int .u64) h12 | (rw [← h12]; rfl) | (simp [h12]))),hM⟩
  ·cases ho9
   have r17 := hD.od hd9 12 17 _ rfl (by simp)
   refine wpOp_step rfl fun K hK => ?_
   go_simp
   exact hK _ _ ⟨rfl,hM⟩
 ·intro l9 W9 hl9 hM
  have hS := hM
  clear hM
  simp only [Puts.lay,List.setIfInBounds_toArray,List.set_cons_zero,List.set_cons_succ]
  obtain ⟨⟨ya,yb,-⟩,-⟩ := hS.cells
  go_wp2
  go_ret
  exact ⟨rfl,hS.fr⟩
theorem xNaN_is (E F k pk I v : Nat) (HI : Tel 33 #[.agg #[.int .i64 E,.int .i64 F],.bool false] (.int .u64 (I : Int))) (hk : (F : Int) - 1 = (k : Int)) (hk2 : k ≤ 51) (h6 : IntKind.u64.wrap ((2 : Int) ^ k) = (pk : Int)) (h7 : IntKind.u64.wrap ((I : Int) + (pk : Int)) = (v : Int)) (w : World)  :
  Calls Tryz.prog 27 #[.agg #[.int .i64 E,.int .i64 F]] w fun e w' => e = .returned (.int .u64 (v : Int)) ∧ Below w.heap.size w w' := by
 go_enter Tryz.func27,Tryz.ntmps27
 go_wp2_with fail
 refine wp_region_any (by kernel_rfl) ?_
 refine wpAny_det [some (3,.agg #[.int .i64 E,.int .i64 F]),some (4,.int .u64 (I : Int)),some (5,.pointer (some ⟨w.heap.size,1,none⟩)),some (6,.int .i64 F),some (7,.int .i64 k),some (8,.int .u64 k),some (9,.int .u64 pk),some (10,.int .u64 v),some (2,.int .u64 v)]
  (fun _ W9 => Fs w W9 [⟨w.heap.size,#[.int .i64 E,.int .i64 F],23⟩]) _ _ rfl (by kernel_rfl) rfl rfl ?_ ?_ (Fs.one w _ _).drew
 ·intro l9 t9 W9 i9 hD hi9 hl9 hM
  obtain ⟨o9,ho9,hd9⟩ := (mem_ready.1 hi9).2
  have hin9 : i9 < 9 := by
   by_cases h : i9 < 9
   ·exact h
   ·rw [Array.getElem?_eq_none (by rw [hD.len]; simp; omega)] at hl9; cases hl9
  have hcase : i9 = 0 ∨ i9 = 1 ∨ i9 = 2 ∨ i9 = 3 ∨ i9 = 4 ∨ i9 = 5 ∨ i9 = 6 ∨ i9 = 7 ∨ i9 = 8 := by omega
  clear hin9
  rcases hcase with rfl | rfl | rfl | rfl | rfl | rfl | rfl | rfl | rfl
  ·cases ho9
   have r1 := hD.old 1 _ rfl rfl
   have hM0 := hM
   have Q_ := hM0.cellAt (b := w.heap.size) (cs := #[.int .i64 E,.int .i64 F]) (t := 23) (by simp)
   have c9_0 := Q_ 0 _ rfl
   have c9_1 := Q_ 1 _ rfl
   clear Q_
   clear hM0
   refine wpOp_step rfl fun K hK => ?_
   go_simp
   exact hK _ _ ⟨rfl,hM⟩
  ·cases ho9
   have r3 := hD.od hd9 0 3 _ rfl (by simp)
   refine wpOp_step rfl fun K hK => ?_
   go_simp
   go_wp2_with fail
   refine (HI _).mono ?_
   rintro en w9 ⟨rfl,hb9⟩
   exact hK _ _ ⟨rfl,hM.kept hb9⟩
  ·cases ho9
   have r1 := hD.old 1 _ rfl rfl
   refine wpOp_step rfl fun K hK => ?_
   go_simp
   exact hK _ _ ⟨rfl,hM⟩
  ·cases ho9
   have r5 := hD.od hd9 2 5 _ rfl (by simp)
   have hM0 := hM
   have c9_0 := hM0.cellAt (b := w.heap.size) (cs := #[.int .i64 E,.int .i64 F]) (t := 23) (by simp) 1 _ rfl
   clear hM0
   refine wpOp_step rfl fun K hK => ?_
   go_simp
   exact hK _ _ ⟨rfl,hM⟩
  ·cases ho9
   have r6 := hD.od hd9 3 6 _ rfl (by simp)
   refine wpOp_step rfl fun K hK => ?_
   go_simp
   exact hK _ _ ⟨act_eq (by (show Value.int _ _ = Value.int _ _; congr 1; (first | rfl | omega | (rw [IntKind.wrap_i64]; omega) | (rw [IntKind.wrap_u64]; omega)))),hM⟩
  ·cases ho9
   have r7 := hD.od hd9 4 7 _ rfl (by simp)
   refine wpOp_step rfl fun K hK => ?_
   go_simp
   exact hK _ _ ⟨act_eq (by (show Value.int _ _ = Value.int _ _; congr 1; (first | rfl | omega | (rw [IntKind.wrap_i64]; omega) | (rw [IntKind.wrap_u64]; omega)))),hM⟩
  ·cases ho9
   have r8 := hD.od hd9 5 8 _ rfl (by simp)
   refine wpOp_step rfl fun K hK => ?_
   go_simp
   exact hK _ _ ⟨act_eq (by (first | rfl | exact congrArg (Value.int .u64) h6 | (rw [← h6]; rfl) | (simp [h6]))),hM⟩
  ·cases ho9
   have r4 := hD.od hd9 1 4 _ rfl (by simp)
   have r9 := hD.od hd9 6 9 _ rfl (by simp)
   refine wpOp_step rfl fun K hK => ?_
   go_simp
   exact hK _ _ ⟨act_eq (by (first | rfl | exact congrArg (Value.int .u64) h7 | (rw [← h7]; rfl) | (simp [h7]))),hM⟩
  ·cases ho9
   have r10 := hD.od hd9 7 10 _ rfl (by simp)
   refine wpOp_step rfl fun K hK => ?_
   go_simp
   exact hK _ _ ⟨rfl,hM⟩
 ·intro l9 W9 hl9 hM
  have hS := hM
  clear hM
  simp only [Puts.lay,List.setIfInBounds_toArray,List.set_cons_zero,List.set_cons_succ]
  obtain ⟨⟨ya,yb,-⟩,-⟩ := hS.cells
  go_wp2
  go_ret
  exact ⟨rfl,hS.fr⟩
def OpR (E F b : Int) (neg nan qu inf s : Bool) (m : Nat) (x : Int) : Prop := ∀ W : World,Calls Tryz.prog 25 #[.agg #[.int .i64 E,.int .i64 F],.int .u64 b] W fun e w' => (∃ A N C,e = .returned (.agg #[.bool neg,.bool nan,.bool qu,.bool inf,.bool s,.slice A N C,.int .i64 x]) ∧ Mine w' W.heap.size A N C m) ∧ Below W.heap.size W w'
theorem open_inf (E F b ex fr : Nat) (neg : Bool) (h0 : Fo E F) (HB : Hid (Bt E F b neg ex fr)) (hx : ex + 1 = 2 ^ E) (hfr : fr = 0) (w : World)  :
  Calls Tryz.prog 25 #[.agg #[.int .i64 E,.int .i64 F],.int .u64 b] w fun e w' => e = .returned (.agg #[.bool neg,.bool false,.bool false,.bool true,.bool false,.slice none 0 0,.int .i64 0]) ∧ Below w.heap.size w w' := by
 have hF1 := h0.f1
 have hF := h0.f52
 have hE2 := h0.e2
 have hE := h0.e11
 have hexl := (unhide HB).ex64 h0
 have hfrl := (unhide HB).fr64 h0
 have H0 := hide h0
 obtain ⟨tE,htE⟩ : ∃ t,t = 2 ^ E - 1 := ⟨_,rfl⟩
 have wE := top_wrap (t := tE) hE htE
 have hlt : ¬ (ex : Int) < (tE : Int) := by omega
 subst hfr
 clear hx
 clear h0 htE
 go_enter Tryz.func25,Tryz.ntmps25
 go_wp2_with fail
 refine (rFields_any E F b _ _ (E + F) neg (unhide H0) (unhide HB) rfl _).mono ?_
 rintro e w1 ⟨rfl,hb1⟩
 have hS := (Fs.two w _ _ _ _).kept hb1
 obtain ⟨⟨ya,yb,-⟩,⟨yc,yd,ye,yf,yg,yh,yi,-⟩,-⟩ := hS.cells
 have Q_ := hS.frozen (b := w.heap.size + 1) (cs := #[.bool false,.bool false,.bool false,.bool false,.bool false,.slice none 0 0,.int .i64 0]) (t := 49) (by simp)
 have fz0 := Q_ 0
 have fz1 := Q_ 1
 have fz2 := Q_ 2
 have fz3 := Q_ 3
 have fz4 := Q_ 4
 have fz5 := Q_ 5
 have fz6 := Q_ 6
 clear Q_
 go_wp2
 exact bodyPost_ret (v := .agg #[.bool neg,.bool false,.bool false,.bool true,.bool false,.slice none 0 0,.int .i64 0]) (by simp [results,Tryz.results25,go_sem,yc,yd,ye,yf,yg,yh,yi]) rfl ⟨rfl,(((((((hS.fr.setCell (by simp <;> omega) _).setCell (by simp <;> omega) _).setCell (by simp <;> omega) _).setCell (by simp <;> omega) _).setCell (by simp <;> omega) _).setCell (by simp <;> omega) _).setCell (by simp <;> omega) _)⟩
theorem open_quiet (E F b ex fr : Nat) (neg : Bool) (h0 : Fo E F) (HB : Hid (Bt E F b neg ex fr)) (hx : ex + 1 = 2 ^ E) (hfr : 0 < fr) (hq : fr / 2 ^ (F - 1) = 1) (w : World)  :
  Calls Tryz.prog 25 #[.agg #[.int .i64 E,.int .i64 F],.int .u64 b] w fun e w' => e = .returned (.agg #[.bool neg,.bool true,.bool true,.bool false,.bool false,.slice none 0 0,.int .i64 0]) ∧ Below w.heap.size w w' := by
 have hF1 := h0.f1
 have hF := h0.f52
 have hE2 := h0.e2
 have hE := h0.e11
 have hexl := (unhide HB).ex64 h0
 have hfrl := (unhide HB).fr64 h0
 have H0 := hide h0
 obtain ⟨tE,htE⟩ : ∃ t,t = 2 ^ E - 1 := ⟨_,rfl⟩
 have wE := top_wrap (t := tE) hE htE
 have hlt : ¬ (ex : Int) < (tE : Int) := by omega
 have hfr0 : ((fr : Int) == 0) = false := by simp; omega
 obtain ⟨k,hk⟩ : ∃ k,F = k + 1 := ⟨F - 1,by omega⟩
 have hqi : (fr : Int) / 2 ^ k = 1 := by rw [hk,Nat.add_sub_cancel] at hq; rw [show ((2 : Int) ^ k) = ((2 ^ k : Nat) : Int) from by simp]; omega
 have hki : (F : Int) - 1 = (k : Int) := by omega
 have hk5 : k ≤ 51 := by omega
 clear hx hfr hq hk
 clear h0 htE
 go_enter Tryz.func25,Tryz.ntmps25
 go_wp2_with fail
 refine (rFields_any E F b _ _ (E + F) neg (unhide H0) (unhide HB) rfl _).mono ?_
 rintro e w1 ⟨rfl,hb1⟩
 have hS := (Fs.two w _ _ _ _).kept hb1
 obtain ⟨⟨ya,yb,-⟩,⟨yc,yd,ye,yf,yg,yh,yi,-⟩,-⟩ := hS.cells
 have Q_ := hS.frozen (b := w.heap.size + 1) (cs := #[.bool false,.bool false,.bool false,.bool false,.bool false,.slice none 0 0,.int .i64 0]) (t := 49) (by simp)
 have fz0 := Q_ 0
 have fz1 := Q_ 1
 have fz2 := Q_ 2
 have fz3 := Q_ 3
 have fz4 := Q_ 4
 have fz5 := Q_ 5
 have fz6 := Q_ 6
 clear Q_
 go_wp2
 exact bodyPost_ret (v := .agg #[.bool neg,.bool true,.bool true,.bool false,.bool false,.slice none 0 0,.int .i64 0]) (by simp [results,Tryz.results25,go_sem,yc,yd,ye,yf,yg,yh,yi]) rfl ⟨rfl,(((((((hS.fr.setCell (by simp <;> omega) _).setCell (by simp <;> omega) _).setCell (by simp <;> omega) _).setCell (by simp <;> omega) _).setCell (by simp <;> omega) _).setCell (by simp <;> omega) _).setCell (by simp <;> omega) _)⟩
theorem open_loud (E F b ex fr : Nat) (neg : Bool) (h0 : Fo E F) (HB : Hid (Bt E F b neg ex fr)) (hx : ex + 1 = 2 ^ E) (hfr : 0 < fr) (hq : fr / 2 ^ (F - 1) = 0) (w : World)  :
  Calls Tryz.prog 25 #[.agg #[.int .i64 E,.int .i64 F],.int .u64 b] w fun e w' => e = .returned (.agg #[.bool neg,.bool true,.bool false,.bool false,.bool false,.slice none 0 0,.int .i64 0]) ∧ Below w.heap.size w w' := by
 have hF1 := h0.f1
 have hF := h0.f52
 have hE2 := h0.e2
 have hE := h0.e11
 have hexl := (unhide HB).ex64 h0
 have hfrl := (unhide HB).fr64 h0
 have H0 := hide h0
 obtain ⟨tE,htE⟩ : ∃ t,t = 2 ^ E - 1 := ⟨_,rfl⟩
 have wE := top_wrap (t := tE) hE htE
 have hlt : ¬ (ex : Int) < (tE : Int) := by omega
 have hfr0 : ((fr : Int) == 0) = false := by simp; omega
 obtain ⟨k,hk⟩ : ∃ k,F = k + 1 := ⟨F - 1,by omega⟩
 have hqi : (fr : Int) / 2 ^ k = 0 := by rw [hk,Nat.add_sub_cancel] at hq; rw [show ((2 : Int) ^ k) = ((2 ^ k : Nat) : Int) from by simp]; omega
 have hki : (F : Int) - 1 = (k : Int) := by omega
 have hk5 : k ≤ 51 := by omega
 clear hx hfr hq hk
 clear h0 htE
 go_enter Tryz.func25,Tryz.ntmps25
 go_wp2_with fail
 refine (rFields_any E F b _ _ (E + F) neg (unhide H0) (unhide HB) rfl _).mono ?_
 rintro e w1 ⟨rfl,hb1⟩
 have hS := (Fs.two w _ _ _ _).kept hb1
 obtain ⟨⟨ya,yb,-⟩,⟨yc,yd,ye,yf,yg,yh,yi,-⟩,-⟩ := hS.cells
 have Q_ := hS.frozen (b := w.heap.size + 1) (cs := #[.bool false,.bool false,.bool false,.bool false,.bool false,.slice none 0 0,.int .i64 0]) (t := 49) (by simp)
 have fz0 := Q_ 0
 have fz1 := Q_ 1
 have fz2 := Q_ 2
 have fz3 := Q_ 3
 have fz4 := Q_ 4
 have fz5 := Q_ 5
 have fz6 := Q_ 6
 clear Q_
 go_wp2
 exact bodyPost_ret (v := .agg #[.bool neg,.bool true,.bool false,.bool false,.bool false,.slice none 0 0,.int .i64 0]) (by simp [results,Tryz.results25,go_sem,yc,yd,ye,yf,yg,yh,yi]) rfl ⟨rfl,(((((((hS.fr.setCell (by simp <;> omega) _).setCell (by simp <;> omega) _).setCell (by simp <;> omega) _).setCell (by simp <;> omega) _).setCell (by simp <;> omega) _).setCell (by simp <;> omega) _).setCell (by simp <;> omega) _)⟩
theorem open_fin (E F b ex fr : Nat) (neg : Bool) (h0 : Fo E F) (HB : Hid (Bt E F b neg ex fr)) (hx : ex + 1 < 2 ^ E) (s : Bool) (m : Nat) (x : Int) (HV : Hid (∀ w : World,Calls Tryz.prog 54 #[.agg #[.int .i64 E,.int .i64 F],.int .u64 b] w fun e w' => (∃ A N C,e = .returned (.tuple #[.agg #[.bool s,.slice A N C,.int .i64 x],.int .i64 0]) ∧ Mine w' w.heap.size A N C m) ∧ Below w.heap.size w w')) (w : World)  :
  Calls Tryz.prog 25 #[.agg #[.int .i64 E,.int .i64 F],.int .u64 b] w fun e w' => (∃ A N C,e = .returned (.agg #[.bool neg,.bool false,.bool false,.bool false,.bool s,.slice A N C,.int .i64 x]) ∧ Mine w' w.heap.size A N C m) ∧ Below w.heap.size w w' := by
 have hF1 := h0.f1
 have hF := h0.f52
 have hE2 := h0.e2
 have hE := h0.e11
 have hexl := (unhide HB).ex64 h0
 have hfrl := (unhide HB).fr64 h0
 have H0 := hide h0
 obtain ⟨tE,htE⟩ : ∃ t,t = 2 ^ E - 1 := ⟨_,rfl⟩
 have wE := top_wrap (t := tE) hE htE
 have hlt : (ex : Int) < (tE : Int) := by omega
 clear hx
 clear h0 htE
 go_enter Tryz.func25,Tryz.ntmps25
 go_wp2_with fail
 refine (rFields_any E F b _ _ (E + F) neg (unhide H0) (unhide HB) rfl _).mono ?_
 rintro e w1 ⟨rfl,hb1⟩
 have hS := (Fs.two w _ _ _ _).kept hb1
 obtain ⟨⟨ya,yb,-⟩,⟨yc,yd,ye,yf,yg,yh,yi,-⟩,-⟩ := hS.cells
 have hsz := hS.size
 have hlz : w.heap.size + 1 < w1.heap.size := block_lt (hS.bx ⟨w.heap.size + 1,#[.bool false,.bool false,.bool false,.bool false,.bool false,.slice none 0 0,.int .i64 0],49⟩ (by simp))
 go_wp2_with fail
 refine (unhide HV _).mono ?_
 rintro e w2 ⟨⟨A1,N1,C1,rfl,f1⟩,hb2⟩
 replace hS := hS.kept hb2
 clear ya yb yc yd ye yf yg yh yi
 obtain ⟨⟨yj,yk,-⟩,⟨yl,ym,yn,yo,yp,yq,yr,-⟩,-⟩ := hS.cells
 have G1 := hide (f1.mono (base' := w.heap.size + 2) hlz)
 clear f1
 have hltw2_0 : w.heap.size < w2.heap.size := hS.lt 0 rfl
 have hltw2_1 : w.heap.size + 1 < w2.heap.size := hS.lt 1 rfl
 obtain ⟨WU,hWU⟩ : ∃ WU,w2.alloc (.cells #[.bool s,.slice A1 N1 C1,.int .i64 x] 47) = WU := ⟨_,rfl⟩
 replace hS := hS.alloc #[.bool s,.slice A1 N1 C1,.int .i64 x] 47
 rw [hWU] at hS
 replace G1 := hide (hWU ▸ (unhide G1).alloc (.cells #[.bool s,.slice A1 N1 C1,.int .i64 x] 47))
 clear yj yk yl ym yn yo yp yq yr
 obtain ⟨⟨ys,yt,yu,-⟩,⟨yv,yw,-⟩,⟨yx,yy,yz,y0,y1,y2,y3,-⟩,-⟩ := hS.cells
 have Q_ := hS.frozen (b := w.heap.size + 1) (cs := #[.bool false,.bool false,.bool false,.bool false,.bool false,.slice none 0 0,.int .i64 0]) (t := 49) (by simp)
 have fz0 := Q_ 0
 have fz1 := Q_ 1
 have fz2 := Q_ 2
 have fz3 := Q_ 3
 have fz4 := Q_ 4
 have fz5 := Q_ 5
 have fz6 := Q_ 6
 clear Q_
 go_wp2
 exact bodyPost_ret (v := .agg #[.bool neg,.bool false,.bool false,.bool false,.bool s,.slice A1 N1 C1,.int .i64 x]) (by simp [results,Tryz.results25,go_sem,yx,yy,yz,y0,y1,y2,y3]) rfl ⟨⟨_,_,_,rfl,((((((((unhide G1).set (p := ⟨w.heap.size + 1,0,none⟩) (by show w.heap.size + 1 < w.heap.size + 2; omega) (.bool neg)).set (p := ⟨w.heap.size + 1,1,none⟩) (by show w.heap.size + 1 < w.heap.size + 2; omega) (.bool false)).set (p := ⟨w.heap.size + 1,2,none⟩) (by show w.heap.size + 1 < w.heap.size + 2; omega) (.bool false)).set (p := ⟨w.heap.size + 1,3,none⟩) (by show w.heap.size + 1 < w.heap.size + 2; omega) (.bool false)).set (p := ⟨w.heap.size + 1,4,none⟩) (by show w.heap.size + 1 < w.heap.size + 2; omega) (.bool s)).set (p := ⟨w.heap.size + 1,5,none⟩) (by show w.heap.size + 1 < w.heap.size + 2; omega) (.slice A1 N1 C1)).set (p := ⟨w.heap.size + 1,6,none⟩) (by show w.heap.size + 1 < w.heap.size + 2; omega) (.int .i64 x)).mono (by omega)⟩,(((((((hS.fr.setCell (by simp <;> omega) _).setCell (by simp <;> omega) _).setCell (by simp <;> omega) _).setCell (by simp <;> omega) _).setCell (by simp <;> omega) _).setCell (by simp <;> omega) _).setCell (by simp <;> omega) _)⟩
def fl16 (b : Bool) : Int := if b then 16 else 0
theorem nans2_c (b : Nat) (n0 q0 n1 q1 : Bool) (w : World) (c0 : w.cell? ⟨b,1,none⟩ = some (.bool n0)) (d0 : w.cell? ⟨b,2,none⟩ = some (.bool q0)) (c1 : w.cell? ⟨b,8,none⟩ = some (.bool n1)) (d1 : w.cell? ⟨b,9,none⟩ = some (.bool q1)) :
  Calls Tryz.prog 26 #[.slice (some ⟨b,0,none⟩) 2 2] w fun e w' => e = .returned (.tuple #[.bool (n0 || n1),.int .u8 (fl16 ((n0 && !q0) || (n1 && !q1)))]) ∧ Below w.heap.size w w' := by
 cases n0 <;> cases q0 <;> cases n1 <;> cases q1 <;> (
  go_enter Tryz.func26,Tryz.ntmps26
  go_wp2
  refine wp_loop_rounds 3 ?_
  rw [rounds_succ]
  go_wp2
  rw [rounds_succ]
  go_wp2
  rw [rounds_succ]
  go_wp2
  go_ret2
  exact ⟨rfl,Below.refl _ _⟩)
def Nl2 (base b : Nat) (n0 q0 n1 q1 : Bool) (W : World) : Prop := base ≤ b ∧ ∃ (cs : Array Value) (t : TypeId),W.heap[b]? = some (.cells cs t (0,0)) ∧ cs[1]? = some (.bool n0) ∧ cs[2]? = some (.bool q0) ∧ cs[8]? = some (.bool n1) ∧ cs[9]? = some (.bool q1)
theorem Nl2.made {W : World} {base : Nat} {n0 q0 n1 q1 : Bool} {cs : Array Value} {t : TypeId} (hb : base ≤ W.heap.size) (h1 : cs[1]? = some (.bool n0)) (h2 : cs[2]? = some (.bool q0)) (h3 : cs[8]? = some (.bool n1)) (h4 : cs[9]? = some (.bool q1)) : Nl2 base W.heap.size n0 q0 n1 q1 (W.alloc (.cells cs t)) := ⟨hb,cs,t,heap_alloc_new W _,h1,h2,h3,h4⟩
theorem nans2_of (W : World) (base b : Nat) (n0 q0 n1 q1 : Bool) (h : Nl2 base b n0 q0 n1 q1 W) :
  Calls Tryz.prog 26 #[.slice (some ⟨b,0,none⟩) 2 2] W fun e w' => e = .returned (.tuple #[.bool (n0 || n1),.int .u8 (fl16 ((n0 && !q0) || (n1 && !q1)))]) ∧ Below W.heap.size W w' := by
 obtain ⟨-,cs,t,h0,h1,h2,h3,h4⟩ := h
 exact nans2_c b n0 q0 n1 q1 W ((cell_of_row W b 1 _ _ _ h0).trans h1) ((cell_of_row W b 2 _ _ _ h0).trans h2) ((cell_of_row W b 8 _ _ _ h0).trans h3) ((cell_of_row W b 9 _ _ _ h0).trans h4)
theorem asked2_ok (E F md : Int) (p : Nat) (b0 b1 : Int) (H0 : Tel 52 #[.agg #[.int .i64 E,.int .i64 F],.int .u64 b0] (.int .i64 0)) (H1 : Tel 52 #[.agg #[.int .i64 E,.int .i64 F],.int .u64 b1] (.int .i64 0)) (hm : ¬ (4 : Int) < md) (w : World) (hp : w.heap[p]? = some (.cells #[.int .u64 b0,.int .u64 b1] 24 (0,0))) :
  Calls Tryz.prog 24 #[.agg #[.int .i64 E,.int .i64 F],.int .u8 md,.slice (some ⟨p,0,none⟩) 2 2] w fun e w' => e = .returned (.int .i64 0) ∧ Below w.heap.size w w' := by
 go_enter Tryz.func24,Tryz.ntmps24
 have hS0 : Fs w w [⟨p,#[.int .u64 b0,.int .u64 b1],24⟩] := ⟨fun x hx => by rcases List.mem_cons.1 hx with rfl | hx; exact hp; exact absurd hx List.not_mem_nil,Below.refl _ _⟩
 have hS := hS0.alloc #[.int .i64 E,.int .i64 F] 23
 clear hS0 hp
 obtain ⟨⟨ya,yb,-⟩,⟨yc,yd,-⟩,-⟩ := hS.cells
 go_wp2
 refine wp_loop_rounds 3 ?_
 rw [rounds_succ]
 go_wp2_with fail
 refine wp_region_any (by kernel_rfl) ?_
 refine wpAny_det [some (15,.agg #[.int .i64 E,.int .i64 F]),some (16,.slice (some ⟨p,0,none⟩) 2 2),some (17,.int .i64 0),some (18,.pointer (some ⟨p,0,none⟩)),some (19,.int .u64 b0),some (20,.int .i64 0),some (8,.int .i64 0)]
  (fun _ W9 => Fs w W9 [⟨w.heap.size,#[.int .i64 E,.int .i64 F],23⟩,⟨p,#[.int .u64 b0,.int .u64 b1],24⟩]) _ _ rfl (by kernel_rfl) rfl rfl ?_ ?_ (hS).drew
 ·intro l9 t9 W9 i9 hD hi9 hl9 hM
  obtain ⟨o9,ho9,hd9⟩ := (mem_ready.1 hi9).2
  have hin9 : i9 < 7 := by
   by_cases h : i9 < 7
   ·exact h
   ·rw [Array.getElem?_eq_none (by rw [hD.len]; simp; omega)] at hl9; cases hl9
  have hcase : i9 = 0 ∨ i9 = 1 ∨ i9 = 2 ∨ i9 = 3 ∨ i9 = 4 ∨ i9 = 5 ∨ i9 = 6 := by omega
  clear hin9
  rcases hcase with rfl | rfl | rfl | rfl | rfl | rfl | rfl
  ·cases ho9
   have r3 := hD.old 3 _ rfl rfl
   have hM0 := hM
   have Q_ := hM0.cellAt (b := w.heap.size) (cs := #[.int .i64 E,.int .i64 F]) (t := 23) (by simp)
   have c9_0 := Q_ 0 _ rfl
   have c9_1 := Q_ 1 _ rfl
   clear Q_
   clear hM0
   refine wpOp_step rfl fun K hK => ?_
   go_simp
   exact hK _ _ ⟨rfl,hM⟩
  ·cases ho9
   have r2 := hD.old 2 _ rfl rfl
   refine wpOp_step rfl fun K hK => ?_
   go_simp
   exact hK _ _ ⟨rfl,hM⟩
  ·cases ho9
   have r7 := hD.old 7 _ rfl rfl
   refine wpOp_step rfl fun K hK => ?_
   go_simp
   exact hK _ _ ⟨rfl,hM⟩
  ·cases ho9
   have r16 := hD.od hd9 1 16 _ rfl (by simp)
   have r17 := hD.od hd9 2 17 _ rfl (by simp)
   refine wpOp_step rfl fun K hK => ?_
   go_simp
   exact hK _ _ ⟨rfl,hM⟩
  ·cases ho9
   have r18 := hD.od hd9 3 18 _ rfl (by simp)
   have hM0 := hM
   have c9_0 := hM0.cellAt (b := p) (cs := #[.int .u64 b0,.int .u64 b1]) (t := 24) (by simp) 0 _ rfl
   clear hM0
   refine wpOp_step rfl fun K hK => ?_
   go_simp
   exact hK _ _ ⟨rfl,hM⟩
  ·cases ho9
   have r15 := hD.od hd9 0 15 _ rfl (by simp)
   have r19 := hD.od hd9 4 19 _ rfl (by simp)
   refine wpOp_step rfl fun K hK => ?_
   go_simp
   go_wp2_with fail
   refine (H0 _).mono ?_
   rintro en w9 ⟨rfl,hb9⟩
   exact hK _ _ ⟨rfl,hM.kept hb9⟩
  ·cases ho9
   have r20 := hD.od hd9 5 20 _ rfl (by simp)
   refine wpOp_step rfl fun K hK => ?_
   go_simp
   exact hK _ _ ⟨rfl,hM⟩
 ·intro l9 W9 hl9 hM
  clear hS ya yb yc yd
  have hS := hM
  clear hM
  simp only [Puts.lay,List.setIfInBounds_toArray,List.set_cons_zero,List.set_cons_succ]
  obtain ⟨⟨ye,yf,-⟩,⟨yg,yh,-⟩,-⟩ := hS.cells
  go_wp2
  rw [rounds_succ]
  go_wp2_with fail
  refine wp_region_any (by kernel_rfl) ?_
  refine wpAny_det [some (15,.agg #[.int .i64 E,.int .i64 F]),some (16,.slice (some ⟨p,0,none⟩) 2 2),some (17,.int .i64 1),some (18,.pointer (some ⟨p,1,none⟩)),some (19,.int .u64 b1),some (20,.int .i64 0),some (8,.int .i64 0)]
   (fun _ W9 => Fs w W9 [⟨w.heap.size,#[.int .i64 E,.int .i64 F],23⟩,⟨p,#[.int .u64 b0,.int .u64 b1],24⟩]) _ _ rfl (by kernel_rfl) rfl rfl ?_ ?_ (hS).drew
  ·intro l9 t9 W9 i9 hD hi9 hl9 hM
   obtain ⟨o9,ho9,hd9⟩ := (mem_ready.1 hi9).2
   have hin9 : i9 < 7 := by
    by_cases h : i9 < 7
    ·exact h
    ·rw [Array.getElem?_eq_none (by rw [hD.len]; simp; omega)] at hl9; cases hl9
   have hcase : i9 = 0 ∨ i9 = 1 ∨ i9 = 2 ∨ i9 = 3 ∨ i9 = 4 ∨ i9 = 5 ∨ i9 = 6 := by omega
   clear hin9
   rcases hcase with rfl | rfl | rfl | rfl | rfl | rfl | rfl
   ·cases ho9
    have r3 := hD.old 3 _ rfl rfl
    have hM0 := hM
    have Q_ := hM0.cellAt (b := w.heap.size) (cs := #[.int .i64 E,.int .i64 F]) (t := 23) (by simp)
    have c9_0 := Q_ 0 _ rfl
    have c9_1 := Q_ 1 _ rfl
    clear Q_
    clear hM0
    refine wpOp_step rfl fun K hK => ?_
    go_simp
    exact hK _ _ ⟨rfl,hM⟩
   ·cases ho9
    have r2 := hD.old 2 _ rfl rfl
    refine wpOp_step rfl fun K hK => ?_
    go_simp
    exact hK _ _ ⟨rfl,hM⟩
   ·cases ho9
    have r7 := hD.old 7 _ rfl rfl
    refine wpOp_step rfl fun K hK => ?_
    go_simp
    exact hK _ _ ⟨rfl,hM⟩
   ·cases ho9
    have r16 := hD.od hd9 1 16 _ rfl (by simp)
    have r17 := hD.od hd9 2 17 _ rfl (by simp)
    refine wpOp_step rfl fun K hK => ?_
    go_simp
    exact hK _ _ ⟨rfl,hM⟩
   ·cases ho9
    have r18 := hD.od hd9 3 18 _ rfl (by simp)
    have hM0 := hM
    have c9_0 := hM0.cellAt (b := p) (cs := #[.int .u64 b0,.int .u64 b1]) (t := 24) (by simp) 1 _ rfl
    clear hM0
    refine wpOp_step rfl fun K hK => ?_
    go_simp
    exact hK _ _ ⟨rfl,hM⟩
   ·cases ho9
    have r15 := hD.od hd9 0 15 _ rfl (by simp)
    have r19 := hD.od hd9 4 19 _ rfl (by simp)
    refine wpOp_step rfl fun K hK => ?_
    go_simp
    go_wp2_with fail
    refine (H1 _).mono ?_
    rintro en w9 ⟨rfl,hb9⟩
    exact hK _ _ ⟨rfl,hM.kept hb9⟩
   ·cases ho9
    have r20 := hD.od hd9 5 20 _ rfl (by simp)
    refine wpOp_step rfl fun K hK => ?_
    go_simp
    exact hK _ _ ⟨rfl,hM⟩
  ·intro l9 W9 hl9 hM
   clear hS ye yf yg yh
   have hS := hM
   clear hM
   simp only [Puts.lay,List.setIfInBounds_toArray,List.set_cons_zero,List.set_cons_succ]
   obtain ⟨⟨yi,yj,-⟩,⟨yk,yl,-⟩,-⟩ := hS.cells
   go_wp2
   rw [rounds_succ]
   go_wp2
   go_ret
   exact ⟨rfl,hS.fr⟩
theorem asked2_mode (E F md : Int) (p : Nat) (b0 b1 : Int) (H0 : Tel 52 #[.agg #[.int .i64 E,.int .i64 F],.int .u64 b0] (.int .i64 0)) (H1 : Tel 52 #[.agg #[.int .i64 E,.int .i64 F],.int .u64 b1] (.int .i64 0)) (hm : (4 : Int) < md) (w : World) (hp : w.heap[p]? = some (.cells #[.int .u64 b0,.int .u64 b1] 24 (0,0))) :
  Calls Tryz.prog 24 #[.agg #[.int .i64 E,.int .i64 F],.int .u8 md,.slice (some ⟨p,0,none⟩) 2 2] w fun e w' => e = .returned (.int .i64 7) ∧ Below w.heap.size w w' := by
 go_enter Tryz.func24,Tryz.ntmps24
 have hS0 : Fs w w [⟨p,#[.int .u64 b0,.int .u64 b1],24⟩] := ⟨fun x hx => by rcases List.mem_cons.1 hx with rfl | hx; exact hp; exact absurd hx List.not_mem_nil,Below.refl _ _⟩
 have hS := hS0.alloc #[.int .i64 E,.int .i64 F] 23
 clear hS0 hp
 obtain ⟨⟨ya,yb,-⟩,⟨yc,yd,-⟩,-⟩ := hS.cells
 go_wp2
 refine wp_loop_rounds 3 ?_
 rw [rounds_succ]
 go_wp2_with fail
 refine wp_region_any (by kernel_rfl) ?_
 refine wpAny_det [some (15,.agg #[.int .i64 E,.int .i64 F]),some (16,.slice (some ⟨p,0,none⟩) 2 2),some (17,.int .i64 0),some (18,.pointer (some ⟨p,0,none⟩)),some (19,.int .u64 b0),some (20,.int .i64 0),some (8,.int .i64 0)]
  (fun _ W9 => Fs w W9 [⟨w.heap.size,#[.int .i64 E,.int .i64 F],23⟩,⟨p,#[.int .u64 b0,.int .u64 b1],24⟩]) _ _ rfl (by kernel_rfl) rfl rfl ?_ ?_ (hS).drew
 ·intro l9 t9 W9 i9 hD hi9 hl9 hM
  obtain ⟨o9,ho9,hd9⟩ := (mem_ready.1 hi9).2
  have hin9 : i9 < 7 := by
   by_cases h : i9 < 7
   ·exact h
   ·rw [Array.getElem?_eq_none (by rw [hD.len]; simp; omega)] at hl9; cases hl9
  have hcase : i9 = 0 ∨ i9 = 1 ∨ i9 = 2 ∨ i9 = 3 ∨ i9 = 4 ∨ i9 = 5 ∨ i9 = 6 := by omega
  clear hin9
  rcases hcase with rfl | rfl | rfl | rfl | rfl | rfl | rfl
  ·cases ho9
   have r3 := hD.old 3 _ rfl rfl
   have hM0 := hM
   have Q_ := hM0.cellAt (b := w.heap.size) (cs := #[.int .i64 E,.int .i64 F]) (t := 23) (by simp)
   have c9_0 := Q_ 0 _ rfl
   have c9_1 := Q_ 1 _ rfl
   clear Q_
   clear hM0
   refine wpOp_step rfl fun K hK => ?_
   go_simp
   exact hK _ _ ⟨rfl,hM⟩
  ·cases ho9
   have r2 := hD.old 2 _ rfl rfl
   refine wpOp_step rfl fun K hK => ?_
   go_simp
   exact hK _ _ ⟨rfl,hM⟩
  ·cases ho9
   have r7 := hD.old 7 _ rfl rfl
   refine wpOp_step rfl fun K hK => ?_
   go_simp
   exact hK _ _ ⟨rfl,hM⟩
  ·cases ho9
   have r16 := hD.od hd9 1 16 _ rfl (by simp)
   have r17 := hD.od hd9 2 17 _ rfl (by simp)
   refine wpOp_step rfl fun K hK => ?_
   go_simp
   exact hK _ _ ⟨rfl,hM⟩
  ·cases ho9
   have r18 := hD.od hd9 3 18 _ rfl (by simp)
   have hM0 := hM
   have c9_0 := hM0.cellAt (b := p) (cs := #[.int .u64 b0,.int .u64 b1]) (t := 24) (by simp) 0 _ rfl
   clear hM0
   refine wpOp_step rfl fun K hK => ?_
   go_simp
   exact hK _ _ ⟨rfl,hM⟩
  ·cases ho9
   have r15 := hD.od hd9 0 15 _ rfl (by simp)
   have r19 := hD.od hd9 4 19 _ rfl (by simp)
   refine wpOp_step rfl fun K hK => ?_
   go_simp
   go_wp2_with fail
   refine (H0 _).mono ?_
   rintro en w9 ⟨rfl,hb9⟩
   exact hK _ _ ⟨rfl,hM.kept hb9⟩
  ·cases ho9
   have r20 := hD.od hd9 5 20 _ rfl (by simp)
   refine wpOp_step rfl fun K hK => ?_
   go_simp
   exact hK _ _ ⟨rfl,hM⟩
 ·intro l9 W9 hl9 hM
  clear hS ya yb yc yd
  have hS := hM
  clear hM
  simp only [Puts.lay,List.setIfInBounds_toArray,List.set_cons_zero,List.set_cons_succ]
  obtain ⟨⟨ye,yf,-⟩,⟨yg,yh,-⟩,-⟩ := hS.cells
  go_wp2
  rw [rounds_succ]
  go_wp2_with fail
  refine wp_region_any (by kernel_rfl) ?_
  refine wpAny_det [some (15,.agg #[.int .i64 E,.int .i64 F]),some (16,.slice (some ⟨p,0,none⟩) 2 2),some (17,.int .i64 1),some (18,.pointer (some ⟨p,1,none⟩)),some (19,.int .u64 b1),some (20,.int .i64 0),some (8,.int .i64 0)]
   (fun _ W9 => Fs w W9 [⟨w.heap.size,#[.int .i64 E,.int .i64 F],23⟩,⟨p,#[.int .u64 b0,.int .u64 b1],24⟩]) _ _ rfl (by kernel_rfl) rfl rfl ?_ ?_ (hS).drew
  ·intro l9 t9 W9 i9 hD hi9 hl9 hM
   obtain ⟨o9,ho9,hd9⟩ := (mem_ready.1 hi9).2
   have hin9 : i9 < 7 := by
    by_cases h : i9 < 7
    ·exact h
    ·rw [Array.getElem?_eq_none (by rw [hD.len]; simp; omega)] at hl9; cases hl9
   have hcase : i9 = 0 ∨ i9 = 1 ∨ i9 = 2 ∨ i9 = 3 ∨ i9 = 4 ∨ i9 = 5 ∨ i9 = 6 := by omega
   clear hin9
   rcases hcase with rfl | rfl | rfl | rfl | rfl | rfl | rfl
   ·cases ho9
    have r3 := hD.old 3 _ rfl rfl
    have hM0 := hM
    have Q_ := hM0.cellAt (b := w.heap.size) (cs := #[.int .i64 E,.int .i64 F]) (t := 23) (by simp)
    have c9_0 := Q_ 0 _ rfl
    have c9_1 := Q_ 1 _ rfl
    clear Q_
    clear hM0
    refine wpOp_step rfl fun K hK => ?_
    go_simp
    exact hK _ _ ⟨rfl,hM⟩
   ·cases ho9
    have r2 := hD.old 2 _ rfl rfl
    refine wpOp_step rfl fun K hK => ?_
    go_simp
    exact hK _ _ ⟨rfl,hM⟩
   ·cases ho9
    have r7 := hD.old 7 _ rfl rfl
    refine wpOp_step rfl fun K hK => ?_
    go_simp
    exact hK _ _ ⟨rfl,hM⟩
   ·cases ho9
    have r16 := hD.od hd9 1 16 _ rfl (by simp)
    have r17 := hD.od hd9 2 17 _ rfl (by simp)
    refine wpOp_step rfl fun K hK => ?_
    go_simp
    exact hK _ _ ⟨rfl,hM⟩
   ·cases ho9
    have r18 := hD.od hd9 3 18 _ rfl (by simp)
    have hM0 := hM
    have c9_0 := hM0.cellAt (b := p) (cs := #[.int .u64 b0,.int .u64 b1]) (t := 24) (by simp) 1 _ rfl
    clear hM0
    refine wpOp_step rfl fun K hK => ?_
    go_simp
    exact hK _ _ ⟨rfl,hM⟩
   ·cases ho9
    have r15 := hD.od hd9 0 15 _ rfl (by simp)
    have r19 := hD.od hd9 4 19 _ rfl (by simp)
    refine wpOp_step rfl fun K hK => ?_
    go_simp
    go_wp2_with fail
    refine (H1 _).mono ?_
    rintro en w9 ⟨rfl,hb9⟩
    exact hK _ _ ⟨rfl,hM.kept hb9⟩
   ·cases ho9
    have r20 := hD.od hd9 5 20 _ rfl (by simp)
    refine wpOp_step rfl fun K hK => ?_
    go_simp
    exact hK _ _ ⟨rfl,hM⟩
  ·intro l9 W9 hl9 hM
   clear hS ye yf yg yh
   have hS := hM
   clear hM
   simp only [Puts.lay,List.setIfInBounds_toArray,List.set_cons_zero,List.set_cons_succ]
   obtain ⟨⟨yi,yj,-⟩,⟨yk,yl,-⟩,-⟩ := hS.cells
   go_wp2
   rw [rounds_succ]
   go_wp2
   go_ret
   exact ⟨rfl,hS.fr⟩
theorem asked2_err1 (E F md c : Int) (p : Nat) (b0 b1 : Int) (H0 : Tel 52 #[.agg #[.int .i64 E,.int .i64 F],.int .u64 b0] (.int .i64 c)) (hc : (c == (0 : Int)) = false) (w : World) (hp : w.heap[p]? = some (.cells #[.int .u64 b0,.int .u64 b1] 24 (0,0))) :
  Calls Tryz.prog 24 #[.agg #[.int .i64 E,.int .i64 F],.int .u8 md,.slice (some ⟨p,0,none⟩) 2 2] w fun e w' => e = .returned (.int .i64 c) ∧ Below w.heap.size w w' := by
 go_enter Tryz.func24,Tryz.ntmps24
 have hS0 : Fs w w [⟨p,#[.int .u64 b0,.int .u64 b1],24⟩] := ⟨fun x hx => by rcases List.mem_cons.1 hx with rfl | hx; exact hp; exact absurd hx List.not_mem_nil,Below.refl _ _⟩
 have hS := hS0.alloc #[.int .i64 E,.int .i64 F] 23
 clear hS0 hp
 obtain ⟨⟨ya,yb,-⟩,⟨yc,yd,-⟩,-⟩ := hS.cells
 go_wp2
 refine wp_loop_rounds 3 ?_
 rw [rounds_succ]
 go_wp2_with fail
 refine wp_region_any (by kernel_rfl) ?_
 refine wpAny_det [some (15,.agg #[.int .i64 E,.int .i64 F]),some (16,.slice (some ⟨p,0,none⟩) 2 2),some (17,.int .i64 0),some (18,.pointer (some ⟨p,0,none⟩)),some (19,.int .u64 b0),some (20,.int .i64 c),some (8,.int .i64 c)]
  (fun _ W9 => Fs w W9 [⟨w.heap.size,#[.int .i64 E,.int .i64 F],23⟩,⟨p,#[.int .u64 b0,.int .u64 b1],24⟩]) _ _ rfl (by kernel_rfl) rfl rfl ?_ ?_ (hS).drew
 ·intro l9 t9 W9 i9 hD hi9 hl9 hM
  obtain ⟨o9,ho9,hd9⟩ := (mem_ready.1 hi9).2
  have hin9 : i9 < 7 := by
   by_cases h : i9 < 7
   ·exact h
   ·rw [Array.getElem?_eq_none (by rw [hD.len]; simp; omega)] at hl9; cases hl9
  have hcase : i9 = 0 ∨ i9 = 1 ∨ i9 = 2 ∨ i9 = 3 ∨ i9 = 4 ∨ i9 = 5 ∨ i9 = 6 := by omega
  clear hin9
  rcases hcase with rfl | rfl | rfl | rfl | rfl | rfl | rfl
  ·cases ho9
   have r3 := hD.old 3 _ rfl rfl
   have hM0 := hM
   have Q_ := hM0.cellAt (b := w.heap.size) (cs := #[.int .i64 E,.int .i64 F]) (t := 23) (by simp)
   have c9_0 := Q_ 0 _ rfl
   have c9_1 := Q_ 1 _ rfl
   clear Q_
   clear hM0
   refine wpOp_step rfl fun K hK => ?_
   go_simp
   exact hK _ _ ⟨rfl,hM⟩
  ·cases ho9
   have r2 := hD.old 2 _ rfl rfl
   refine wpOp_step rfl fun K hK => ?_
   go_simp
   exact hK _ _ ⟨rfl,hM⟩
  ·cases ho9
   have r7 := hD.old 7 _ rfl rfl
   refine wpOp_step rfl fun K hK => ?_
   go_simp
   exact hK _ _ ⟨rfl,hM⟩
  ·cases ho9
   have r16 := hD.od hd9 1 16 _ rfl (by simp)
   have r17 := hD.od hd9 2 17 _ rfl (by simp)
   refine wpOp_step rfl fun K hK => ?_
   go_simp
   exact hK _ _ ⟨rfl,hM⟩
  ·cases ho9
   have r18 := hD.od hd9 3 18 _ rfl (by simp)
   have hM0 := hM
   have c9_0 := hM0.cellAt (b := p) (cs := #[.int .u64 b0,.int .u64 b1]) (t := 24) (by simp) 0 _ rfl
   clear hM0
   refine wpOp_step rfl fun K hK => ?_
   go_simp
   exact hK _ _ ⟨rfl,hM⟩
  ·cases ho9
   have r15 := hD.od hd9 0 15 _ rfl (by simp)
   have r19 := hD.od hd9 4 19 _ rfl (by simp)
   refine wpOp_step rfl fun K hK => ?_
   go_simp
   go_wp2_with fail
   refine (H0 _).mono ?_
   rintro en w9 ⟨rfl,hb9⟩
   exact hK _ _ ⟨rfl,hM.kept hb9⟩
  ·cases ho9
   have r20 := hD.od hd9 5 20 _ rfl (by simp)
   refine wpOp_step rfl fun K hK => ?_
   go_simp
   exact hK _ _ ⟨rfl,hM⟩
 ·intro l9 W9 hl9 hM
  clear hS ya yb yc yd
  have hS := hM
  clear hM
  simp only [Puts.lay,List.setIfInBounds_toArray,List.set_cons_zero,List.set_cons_succ]
  obtain ⟨⟨ye,yf,-⟩,⟨yg,yh,-⟩,-⟩ := hS.cells
  go_wp2
  go_ret
  exact ⟨rfl,hS.fr⟩
theorem asked2_err2 (E F md c : Int) (p : Nat) (b0 b1 : Int) (H0 : Tel 52 #[.agg #[.int .i64 E,.int .i64 F],.int .u64 b0] (.int .i64 0)) (H1 : Tel 52 #[.agg #[.int .i64 E,.int .i64 F],.int .u64 b1] (.int .i64 c)) (hc : (c == (0 : Int)) = false) (w : World) (hp : w.heap[p]? = some (.cells #[.int .u64 b0,.int .u64 b1] 24 (0,0))) :
  Calls Tryz.prog 24 #[.agg #[.int .i64 E,.int .i64 F],.int .u8 md,.slice (some ⟨p,0,none⟩) 2 2] w fun e w' => e = .returned (.int .i64 c) ∧ Below w.heap.size w w' := by
 go_enter Tryz.func24,Tryz.ntmps24
 have hS0 : Fs w w [⟨p,#[.int .u64 b0,.int .u64 b1],24⟩] := ⟨fun x hx => by rcases List.mem_cons.1 hx with rfl | hx; exact hp; exact absurd hx List.not_mem_nil,Below.refl _ _⟩
 have hS := hS0.alloc #[.int .i64 E,.int .i64 F] 23
 clear hS0 hp
 obtain ⟨⟨ya,yb,-⟩,⟨yc,yd,-⟩,-⟩ := hS.cells
 go_wp2
 refine wp_loop_rounds 3 ?_
 rw [rounds_succ]
 go_wp2_with fail
 refine wp_region_any (by kernel_rfl) ?_
 refine wpAny_det [some (15,.agg #[.int .i64 E,.int .i64 F]),some (16,.slice (some ⟨p,0,none⟩) 2 2),some (17,.int .i64 0),some (18,.pointer (some ⟨p,0,none⟩)),some (19,.int .u64 b0),some (20,.int .i64 0),some (8,.int .i64 0)]
  (fun _ W9 => Fs w W9 [⟨w.heap.size,#[.int .i64 E,.int .i64 F],23⟩,⟨p,#[.int .u64 b0,.int .u64 b1],24⟩]) _ _ rfl (by kernel_rfl) rfl rfl ?_ ?_ (hS).drew
 ·intro l9 t9 W9 i9 hD hi9 hl9 hM
  obtain ⟨o9,ho9,hd9⟩ := (mem_ready.1 hi9).2
  have hin9 : i9 < 7 := by
   by_cases h : i9 < 7
   ·exact h
   ·rw [Array.getElem?_eq_none (by rw [hD.len]; simp; omega)] at hl9; cases hl9
  have hcase : i9 = 0 ∨ i9 = 1 ∨ i9 = 2 ∨ i9 = 3 ∨ i9 = 4 ∨ i9 = 5 ∨ i9 = 6 := by omega
  clear hin9
  rcases hcase with rfl | rfl | rfl | rfl | rfl | rfl | rfl
  ·cases ho9
   have r3 := hD.old 3 _ rfl rfl
   have hM0 := hM
   have Q_ := hM0.cellAt (b := w.heap.size) (cs := #[.int .i64 E,.int .i64 F]) (t := 23) (by simp)
   have c9_0 := Q_ 0 _ rfl
   have c9_1 := Q_ 1 _ rfl
   clear Q_
   clear hM0
   refine wpOp_step rfl fun K hK => ?_
   go_simp
   exact hK _ _ ⟨rfl,hM⟩
  ·cases ho9
   have r2 := hD.old 2 _ rfl rfl
   refine wpOp_step rfl fun K hK => ?_
   go_simp
   exact hK _ _ ⟨rfl,hM⟩
  ·cases ho9
   have r7 := hD.old 7 _ rfl rfl
   refine wpOp_step rfl fun K hK => ?_
   go_simp
   exact hK _ _ ⟨rfl,hM⟩
  ·cases ho9
   have r16 := hD.od hd9 1 16 _ rfl (by simp)
   have r17 := hD.od hd9 2 17 _ rfl (by simp)
   refine wpOp_step rfl fun K hK => ?_
   go_simp
   exact hK _ _ ⟨rfl,hM⟩
  ·cases ho9
   have r18 := hD.od hd9 3 18 _ rfl (by simp)
   have hM0 := hM
   have c9_0 := hM0.cellAt (b := p) (cs := #[.int .u64 b0,.int .u64 b1]) (t := 24) (by simp) 0 _ rfl
   clear hM0
   refine wpOp_step rfl fun K hK => ?_
   go_simp
   exact hK _ _ ⟨rfl,hM⟩
  ·cases ho9
   have r15 := hD.od hd9 0 15 _ rfl (by simp)
   have r19 := hD.od hd9 4 19 _ rfl (by simp)
   refine wpOp_step rfl fun K hK => ?_
   go_simp
   go_wp2_with fail
   refine (H0 _).mono ?_
   rintro en w9 ⟨rfl,hb9⟩
   exact hK _ _ ⟨rfl,hM.kept hb9⟩
  ·cases ho9
   have r20 := hD.od hd9 5 20 _ rfl (by simp)
   refine wpOp_step rfl fun K hK => ?_
   go_simp
   exact hK _ _ ⟨rfl,hM⟩
 ·intro l9 W9 hl9 hM
  clear hS ya yb yc yd
  have hS := hM
  clear hM
  simp only [Puts.lay,List.setIfInBounds_toArray,List.set_cons_zero,List.set_cons_succ]
  obtain ⟨⟨ye,yf,-⟩,⟨yg,yh,-⟩,-⟩ := hS.cells
  go_wp2
  rw [rounds_succ]
  go_wp2_with fail
  refine wp_region_any (by kernel_rfl) ?_
  refine wpAny_det [some (15,.agg #[.int .i64 E,.int .i64 F]),some (16,.slice (some ⟨p,0,none⟩) 2 2),some (17,.int .i64 1),some (18,.pointer (some ⟨p,1,none⟩)),some (19,.int .u64 b1),some (20,.int .i64 c),some (8,.int .i64 c)]
   (fun _ W9 => Fs w W9 [⟨w.heap.size,#[.int .i64 E,.int .i64 F],23⟩,⟨p,#[.int .u64 b0,.int .u64 b1],24⟩]) _ _ rfl (by kernel_rfl) rfl rfl ?_ ?_ (hS).drew
  ·intro l9 t9 W9 i9 hD hi9 hl9 hM
   obtain ⟨o9,ho9,hd9⟩ := (mem_ready.1 hi9).2
   have hin9 : i9 < 7 := by
    by_cases h : i9 < 7
    ·exact h
    ·rw [Array.getElem?_eq_none (by rw [hD.len]; simp; omega)] at hl9; cases hl9
   have hcase : i9 = 0 ∨ i9 = 1 ∨ i9 = 2 ∨ i9 = 3 ∨ i9 = 4 ∨ i9 = 5 ∨ i9 = 6 := by omega
   clear hin9
   rcases hcase with rfl | rfl | rfl | rfl | rfl | rfl | rfl
   ·cases ho9
    have r3 := hD.old 3 _ rfl rfl
    have hM0 := hM
    have Q_ := hM0.cellAt (b := w.heap.size) (cs := #[.int .i64 E,.int .i64 F]) (t := 23) (by simp)
    have c9_0 := Q_ 0 _ rfl
    have c9_1 := Q_ 1 _ rfl
    clear Q_
    clear hM0
    refine wpOp_step rfl fun K hK => ?_
    go_simp
    exact hK _ _ ⟨rfl,hM⟩
   ·cases ho9
    have r2 := hD.old 2 _ rfl rfl
    refine wpOp_step rfl fun K hK => ?_
    go_simp
    exact hK _ _ ⟨rfl,hM⟩
   ·cases ho9
    have r7 := hD.old 7 _ rfl rfl
    refine wpOp_step rfl fun K hK => ?_
    go_simp
    exact hK _ _ ⟨rfl,hM⟩
   ·cases ho9
    have r16 := hD.od hd9 1 16 _ rfl (by simp)
    have r17 := hD.od hd9 2 17 _ rfl (by simp)
    refine wpOp_step rfl fun K hK => ?_
    go_simp
    exact hK _ _ ⟨rfl,hM⟩
   ·cases ho9
    have r18 := hD.od hd9 3 18 _ rfl (by simp)
    have hM0 := hM
    have c9_0 := hM0.cellAt (b := p) (cs := #[.int .u64 b0,.int .u64 b1]) (t := 24) (by simp) 1 _ rfl
    clear hM0
    refine wpOp_step rfl fun K hK => ?_
    go_simp
    exact hK _ _ ⟨rfl,hM⟩
   ·cases ho9
    have r15 := hD.od hd9 0 15 _ rfl (by simp)
    have r19 := hD.od hd9 4 19 _ rfl (by simp)
    refine wpOp_step rfl fun K hK => ?_
    go_simp
    go_wp2_with fail
    refine (H1 _).mono ?_
    rintro en w9 ⟨rfl,hb9⟩
    exact hK _ _ ⟨rfl,hM.kept hb9⟩
   ·cases ho9
    have r20 := hD.od hd9 5 20 _ rfl (by simp)
    refine wpOp_step rfl fun K hK => ?_
    go_simp
    exact hK _ _ ⟨rfl,hM⟩
  ·intro l9 W9 hl9 hM
   clear hS ye yf yg yh
   have hS := hM
   clear hM
   simp only [Puts.lay,List.setIfInBounds_toArray,List.set_cons_zero,List.set_cons_succ]
   obtain ⟨⟨yi,yj,-⟩,⟨yk,yl,-⟩,-⟩ := hS.cells
   go_wp2
   go_ret
   exact ⟨rfl,hS.fr⟩
end Go.Proofs.YtfnhimofpelmdaaGreatDoor
