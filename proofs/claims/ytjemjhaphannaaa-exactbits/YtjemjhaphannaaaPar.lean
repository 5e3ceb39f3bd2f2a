/- Of what ExactBitsRow stands on: ExRefS ExBitsLaw. -/
import Derived.Test.YtjemjhaphannaaaPaq
namespace Go.Proofs.Ytjemjhaphannaaa
open Go.RowKit
set_option maxHeartbeats 2000000 in
theorem rBits_lo_L_false (E F B : Nat) (h0 : Fo E F) (HB : Hid (B = 2 ^ (E - 1) - 1)) (a : Option Addr) (n cap m k : Nat) (x L t0 : Int) (j N pF : Nat) (w : World) (h : Num w a n m) (hn : 0 < n) (hm : m % 2 = 1) (hx : -1073741824 ≤ x ∧ x ≤ 1073741824) (hk : Bl m k) (hk2 : k ≤ 524288) (hk1 : 0 < k) (hL : 1 - (B : Int) - (F : Int) = L) (ht0 : x + (k : Int) - 1 - (F : Int) = t0) (h4 : k ≤ F + 1) (h9 : L ≤ x) (h24 : L ≤ (B : Int) - (F : Int)) (hj : x - L = (j : Int)) (hj52 : j ≤ 52) (eN : IntKind.u64.wrap ((m : Int) * 2 ^ j) = (N : Int)) (hn2 : n ≤ 2) (eF : IntKind.u64.wrap (2 ^ F) = (pF : Int)) (hlo : N < pF) (hc : t0 < L) :
  Calls Try.prog 4 #[.agg #[.int .i64 E,.int .i64 F],.agg #[.bool false,.slice a n cap,.int .i64 x]] w fun e w' => e = .returned (.tuple #[.int .u64 (N : Int),.bool true,.int .i64 0]) ∧ Below w.heap.size w w' := by
 have H := hide h
 have HM := hide hm
 have HK := hide hk
 have hB : B ≤ 1023 := B_le h0 HB
 have hF := h0.f52
 have hF1 := h0.f1
 have hE := h0.e11
 have hE2 := h0.e2
 have hE2B : IntKind.i64.wrap (2 ^ E) = 2 * (B : Int) + 2 := by
  have h3 := (B_two h0 HB).1
  have e : ((2 : Int) ^ E) = ((2 ^ E : Nat) : Int) := by simp
  rw [e,h3,IntKind.wrap_i64]
  omega
 have H0 := hide h0
 clear h h0 hm hk
 go_enter Try.func4,Try.ntmps4
 go_wp2_with fail
 refine (rmay_zero _ _ (unhide H0) _).mono ?_
 rintro e w1 ⟨rfl,hb1⟩
 have hS := (Fs.two w _ _ _ _).kept hb1
 obtain ⟨⟨z1_0_0,z1_0_1,-⟩,⟨z1_1_0,z1_1_1,z1_1_2,-⟩,-⟩ := hS.cells
 go_wp2_with fail
 refine (drcheck_good false a n cap m x _ ((unhide H).kept hS.fr) hn (unhide HM) hx).mono ?_
 rintro e w2 ⟨rfl,hb2⟩
 replace hS := hS.kept hb2
 clear z1_0_0 z1_0_1 z1_1_0 z1_1_1 z1_1_2
 obtain ⟨⟨z2_0_0,z2_0_1,-⟩,⟨z2_1_0,z2_1_1,z2_1_2,-⟩,-⟩ := hS.cells
 go_wp2_with fail
 refine (rnone_no a n cap hn _).mono ?_
 rintro e w3 ⟨rfl,hb3⟩
 replace hS := hS.kept hb3
 clear z2_0_0 z2_0_1 z2_1_0 z2_1_1 z2_1_2
 obtain ⟨⟨z3_0_0,z3_0_1,-⟩,⟨z3_1_0,z3_1_1,z3_1_2,-⟩,-⟩ := hS.cells
 go_wp2_with fail
 refine (rbits_k a n cap m k _ ((unhide H).kept hS.fr) (unhide HK)).mono ?_
 rintro e w4 ⟨rfl,hb4⟩
 replace hS := hS.kept hb4
 clear z3_0_0 z3_0_1 z3_1_0 z3_1_1 z3_1_2
 obtain ⟨⟨z4_0_0,z4_0_1,-⟩,⟨z4_1_0,z4_1_1,z4_1_2,-⟩,-⟩ := hS.cells
 go_wp2_with fail
 refine wp_region_any (by kernel_rfl) ?_
 refine wpAny_det [some (32,.agg #[.int .i64 E,.int .i64 F]),some (33,.int .i64 B),some (34,.int .i64 (1 - (B : Int))),some (35,.pointer (some ⟨w.heap.size,1,none⟩)),some (36,.int .i64 F),some (37,.int .i64 L),some (10,.int .i64 L)]
  (fun _ W9 => Fs w W9 [⟨w.heap.size,#[.int .i64 E,.int .i64 F],23⟩,⟨w.heap.size + 1,#[.bool false,.slice a n cap,.int .i64 x],28⟩]) _ _ rfl (by kernel_rfl) rfl rfl ?_ ?_ (hS).drew
 ·intro l9 t9 W9 i9 hD hi9 hl9 hM
  obtain ⟨o9,ho9,hd9⟩ := (mem_ready.1 hi9).2
  have hin9 : i9 < 7 := by
   by_cases h : i9 < 7
   ·exact h
   ·rw [Array.getElem?_eq_none (by rw [hD.len]; simp; omega)] at hl9; cases hl9
  have hcase : i9 = 0 ∨ i9 = 1 ∨ i9 = 2 ∨ i9 = 3 ∨ i9 = 4 ∨ i9 = 5 ∨ i9 = 6 := by omega
  clear hin9
  rcases hcase with rfl | rfl | rfl | rfl | rfl | rfl | rfl
  ·cases ho9
   have r2 := hD.old 2 _ rfl rfl
   have hM0 := hM
   have c9_0 := hM0.cellAt (b := w.heap.size) (cs := #[.int .i64 E,.int .i64 F]) (t := 23) (by simp) 0 _ rfl
   have c9_1 := hM0.cellAt (b := w.heap.size) (cs := #[.int .i64 E,.int .i64 F]) (t := 23) (by simp) 1 _ rfl
   clear hM0
   clear hD hd9 hi9
   refine wpOp_step rfl (fun K hK => ?_)
   go_simp
   exact hK _ _ ⟨rfl,hM⟩
  ·cases ho9
   have r32 := hD.on 0 32 _ rfl (getD_true (hd9 ⟨0,.data⟩ (by simp) rfl))
   clear hD hd9 hi9
   refine wpOp_step rfl (fun K hK => ?_)
   go_simp
   go_wp2_with fail
   refine (rbias_any E F B (unhide H0) HB _).mono ?_
   rintro en w9 ⟨rfl,hb9⟩
   exact hK _ _ ⟨rfl,hM.kept hb9⟩
  ·cases ho9
   have r33 := hD.on 1 33 _ rfl (getD_true (hd9 ⟨1,.data⟩ (by simp) rfl))
   clear hD hd9 hi9
   refine wpOp_step rfl (fun K hK => ?_)
   go_simp
   exact hK _ _ ⟨act_eq (by (show Value.int _ _ = Value.int _ _; congr 1; (first | rfl | omega | (rw [IntKind.wrap_i64]; omega) | (rw [IntKind.wrap_u64]; omega)))),hM⟩
  ·cases ho9
   have r2 := hD.old 2 _ rfl rfl
   clear hD hd9 hi9
   refine wpOp_step rfl (fun K hK => ?_)
   go_simp
   exact hK _ _ ⟨rfl,hM⟩
  ·cases ho9
   have r35 := hD.on 3 35 _ rfl (getD_true (hd9 ⟨3,.data⟩ (by simp) rfl))
   have hM0 := hM
   have c9_0 := hM0.cellAt (b := w.heap.size) (cs := #[.int .i64 E,.int .i64 F]) (t := 23) (by simp) 1 _ rfl
   clear hM0
   clear hD hd9 hi9
   refine wpOp_step rfl (fun K hK => ?_)
   go_simp
   exact hK _ _ ⟨rfl,hM⟩
  ·cases ho9
   have r34 := hD.on 2 34 _ rfl (getD_true (hd9 ⟨2,.data⟩ (by simp) rfl))
   have r36 := hD.on 4 36 _ rfl (getD_true (hd9 ⟨4,.data⟩ (by simp) rfl))
   clear hD hd9 hi9
   refine wpOp_step rfl (fun K hK => ?_)
   go_simp
   exact hK _ _ ⟨act_eq (by (show Value.int _ _ = Value.int _ _; congr 1; (first | rfl | omega | (rw [IntKind.wrap_i64]; omega) | (rw [IntKind.wrap_u64]; omega)))),hM⟩
  ·cases ho9
   have r37 := hD.on 5 37 _ rfl (getD_true (hd9 ⟨5,.data⟩ (by simp) rfl))
   clear hD hd9 hi9
   refine wpOp_step rfl (fun K hK => ?_)
   go_simp
   exact hK _ _ ⟨rfl,hM⟩
 ·intro l9 W9 hl9 hM
  clear hl9
  clear hS z4_0_0 z4_0_1 z4_1_0 z4_1_1 z4_1_2
  have hS := hM
  clear hM
  simp only [Puts.lay,List.setIfInBounds_toArray,List.set_cons_zero,List.set_cons_succ]
  obtain ⟨⟨z5_0_0,z5_0_1,-⟩,⟨z5_1_0,z5_1_1,z5_1_2,-⟩,-⟩ := hS.cells
  go_wp2_with fail
  refine wp_region_any (by kernel_rfl) ?_
  refine wpAny_det [some (50,.int .i64 k),some (51,.pointer (some ⟨w.heap.size,1,none⟩)),some (52,.int .i64 F),some (53,.int .i64 ((F : Int) + 1)),some (54,.bool false),some (55,.bool false),some (56,.pointer (some ⟨w.heap.size + 1,2,none⟩)),some (57,.int .i64 x),some (58,.int .i64 L),some (59,.bool false),some (60,.bool false),some (61,.bool false),some (62,.int .i64 L),some (63,.pointer (some ⟨w.heap.size,0,none⟩)),some (64,.int .i64 E),some (65,.int .u64 E),some (66,.int .i64 (2 * (B : Int) + 2)),some (67,.int .i64 (2 * (B : Int))),some (68,.agg #[.int .i64 E,.int .i64 F]),some (69,.int .i64 B),some (70,.int .i64 B),some (71,.pointer (some ⟨w.heap.size,1,none⟩)),some (72,.int .i64 F),some (73,.int .i64 ((B : Int) - (F : Int))),some (74,.bool false),some (75,.bool false)]
   (fun _ W9 => Fs w W9 [⟨w.heap.size,#[.int .i64 E,.int .i64 F],23⟩,⟨w.heap.size + 1,#[.bool false,.slice a n cap,.int .i64 x],28⟩]) _ _ rfl (by kernel_rfl) rfl rfl ?_ ?_ (hS).drew
  ·intro l9 t9 W9 i9 hD hi9 hl9 hM
   obtain ⟨o9,ho9,hd9⟩ := (mem_ready.1 hi9).2
   have hin9 : i9 < 26 := by
    by_cases h : i9 < 26
    ·exact h
    ·rw [Array.getElem?_eq_none (by rw [hD.len]; simp; omega)] at hl9; cases hl9
   have hcase : i9 = 0 ∨ i9 = 1 ∨ i9 = 2 ∨ i9 = 3 ∨ i9 = 4 ∨ i9 = 5 ∨ i9 = 6 ∨ i9 = 7 ∨ i9 = 8 ∨ i9 = 9 ∨ i9 = 10 ∨ i9 = 11 ∨ i9 = 12 ∨ i9 = 13 ∨ i9 = 14 ∨ i9 = 15 ∨ i9 = 16 ∨ i9 = 17 ∨ i9 = 18 ∨ i9 = 19 ∨ i9 = 20 ∨ i9 = 21 ∨ i9 = 22 ∨ i9 = 23 ∨ i9 = 24 ∨ i9 = 25 := by omega
   clear hin9
   rcases hcase with rfl | rfl | rfl | rfl | rfl | rfl | rfl | rfl | rfl | rfl | rfl | rfl | rfl | rfl | rfl | rfl | rfl | rfl | rfl | rfl | rfl | rfl | rfl | rfl | rfl | rfl
   ·cases ho9
    have r8 := hD.old 8 _ rfl rfl
    clear hD hd9 hi9
    refine wpOp_step rfl (fun K hK => ?_)
    go_simp
    exact hK _ _ ⟨rfl,hM⟩
   ·cases ho9
    have r2 := hD.old 2 _ rfl rfl
    clear hD hd9 hi9
    refine wpOp_step rfl (fun K hK => ?_)
    go_simp
    exact hK _ _ ⟨rfl,hM⟩
   ·cases ho9
    have r51 := hD.on 1 51 _ rfl (getD_true (hd9 ⟨1,.data⟩ (by simp) rfl))
    have hM0 := hM
    have c9_0 := hM0.cellAt (b := w.heap.size) (cs := #[.int .i64 E,.int .i64 F]) (t := 23) (by simp) 1 _ rfl
    clear hM0
    clear hD hd9 hi9
    refine wpOp_step rfl (fun K hK => ?_)
    go_simp
    exact hK _ _ ⟨rfl,hM⟩
   ·cases ho9
    have r52 := hD.on 2 52 _ rfl (getD_true (hd9 ⟨2,.data⟩ (by simp) rfl))
    clear hD hd9 hi9
    refine wpOp_step rfl (fun K hK => ?_)
    go_simp
    exact hK _ _ ⟨act_eq (by (show Value.int _ _ = Value.int _ _; congr 1; (first | rfl | omega | (rw [IntKind.wrap_i64]; omega) | (rw [IntKind.wrap_u64]; omega)))),hM⟩
   ·cases ho9
    have r50 := hD.on 0 50 _ rfl (getD_true (hd9 ⟨0,.data⟩ (by simp) rfl))
    have r53 := hD.on 3 53 _ rfl (getD_true (hd9 ⟨3,.data⟩ (by simp) rfl))
    clear hD hd9 hi9
    refine wpOp_step rfl (fun K hK => ?_)
    go_simp
    exact hK _ _ ⟨act_eq (by (show Value.bool _ = Value.bool _; first | rfl | (congr 1; first | (exact decide_eq_true (by omega)) | (exact decide_eq_false (by omega)) | (simp; done) | (simp; omega)))),hM⟩
   ·cases ho9
    have r54 := hD.on 4 54 _ rfl (getD_true (hd9 ⟨4,.data⟩ (by simp) rfl))
    clear hD hd9 hi9
    refine wpOp_step rfl (fun K hK => ?_)
    go_simp
    exact hK _ _ ⟨rfl,hM⟩
   ·cases ho9
    have r55 := hD.on 5 55 _ rfl (getD_true (hd9 ⟨5,.guard⟩ (by simp) rfl))
    have r3 := hD.old 3 _ rfl rfl
    clear hD hd9 hi9
    refine wpOp_step rfl (fun K hK => ?_)
    go_simp
    exact hK _ _ ⟨rfl,hM⟩
   ·cases ho9
    have r55 := hD.on 5 55 _ rfl (getD_true (hd9 ⟨5,.guard⟩ (by simp) rfl))
    have r56 := hD.on 6 56 _ rfl (getD_true (hd9 ⟨6,.data⟩ (by simp) rfl))
    have hM0 := hM
    have c9_0 := hM0.cellAt (b := w.heap.size + 1) (cs := #[.bool false,.slice a n cap,.int .i64 x]) (t := 28) (by simp) 2 _ rfl
    clear hM0
    clear hD hd9 hi9
    refine wpOp_step rfl (fun K hK => ?_)
    go_simp
    exact hK _ _ ⟨rfl,hM⟩
   ·cases ho9
    have r55 := hD.on 5 55 _ rfl (getD_true (hd9 ⟨5,.guard⟩ (by simp) rfl))
    have r11 := hD.old 11 _ rfl rfl
    clear hD hd9 hi9
    refine wpOp_step rfl (fun K hK => ?_)
    go_simp
    exact hK _ _ ⟨rfl,hM⟩
   ·cases ho9
    have r55 := hD.on 5 55 _ rfl (getD_true (hd9 ⟨5,.guard⟩ (by simp) rfl))
    have r57 := hD.on 7 57 _ rfl (getD_true (hd9 ⟨7,.data⟩ (by simp) rfl))
    have r58 := hD.on 8 58 _ rfl (getD_true (hd9 ⟨8,.data⟩ (by simp) rfl))
    clear hD hd9 hi9
    refine wpOp_step rfl (fun K hK => ?_)
    go_simp
    exact hK _ _ ⟨act_eq (by (show Value.bool _ = Value.bool _; first | rfl | (congr 1; first | (exact decide_eq_true (by omega)) | (exact decide_eq_false (by omega)) | (simp; done) | (simp; omega)))),hM⟩
   ·cases ho9
    have r55 := hD.on 5 55 _ rfl (getD_true (hd9 ⟨5,.data⟩ (by simp) rfl))
    have r59 := hD.on 9 59 _ rfl (getD_true (hd9 ⟨9,.data⟩ (by simp) rfl))
    clear hD hd9 hi9
    refine wpOp_step rfl (fun K hK => ?_)
    go_simp
    exact hK _ _ ⟨rfl,hM⟩
   ·cases ho9
    have r60 := hD.on 10 60 _ rfl (getD_true (hd9 ⟨10,.data⟩ (by simp) rfl))
    clear hD hd9 hi9
    refine wpOp_step rfl (fun K hK => ?_)
    go_simp
    exact hK _ _ ⟨rfl,hM⟩
   ·cases ho9
    have r61 := hD.on 11 61 _ rfl (getD_true (hd9 ⟨11,.guard⟩ (by simp) rfl))
    have r11 := hD.old 11 _ rfl rfl
    clear hD hd9 hi9
    refine wpOp_step rfl (fun K hK => ?_)
    go_simp
    exact hK _ _ ⟨rfl,hM⟩
   ·cases ho9
    have r61 := hD.on 11 61 _ rfl (getD_true (hd9 ⟨11,.guard⟩ (by simp) rfl))
    have r2 := hD.old 2 _ rfl rfl
    clear hD hd9 hi9
    refine wpOp_step rfl (fun K hK => ?_)
    go_simp
    exact hK _ _ ⟨rfl,hM⟩
   ·cases ho9
    have r61 := hD.on 11 61 _ rfl (getD_true (hd9 ⟨11,.guard⟩ (by simp) rfl))
    have r63 := hD.on 13 63 _ rfl (getD_true (hd9 ⟨13,.data⟩ (by simp) rfl))
    have hM0 := hM
    have c9_0 := hM0.cellAt (b := w.heap.size) (cs := #[.int .i64 E,.int .i64 F]) (t := 23) (by simp) 0 _ rfl
    clear hM0
    clear hD hd9 hi9
    refine wpOp_step rfl (fun K hK => ?_)
    go_simp
    exact hK _ _ ⟨rfl,hM⟩
   ·cases ho9
    have r61 := hD.on 11 61 _ rfl (getD_true (hd9 ⟨11,.guard⟩ (by simp) rfl))
    have r64 := hD.on 14 64 _ rfl (getD_true (hd9 ⟨14,.data⟩ (by simp) rfl))
    clear hD hd9 hi9
    refine wpOp_step rfl (fun K hK => ?_)
    go_simp
    exact hK _ _ ⟨act_eq (by (show Value.int _ _ = Value.int _ _; congr 1; (first | rfl | omega | (rw [IntKind.wrap_i64]; omega) | (rw [IntKind.wrap_u64]; omega)))),hM⟩
   ·cases ho9
    have r61 := hD.on 11 61 _ rfl (getD_true (hd9 ⟨11,.guard⟩ (by simp) rfl))
    have r65 := hD.on 15 65 _ rfl (getD_true (hd9 ⟨15,.data⟩ (by simp) rfl))
    clear hD hd9 hi9
    refine wpOp_step rfl (fun K hK => ?_)
    go_simp
    exact hK _ _ ⟨act_eq (by (show Value.int _ _ = Value.int _ _; first | rfl | (congr 1; first | exact hE2B | simpa using hE2B))),hM⟩
   ·cases ho9
    have r61 := hD.on 11 61 _ rfl (getD_true (hd9 ⟨11,.guard⟩ (by simp) rfl))
    have r66 := hD.on 16 66 _ rfl (getD_true (hd9 ⟨16,.data⟩ (by simp) rfl))
    clear hD hd9 hi9
    refine wpOp_step rfl (fun K hK => ?_)
    go_simp
    exact hK _ _ ⟨act_eq (by (show Value.int _ _ = Value.int _ _; congr 1; (first | rfl | omega | (rw [IntKind.wrap_i64]; omega) | (rw [IntKind.wrap_u64]; omega)))),hM⟩
   ·cases ho9
    have r61 := hD.on 11 61 _ rfl (getD_true (hd9 ⟨11,.guard⟩ (by simp) rfl))
    have r2 := hD.old 2 _ rfl rfl
    have hM0 := hM
    have c9_0 := hM0.cellAt (b := w.heap.size) (cs := #[.int .i64 E,.int .i64 F]) (t := 23) (by simp) 0 _ rfl
    have c9_1 := hM0.cellAt (b := w.heap.size) (cs := #[.int .i64 E,.int .i64 F]) (t := 23) (by simp) 1 _ rfl
    clear hM0
    clear hD hd9 hi9
    refine wpOp_step rfl (fun K hK => ?_)
    go_simp
    exact hK _ _ ⟨rfl,hM⟩
   ·cases ho9
    have r61 := hD.on 11 61 _ rfl (getD_true (hd9 ⟨11,.chain⟩ (by simp) rfl))
    have r68 := hD.on 18 68 _ rfl (getD_true (hd9 ⟨18,.data⟩ (by simp) rfl))
    clear hD hd9 hi9
    refine wpOp_step rfl (fun K hK => ?_)
    go_simp
    go_wp2_with fail
    refine (rbias_any E F B (unhide H0) HB _).mono ?_
    rintro en w9 ⟨rfl,hb9⟩
    exact hK _ _ ⟨rfl,hM.kept hb9⟩
   ·cases ho9
    have r61 := hD.on 11 61 _ rfl (getD_true (hd9 ⟨11,.guard⟩ (by simp) rfl))
    have r67 := hD.on 17 67 _ rfl (getD_true (hd9 ⟨17,.data⟩ (by simp) rfl))
    have r69 := hD.on 19 69 _ rfl (getD_true (hd9 ⟨19,.data⟩ (by simp) rfl))
    clear hD hd9 hi9
    refine wpOp_step rfl (fun K hK => ?_)
    go_simp
    exact hK _ _ ⟨act_eq (by (show Value.int _ _ = Value.int _ _; congr 1; (first | rfl | omega | (rw [IntKind.wrap_i64]; omega) | (rw [IntKind.wrap_u64]; omega)))),hM⟩
   ·cases ho9
    have r61 := hD.on 11 61 _ rfl (getD_true (hd9 ⟨11,.guard⟩ (by simp) rfl))
    have r2 := hD.old 2 _ rfl rfl
    clear hD hd9 hi9
    refine wpOp_step rfl (fun K hK => ?_)
    go_simp
    exact hK _ _ ⟨rfl,hM⟩
   ·cases ho9
    have r61 := hD.on 11 61 _ rfl (getD_true (hd9 ⟨11,.guard⟩ (by simp) rfl))
    have r71 := hD.on 21 71 _ rfl (getD_true (hd9 ⟨21,.data⟩ (by simp) rfl))
    have hM0 := hM
    have c9_0 := hM0.cellAt (b := w.heap.size) (cs := #[.int .i64 E,.int .i64 F]) (t := 23) (by simp) 1 _ rfl
    clear hM0
    clear hD hd9 hi9
    refine wpOp_step rfl (fun K hK => ?_)
    go_simp
    exact hK _ _ ⟨rfl,hM⟩
   ·cases ho9
    have r61 := hD.on 11 61 _ rfl (getD_true (hd9 ⟨11,.guard⟩ (by simp) rfl))
    have r70 := hD.on 20 70 _ rfl (getD_true (hd9 ⟨20,.data⟩ (by simp) rfl))
    have r72 := hD.on 22 72 _ rfl (getD_true (hd9 ⟨22,.data⟩ (by simp) rfl))
    clear hD hd9 hi9
    refine wpOp_step rfl (fun K hK => ?_)
    go_simp
    exact hK _ _ ⟨act_eq (by (show Value.int _ _ = Value.int _ _; congr 1; (first | rfl | omega | (rw [IntKind.wrap_i64]; omega) | (rw [IntKind.wrap_u64]; omega)))),hM⟩
   ·cases ho9
    have r61 := hD.on 11 61 _ rfl (getD_true (hd9 ⟨11,.guard⟩ (by simp) rfl))
    have r62 := hD.on 12 62 _ rfl (getD_true (hd9 ⟨12,.data⟩ (by simp) rfl))
    have r73 := hD.on 23 73 _ rfl (getD_true (hd9 ⟨23,.data⟩ (by simp) rfl))
    clear hD hd9 hi9
    refine wpOp_step rfl (fun K hK => ?_)
    go_simp
    exact hK _ _ ⟨act_eq (by (show Value.bool _ = Value.bool _; first | rfl | (congr 1; first | (exact decide_eq_true (by omega)) | (exact decide_eq_false (by omega)) | (simp; done) | (simp; omega)))),hM⟩
   ·cases ho9
    have r61 := hD.on 11 61 _ rfl (getD_true (hd9 ⟨11,.data⟩ (by simp) rfl))
    have r74 := hD.on 24 74 _ rfl (getD_true (hd9 ⟨24,.data⟩ (by simp) rfl))
    clear hD hd9 hi9
    refine wpOp_step rfl (fun K hK => ?_)
    go_simp
    exact hK _ _ ⟨rfl,hM⟩
  ·intro l9 W9 hl9 hM
   clear hl9
   clear hS z5_0_0 z5_0_1 z5_1_0 z5_1_1 z5_1_2
   have hS := hM
   clear hM
   simp only [Puts.lay,List.setIfInBounds_toArray,List.set_cons_zero,List.set_cons_succ]
   obtain ⟨⟨z6_0_0,z6_0_1,-⟩,⟨z6_1_0,z6_1_1,z6_1_2,-⟩,-⟩ := hS.cells
   go_wp2_with fail
   refine (rlow_small a n cap m _ ((unhide H).kept hS.fr) hn2).mono ?_
   rintro e w5 ⟨rfl,hb5⟩
   replace hS := hS.kept hb5
   clear z6_0_0 z6_0_1 z6_1_0 z6_1_1 z6_1_2
   obtain ⟨⟨z7_0_0,z7_0_1,-⟩,⟨z7_1_0,z7_1_1,z7_1_2,-⟩,-⟩ := hS.cells
   go_wp2
   exact bodyPost_ret (v := .tuple #[.int .u64 (N : Int),.bool true,.int .i64 0]) (by simp [results,Try.results4,go_sem]) rfl ⟨rfl,hS.fr⟩
set_option maxHeartbeats 2000000 in
theorem rBits_lo_L_true (E F B : Nat) (h0 : Fo E F) (HB : Hid (B = 2 ^ (E - 1) - 1)) (a : Option Addr) (n cap m k : Nat) (x L t0 : Int) (j N pF pS b : Nat) (w : World) (h : Num w a n m) (hn : 0 < n) (hm : m % 2 = 1) (hx : -1073741824 ≤ x ∧ x ≤ 1073741824) (hk : Bl m k) (hk2 : k ≤ 524288) (hk1 : 0 < k) (hL : 1 - (B : Int) - (F : Int) = L) (ht0 : x + (k : Int) - 1 - (F : Int) = t0) (h4 : k ≤ F + 1) (h9 : L ≤ x) (h24 : L ≤ (B : Int) - (F : Int)) (hj : x - L = (j : Int)) (hj52 : j ≤ 52) (eN : IntKind.u64.wrap ((m : Int) * 2 ^ j) = (N : Int)) (hn2 : n ≤ 2) (eF : IntKind.u64.wrap (2 ^ F) = (pF : Int)) (hlo : N < pF) (eS : IntKind.u64.wrap (2 ^ (E + F)) = (pS : Int)) (hb : b < 18446744073709551616) (eB : N + pS = b) (hc : t0 < L) :
  Calls Try.prog 4 #[.agg #[.int .i64 E,.int .i64 F],.agg #[.bool true,.slice a n cap,.int .i64 x]] w fun e w' => e = .returned (.tuple #[.int .u64 (b : Int),.bool true,.int .i64 0]) ∧ Below w.heap.size w w' := by
 have H := hide h
 have HM := hide hm
 have HK := hide hk
 have hB : B ≤ 1023 := B_le h0 HB
 have hF := h0.f52
 have hF1 := h0.f1
 have hE := h0.e11
 have hE2 := h0.e2
 have hE2B : IntKind.i64.wrap (2 ^ E) = 2 * (B : Int) + 2 := by
  have h3 := (B_two h0 HB).1
  have e : ((2 : Int) ^ E) = ((2 ^ E : Nat) : Int) := by simp
  rw [e,h3,IntKind.wrap_i64]
  omega
 have H0 := hide h0
 clear h h0 hm hk
 go_enter Try.func4,Try.ntmps4
 go_wp2_with fail
 refine (rmay_zero _ _ (unhide H0) _).mono ?_
 rintro e w1 ⟨rfl,hb1⟩
 have hS := (Fs.two w _ _ _ _).kept hb1
 obtain ⟨⟨z1_0_0,z1_0_1,-⟩,⟨z1_1_0,z1_1_1,z1_1_2,-⟩,-⟩ := hS.cells
 go_wp2_with fail
 refine (drcheck_good true a n cap m x _ ((unhide H).kept hS.fr) hn (unhide HM) hx).mono ?_
 rintro e w2 ⟨rfl,hb2⟩
 replace hS := hS.kept hb2
 clear z1_0_0 z1_0_1 z1_1_0 z1_1_1 z1_1_2
 obtain ⟨⟨z2_0_0,z2_0_1,-⟩,⟨z2_1_0,z2_1_1,z2_1_2,-⟩,-⟩ := hS.cells
 go_wp2_with fail
 refine (rnone_no a n cap hn _).mono ?_
 rintro e w3 ⟨rfl,hb3⟩
 replace hS := hS.kept hb3
 clear z2_0_0 z2_0_1 z2_1_0 z2_1_1 z2_1_2
 obtain ⟨⟨z3_0_0,z3_0_1,-⟩,⟨z3_1_0,z3_1_1,z3_1_2,-⟩,-⟩ := hS.cells
 go_wp2_with fail
 refine (rbits_k a n cap m k _ ((unhide H).kept hS.fr) (unhide HK)).mono ?_
 rintro e w4 ⟨rfl,hb4⟩
 replace hS := hS.kept hb4
 clear z3_0_0 z3_0_1 z3_1_0 z3_1_1 z3_1_2
 obtain ⟨⟨z4_0_0,z4_0_1,-⟩,⟨z4_1_0,z4_1_1,z4_1_2,-⟩,-⟩ := hS.cells
 go_wp2_with fail
 refine wp_region_any (by kernel_rfl) ?_
 refine wpAny_det [some (32,.agg #[.int .i64 E,.int .i64 F]),some (33,.int .i64 B),some (34,.int .i64 (1 - (B : Int))),some (35,.pointer (some ⟨w.heap.size,1,none⟩)),some (36,.int .i64 F),some (37,.int .i64 L),some (10,.int .i64 L)]
  (fun _ W9 => Fs w W9 [⟨w.heap.size,#[.int .i64 E,.int .i64 F],23⟩,⟨w.heap.size + 1,#[.bool true,.slice a n cap,.int .i64 x],28⟩]) _ _ rfl (by kernel_rfl) rfl rfl ?_ ?_ (hS).drew
 ·intro l9 t9 W9 i9 hD hi9 hl9 hM
  obtain ⟨o9,ho9,hd9⟩ := (mem_ready.1 hi9).2
  have hin9 : i9 < 7 := by
   by_cases h : i9 < 7
   ·exact h
   ·rw [Array.getElem?_eq_none (by rw [hD.len]; simp; omega)] at hl9; cases hl9
  have hcase : i9 = 0 ∨ i9 = 1 ∨ i9 = 2 ∨ i9 = 3 ∨ i9 = 4 ∨ i9 = 5 ∨ i9 = 6 := by omega
  clear hin9
  rcases hcase with rfl | rfl | rfl | rfl | rfl | rfl | rfl
  ·cases ho9
   have r2 := hD.old 2 _ rfl rfl
   have hM0 := hM
   have c9_0 := hM0.cellAt (b := w.heap.size) (cs := #[.int .i64 E,.int .i64 F]) (t := 23) (by simp) 0 _ rfl
   have c9_1 := hM0.cellAt (b := w.heap.size) (cs := #[.int .i64 E,.int .i64 F]) (t := 23) (by simp) 1 _ rfl
   clear hM0
   clear hD hd9 hi9
   refine wpOp_step rfl (fun K hK => ?_)
   go_simp
   exact hK _ _ ⟨rfl,hM⟩
  ·cases ho9
   have r32 := hD.on 0 32 _ rfl (getD_true (hd9 ⟨0,.data⟩ (by simp) rfl))
   clear hD hd9 hi9
   refine wpOp_step rfl (fun K hK => ?_)
   go_simp
   go_wp2_with fail
   refine (rbias_any E F B (unhide H0) HB _).mono ?_
   rintro en w9 ⟨rfl,hb9⟩
   exact hK _ _ ⟨rfl,hM.kept hb9⟩
  ·cases ho9
   have r33 := hD.on 1 33 _ rfl (getD_true (hd9 ⟨1,.data⟩ (by simp) rfl))
   clear hD hd9 hi9
   refine wpOp_step rfl (fun K hK => ?_)
   go_simp
   exact hK _ _ ⟨act_eq (by (show Value.int _ _ = Value.int _ _; congr 1; (first | rfl | omega | (rw [IntKind.wrap_i64]; omega) | (rw [IntKind.wrap_u64]; omega)))),hM⟩
  ·cases ho9
   have r2 := hD.old 2 _ rfl rfl
   clear hD hd9 hi9
   refine wpOp_step rfl (fun K hK => ?_)
   go_simp
   exact hK _ _ ⟨rfl,hM⟩
  ·cases ho9
   have r35 := hD.on 3 35 _ rfl (getD_true (hd9 ⟨3,.data⟩ (by simp) rfl))
   have hM0 := hM
   have c9_0 := hM0.cellAt (b := w.heap.size) (cs := #[.int .i64 E,.int .i64 F]) (t := 23) (by simp) 1 _ rfl
   clear hM0
   clear hD hd9 hi9
   refine wpOp_step rfl (fun K hK => ?_)
   go_simp
   exact hK _ _ ⟨rfl,hM⟩
  ·cases ho9
   have r34 := hD.on 2 34 _ rfl (getD_true (hd9 ⟨2,.data⟩ (by simp) rfl))
   have r36 := hD.on 4 36 _ rfl (getD_true (hd9 ⟨4,.data⟩ (by simp) rfl))
   clear hD hd9 hi9
   refine wpOp_step rfl (fun K hK => ?_)
   go_simp
   exact hK _ _ ⟨act_eq (by (show Value.int _ _ = Value.int _ _; congr 1; (first | rfl | omega | (rw [IntKind.wrap_i64]; omega) | (rw [IntKind.wrap_u64]; omega)))),hM⟩
  ·cases ho9
   have r37 := hD.on 5 37 _ rfl (getD_true (hd9 ⟨5,.data⟩ (by simp) rfl))
   clear hD hd9 hi9
   refine wpOp_step rfl (fun K hK => ?_)
   go_simp
   exact hK _ _ ⟨rfl,hM⟩
 ·intro l9 W9 hl9 hM
  clear hl9
  clear hS z4_0_0 z4_0_1 z4_1_0 z4_1_1 z4_1_2
  have hS := hM
  clear hM
  simp only [Puts.lay,List.setIfInBounds_toArray,List.set_cons_zero,List.set_cons_succ]
  obtain ⟨⟨z5_0_0,z5_0_1,-⟩,⟨z5_1_0,z5_1_1,z5_1_2,-⟩,-⟩ := hS.cells
  go_wp2_with fail
  refine wp_region_any (by kernel_rfl) ?_
  refine wpAny_det [some (50,.int .i64 k),some (51,.pointer (some ⟨w.heap.size,1,none⟩)),some (52,.int .i64 F),some (53,.int .i64 ((F : Int) + 1)),some (54,.bool false),some (55,.bool false),some (56,.pointer (some ⟨w.heap.size + 1,2,none⟩)),some (57,.int .i64 x),some (58,.int .i64 L),some (59,.bool false),some (60,.bool false),some (61,.bool false),some (62,.int .i64 L),some (63,.pointer (some ⟨w.heap.size,0,none⟩)),some (64,.int .i64 E),some (65,.int .u64 E),some (66,.int .i64 (2 * (B : Int) + 2)),some (67,.int .i64 (2 * (B : Int))),some (68,.agg #[.int .i64 E,.int .i64 F]),some (69,.int .i64 B),some (70,.int .i64 B),some (71,.pointer (some ⟨w.heap.size,1,none⟩)),some (72,.int .i64 F),some (73,.int .i64 ((B : Int) - (F : Int))),some (74,.bool false),some (75,.bool false)]
   (fun _ W9 => Fs w W9 [⟨w.heap.size,#[.int .i64 E,.int .i64 F],23⟩,⟨w.heap.size + 1,#[.bool true,.slice a n cap,.int .i64 x],28⟩]) _ _ rfl (by kernel_rfl) rfl rfl ?_ ?_ (hS).drew
  ·intro l9 t9 W9 i9 hD hi9 hl9 hM
   obtain ⟨o9,ho9,hd9⟩ := (mem_ready.1 hi9).2
   have hin9 : i9 < 26 := by
    by_cases h : i9 < 26
    ·exact h
    ·rw [Array.getElem?_eq_none (by rw [hD.len]; simp; omega)] at hl9; cases hl9
   have hcase : i9 = 0 ∨ i9 = 1 ∨ i9 = 2 ∨ i9 = 3 ∨ i9 = 4 ∨ i9 = 5 ∨ i9 = 6 ∨ i9 = 7 ∨ i9 = 8 ∨ i9 = 9 ∨ i9 = 10 ∨ i9 = 11 ∨ i9 = 12 ∨ i9 = 13 ∨ i9 = 14 ∨ i9 = 15 ∨ i9 = 16 ∨ i9 = 17 ∨ i9 = 18 ∨ i9 = 19 ∨ i9 = 20 ∨ i9 = 21 ∨ i9 = 22 ∨ i9 = 23 ∨ i9 = 24 ∨ i9 = 25 := by omega
   clear hin9
   rcases hcase with rfl | rfl | rfl | rfl | rfl | rfl | rfl | rfl | rfl | rfl | rfl | rfl | rfl | rfl | rfl | rfl | rfl | rfl | rfl | rfl | rfl | rfl | rfl | rfl | rfl | rfl
   ·cases ho9
    have r8 := hD.old 8 _ rfl rfl
    clear hD hd9 hi9
    refine wpOp_step rfl (fun K hK => ?_)
    go_simp
    exact hK _ _ ⟨rfl,hM⟩
   ·cases ho9
    have r2 := hD.old 2 _ rfl rfl
    clear hD hd9 hi9
    refine wpOp_step rfl (fun K hK => ?_)
    go_simp
    exact hK _ _ ⟨rfl,hM⟩
   ·cases ho9
    have r51 := hD.on 1 51 _ rfl (getD_true (hd9 ⟨1,.data⟩ (by simp) rfl))
    have hM0 := hM
    have c9_0 := hM0.cellAt (b := w.heap.size) (cs := #[.int .i64 E,.int .i64 F]) (t := 23) (by simp) 1 _ rfl
    clear hM0
    clear hD hd9 hi9
    refine wpOp_step rfl (fun K hK => ?_)
    go_simp
    exact hK _ _ ⟨rfl,hM⟩
   ·cases ho9
    have r52 := hD.on 2 52 _ rfl (getD_true (hd9 ⟨2,.data⟩ (by simp) rfl))
    clear hD hd9 hi9
    refine wpOp_step rfl (fun K hK => ?_)
    go_simp
    exact hK _ _ ⟨act_eq (by (show Value.int _ _ = Value.int _ _; congr 1; (first | rfl | omega | (rw [IntKind.wrap_i64]; omega) | (rw [IntKind.wrap_u64]; omega)))),hM⟩
   ·cases ho9
    have r50 := hD.on 0 50 _ rfl (getD_true (hd9 ⟨0,.data⟩ (by simp) rfl))
    have r53 := hD.on 3 53 _ rfl (getD_true (hd9 ⟨3,.data⟩ (by simp) rfl))
    clear hD hd9 hi9
    refine wpOp_step rfl (fun K hK => ?_)
    go_simp
    exact hK _ _ ⟨act_eq (by (show Value.bool _ = Value.bool _; first | rfl | (congr 1; first | (exact decide_eq_true (by omega)) | (exact decide_eq_false (by omega)) | (simp; done) | (simp; omega)))),hM⟩
   ·cases ho9
    have r54 := hD.on 4 54 _ rfl (getD_true (hd9 ⟨4,.data⟩ (by simp) rfl))
    clear hD hd9 hi9
    refine wpOp_step rfl (fun K hK => ?_)
    go_simp
    exact hK _ _ ⟨rfl,hM⟩
   ·cases ho9
    have r55 := hD.on 5 55 _ rfl (getD_true (hd9 ⟨5,.guard⟩ (by simp) rfl))
    have r3 := hD.old 3 _ rfl rfl
    clear hD hd9 hi9
    refine wpOp_step rfl (fun K hK => ?_)
    go_simp
    exact hK _ _ ⟨rfl,hM⟩
   ·cases ho9
    have r55 := hD.on 5 55 _ rfl (getD_true (hd9 ⟨5,.guard⟩ (by simp) rfl))
    have r56 := hD.on 6 56 _ rfl (getD_true (hd9 ⟨6,.data⟩ (by simp) rfl))
    have hM0 := hM
    have c9_0 := hM0.cellAt (b := w.heap.size + 1) (cs := #[.bool true,.slice a n cap,.int .i64 x]) (t := 28) (by simp) 2 _ rfl
    clear hM0
    clear hD hd9 hi9
    refine wpOp_step rfl (fun K hK => ?_)
    go_simp
    exact hK _ _ ⟨rfl,hM⟩
   ·cases ho9
    have r55 := hD.on 5 55 _ rfl (getD_true (hd9 ⟨5,.guard⟩ (by simp) rfl))
    have r11 := hD.old 11 _ rfl rfl
    clear hD hd9 hi9
    refine wpOp_step rfl (fun K hK => ?_)
    go_simp
    exact hK _ _ ⟨rfl,hM⟩
   ·cases ho9
    have r55 := hD.on 5 55 _ rfl (getD_true (hd9 ⟨5,.guard⟩ (by simp) rfl))
    have r57 := hD.on 7 57 _ rfl (getD_true (hd9 ⟨7,.data⟩ (by simp) rfl))
    have r58 := hD.on 8 58 _ rfl (getD_true (hd9 ⟨8,.data⟩ (by simp) rfl))
    clear hD hd9 hi9
    refine wpOp_step rfl (fun K hK => ?_)
    go_simp
    exact hK _ _ ⟨act_eq (by (show Value.bool _ = Value.bool _; first | rfl | (congr 1; first | (exact decide_eq_true (by omega)) | (exact decide_eq_false (by omega)) | (simp; done) | (simp; omega)))),hM⟩
   ·cases ho9
    have r55 := hD.on 5 55 _ rfl (getD_true (hd9 ⟨5,.data⟩ (by simp) rfl))
    have r59 := hD.on 9 59 _ rfl (getD_true (hd9 ⟨9,.data⟩ (by simp) rfl))
    clear hD hd9 hi9
    refine wpOp_step rfl (fun K hK => ?_)
    go_simp
    exact hK _ _ ⟨rfl,hM⟩
   ·cases ho9
    have r60 := hD.on 10 60 _ rfl (getD_true (hd9 ⟨10,.data⟩ (by simp) rfl))
    clear hD hd9 hi9
    refine wpOp_step rfl (fun K hK => ?_)
    go_simp
    exact hK _ _ ⟨rfl,hM⟩
   ·cases ho9
    have r61 := hD.on 11 61 _ rfl (getD_true (hd9 ⟨11,.guard⟩ (by simp) rfl))
    have r11 := hD.old 11 _ rfl rfl
    clear hD hd9 hi9
    refine wpOp_step rfl (fun K hK => ?_)
    go_simp
    exact hK _ _ ⟨rfl,hM⟩
   ·cases ho9
    have r61 := hD.on 11 61 _ rfl (getD_true (hd9 ⟨11,.guard⟩ (by simp) rfl))
    have r2 := hD.old 2 _ rfl rfl
    clear hD hd9 hi9
    refine wpOp_step rfl (fun K hK => ?_)
    go_simp
    exact hK _ _ ⟨rfl,hM⟩
   ·cases ho9
    have r61 := hD.on 11 61 _ rfl (getD_true (hd9 ⟨11,.guard⟩ (by simp) rfl))
    have r63 := hD.on 13 63 _ rfl (getD_true (hd9 ⟨13,.data⟩ (by simp) rfl))
    have hM0 := hM
    have c9_0 := hM0.cellAt (b := w.heap.size) (cs := #[.int .i64 E,.int .i64 F]) (t := 23) (by simp) 0 _ rfl
    clear hM0
    clear hD hd9 hi9
    refine wpOp_step rfl (fun K hK => ?_)
    go_simp
    exact hK _ _ ⟨rfl,hM⟩
   ·cases ho9
    have r61 := hD.on 11 61 _ rfl (getD_true (hd9 ⟨11,.guard⟩ (by simp) rfl))
    have r64 := hD.on 14 64 _ rfl (getD_true (hd9 ⟨14,.data⟩ (by simp) rfl))
    clear hD hd9 hi9
    refine wpOp_step rfl (fun K hK => ?_)
    go_simp
    exact hK _ _ ⟨act_eq (by (show Value.int _ _ = Value.int _ _; congr 1; (first | rfl | omega | (rw [IntKind.wrap_i64]; omega) | (rw [IntKind.wrap_u64]; omega)))),hM⟩
   ·cases ho9
    have r61 := hD.on 11 61 _ rfl (getD_true (hd9 ⟨11,.guard⟩ (by simp) rfl))
    have r65 := hD.on 15 65 _ rfl (getD_true (hd9 ⟨15,.data⟩ (by simp) rfl))
    clear hD hd9 hi9
    refine wpOp_step rfl (fun K hK => ?_)
    go_simp
    exact hK _ _ ⟨act_eq (by (show Value.int _ _ = Value.int _ _; first | rfl | (congr 1; first | exact hE2B | simpa using hE2B))),hM⟩
   ·cases ho9
    have r61 := hD.on 11 61 _ rfl (getD_true (hd9 ⟨11,.guard⟩ (by simp) rfl))
    have r66 := hD.on 16 66 _ rfl (getD_true (hd9 ⟨16,.data⟩ (by simp) rfl))
    clear hD hd9 hi9
    refine wpOp_step rfl (fun K hK => ?_)
    go_simp
    exact hK _ _ ⟨act_eq (by (show Value.int _ _ = Value.int _ _; congr 1; (first | rfl | omega | (rw [IntKind.wrap_i64]; omega) | (rw [IntKind.wrap_u64]; omega)))),hM⟩
   ·cases ho9
    have r61 := hD.on 11 61 _ rfl (getD_true (hd9 ⟨11,.guard⟩ (by simp) rfl))
    have r2 := hD.old 2 _ rfl rfl
    have hM0 := hM
    have c9_0 := hM0.cellAt (b := w.heap.size) (cs := #[.int .i64 E,.int .i64 F]) (t := 23) (by simp) 0 _ rfl
    have c9_1 := hM0.cellAt (b := w.heap.size) (cs := #[.int .i64 E,.int .i64 F]) (t := 23) (by simp) 1 _ rfl
    clear hM0
    clear hD hd9 hi9
    refine wpOp_step rfl (fun K hK => ?_)
    go_simp
    exact hK _ _ ⟨rfl,hM⟩
   ·cases ho9
    have r61 := hD.on 11 61 _ rfl (getD_true (hd9 ⟨11,.chain⟩ (by simp) rfl))
    have r68 := hD.on 18 68 _ rfl (getD_true (hd9 ⟨18,.data⟩ (by simp) rfl))
    clear hD hd9 hi9
    refine wpOp_step rfl (fun K hK => ?_)
    go_simp
    go_wp2_with fail
    refine (rbias_any E F B (unhide H0) HB _).mono ?_
    rintro en w9 ⟨rfl,hb9⟩
    exact hK _ _ ⟨rfl,hM.kept hb9⟩
   ·cases ho9
    have r61 := hD.on 11 61 _ rfl (getD_true (hd9 ⟨11,.guard⟩ (by simp) rfl))
    have r67 := hD.on 17 67 _ rfl (getD_true (hd9 ⟨17,.data⟩ (by simp) rfl))
    have r69 := hD.on 19 69 _ rfl (getD_true (hd9 ⟨19,.data⟩ (by simp) rfl))
    clear hD hd9 hi9
    refine wpOp_step rfl (fun K hK => ?_)
    go_simp
    exact hK _ _ ⟨act_eq (by (show Value.int _ _ = Value.int _ _; congr 1; (first | rfl | omega | (rw [IntKind.wrap_i64]; omega) | (rw [IntKind.wrap_u64]; omega)))),hM⟩
   ·cases ho9
    have r61 := hD.on 11 61 _ rfl (getD_true (hd9 ⟨11,.guard⟩ (by simp) rfl))
    have r2 := hD.old 2 _ rfl rfl
    clear hD hd9 hi9
    refine wpOp_step rfl (fun K hK => ?_)
    go_simp
    exact hK _ _ ⟨rfl,hM⟩
   ·cases ho9
    have r61 := hD.on 11 61 _ rfl (getD_true (hd9 ⟨11,.guard⟩ (by simp) rfl))
    have r71 := hD.on 21 71 _ rfl (getD_true (hd9 ⟨21,.data⟩ (by simp) rfl))
    have hM0 := hM
    have c9_0 := hM0.cellAt (b := w.heap.size) (cs := #[.int .i64 E,.int .i64 F]) (t := 23) (by simp) 1 _ rfl
    clear hM0
    clear hD hd9 hi9
    refine wpOp_step rfl (fun K hK => ?_)
    go_simp
    exact hK _ _ ⟨rfl,hM⟩
   ·cases ho9
    have r61 := hD.on 11 61 _ rfl (getD_true (hd9 ⟨11,.guard⟩ (by simp) rfl))
    have r70 := hD.on 20 70 _ rfl (getD_true (hd9 ⟨20,.data⟩ (by simp) rfl))
    have r72 := hD.on 22 72 _ rfl (getD_true (hd9 ⟨22,.data⟩ (by simp) rfl))
    clear hD hd9 hi9
    refine wpOp_step rfl (fun K hK => ?_)
    go_simp
    exact hK _ _ ⟨act_eq (by (show Value.int _ _ = Value.int _ _; congr 1; (first | rfl | omega | (rw [IntKind.wrap_i64]; omega) | (rw [IntKind.wrap_u64]; omega)))),hM⟩
   ·cases ho9
    have r61 := hD.on 11 61 _ rfl (getD_true (hd9 ⟨11,.guard⟩ (by simp) rfl))
    have r62 := hD.on 12 62 _ rfl (getD_true (hd9 ⟨12,.data⟩ (by simp) rfl))
    have r73 := hD.on 23 73 _ rfl (getD_true (hd9 ⟨23,.data⟩ (by simp) rfl))
    clear hD hd9 hi9
    refine wpOp_step rfl (fun K hK => ?_)
    go_simp
    exact hK _ _ ⟨act_eq (by (show Value.bool _ = Value.bool _; first | rfl | (congr 1; first | (exact decide_eq_true (by omega)) | (exact decide_eq_false (by omega)) | (simp; done) | (simp; omega)))),hM⟩
   ·cases ho9
    have r61 := hD.on 11 61 _ rfl (getD_true (hd9 ⟨11,.data⟩ (by simp) rfl))
    have r74 := hD.on 24 74 _ rfl (getD_true (hd9 ⟨24,.data⟩ (by simp) rfl))
    clear hD hd9 hi9
    refine wpOp_step rfl (fun K hK => ?_)
    go_simp
    exact hK _ _ ⟨rfl,hM⟩
  ·intro l9 W9 hl9 hM
   clear hl9
   clear hS z5_0_0 z5_0_1 z5_1_0 z5_1_1 z5_1_2
   have hS := hM
   clear hM
   simp only [Puts.lay,List.setIfInBounds_toArray,List.set_cons_zero,List.set_cons_succ]
   obtain ⟨⟨z6_0_0,z6_0_1,-⟩,⟨z6_1_0,z6_1_1,z6_1_2,-⟩,-⟩ := hS.cells
   go_wp2_with fail
   refine (rlow_small a n cap m _ ((unhide H).kept hS.fr) hn2).mono ?_
   rintro e w5 ⟨rfl,hb5⟩
   replace hS := hS.kept hb5
   clear z6_0_0 z6_0_1 z6_1_0 z6_1_1 z6_1_2
   obtain ⟨⟨z7_0_0,z7_0_1,-⟩,⟨z7_1_0,z7_1_1,z7_1_2,-⟩,-⟩ := hS.cells
   have eB2 : IntKind.u64.wrap ((N : Int) + (pS : Int)) = (b : Int) := by rw [IntKind.wrap_u64]; omega
   go_wp2
   exact bodyPost_ret (v := .tuple #[.int .u64 (b : Int),.bool true,.int .i64 0]) (by simp [results,Try.results4,go_sem]) rfl ⟨rfl,hS.fr⟩
set_option maxHeartbeats 2000000 in
theorem rBits_hi_t0_false (E F B : Nat) (h0 : Fo E F) (HB : Hid (B = 2 ^ (E - 1) - 1)) (a : Option Addr) (n cap m k : Nat) (x L t0 : Int) (j N pF fr ex X : Nat) (w : World) (h : Num w a n m) (hn : 0 < n) (hm : m % 2 = 1) (hx : -1073741824 ≤ x ∧ x ≤ 1073741824) (hk : Bl m k) (_hk2 : k ≤ 524288) (_hk1 : 0 < k) (hL : 1 - (B : Int) - (F : Int) = L) (ht0 : x + (k : Int) - 1 - (F : Int) = t0) (_h4 : k ≤ F + 1) (h9 : t0 ≤ x) (h24 : t0 ≤ (B : Int) - (F : Int)) (hj : x - t0 = (j : Int)) (hj52 : j ≤ 52) (hN : N < 18446744073709551616) (eN : IntKind.u64.wrap ((m : Int) * 2 ^ j) = (N : Int)) (hn2 : n ≤ 2) (eF : IntKind.u64.wrap (2 ^ F) = (pF : Int)) (hp : pF ≤ 4503599627370496) (hhi : pF ≤ N) (hfr : fr + pF = N) (hex : t0 + (B : Int) + (F : Int) = (ex : Int)) (eX : IntKind.u64.wrap ((ex : Int) * 2 ^ F) = (X : Int)) (hX : X < 18446744073709551616) (hY : fr + X < 18446744073709551616) (hc : L ≤ t0) :
  Calls Try.prog 4 #[.agg #[.int .i64 E,.int .i64 F],.agg #[.bool false,.slice a n cap,.int .i64 x]] w fun e w' => e = .returned (.tuple #[.int .u64 ((fr : Int) + (X : Int)),.bool true,.int .i64 0]) ∧ Below w.heap.size w w' := by
 have H := hide h
 have HM := hide hm
 have HK := hide hk
 have hB : B ≤ 1023 := B_le h0 HB
 have hF := h0.f52
 have hF1 := h0.f1
 have hE := h0.e11
 have hE2 := h0.e2
 have hE2B : IntKind.i64.wrap (2 ^ E) = 2 * (B : Int) + 2 := by
  have h3 := (B_two h0 HB).1
  have e : ((2 : Int) ^ E) = ((2 ^ E : Nat) : Int) := by simp
  rw [e,h3,IntKind.wrap_i64]
  omega
 have H0 := hide h0
 clear h h0 hm hk
 go_enter Try.func4,Try.ntmps4
 go_wp2_with fail
 refine (rmay_zero _ _ (unhide H0) _).mono ?_
 rintro e w1 ⟨rfl,hb1⟩
 have hS := (Fs.two w _ _ _ _).kept hb1
 obtain ⟨⟨z1_0_0,z1_0_1,-⟩,⟨z1_1_0,z1_1_1,z1_1_2,-⟩,-⟩ := hS.cells
 go_wp2_with fail
 refine (drcheck_good false a n cap m x _ ((unhide H).kept hS.fr) hn (unhide HM) hx).mono ?_
 rintro e w2 ⟨rfl,hb2⟩
 replace hS := hS.kept hb2
 clear z1_0_0 z1_0_1 z1_1_0 z1_1_1 z1_1_2
 obtain ⟨⟨z2_0_0,z2_0_1,-⟩,⟨z2_1_0,z2_1_1,z2_1_2,-⟩,-⟩ := hS.cells
 go_wp2_with fail
 refine (rnone_no a n cap hn _).mono ?_
 rintro e w3 ⟨rfl,hb3⟩
 replace hS := hS.kept hb3
 clear z2_0_0 z2_0_1 z2_1_0 z2_1_1 z2_1_2
 obtain ⟨⟨z3_0_0,z3_0_1,-⟩,⟨z3_1_0,z3_1_1,z3_1_2,-⟩,-⟩ := hS.cells
 go_wp2_with fail
 refine (rbits_k a n cap m k _ ((unhide H).kept hS.fr) (unhide HK)).mono ?_
 rintro e w4 ⟨rfl,hb4⟩
 replace hS := hS.kept hb4
 clear z3_0_0 z3_0_1 z3_1_0 z3_1_1 z3_1_2
 obtain ⟨⟨z4_0_0,z4_0_1,-⟩,⟨z4_1_0,z4_1_1,z4_1_2,-⟩,-⟩ := hS.cells
 go_wp2_with fail
 refine wp_region_any (by kernel_rfl) ?_
 refine wpAny_det [some (32,.agg #[.int .i64 E,.int .i64 F]),some (33,.int .i64 B),some (34,.int .i64 (1 - (B : Int))),some (35,.pointer (some ⟨w.heap.size,1,none⟩)),some (36,.int .i64 F),some (37,.int .i64 L),some (10,.int .i64 L)]
  (fun _ W9 => Fs w W9 [⟨w.heap.size,#[.int .i64 E,.int .i64 F],23⟩,⟨w.heap.size + 1,#[.bool false,.slice a n cap,.int .i64 x],28⟩]) _ _ rfl (by kernel_rfl) rfl rfl ?_ ?_ (hS).drew
 ·intro l9 t9 W9 i9 hD hi9 hl9 hM
  obtain ⟨o9,ho9,hd9⟩ := (mem_ready.1 hi9).2
  have hin9 : i9 < 7 := by
   by_cases h : i9 < 7
   ·exact h
   ·rw [Array.getElem?_eq_none (by rw [hD.len]; simp; omega)] at hl9; cases hl9
  have hcase : i9 = 0 ∨ i9 = 1 ∨ i9 = 2 ∨ i9 = 3 ∨ i9 = 4 ∨ i9 = 5 ∨ i9 = 6 := by omega
  clear hin9
  rcases hcase with rfl | rfl | rfl | rfl | rfl | rfl | rfl
  ·cases ho9
   have r2 := hD.old 2 _ rfl rfl
   have hM0 := hM
   have c9_0 := hM0.cellAt (b := w.heap.size) (cs := #[.int .i64 E,.int .i64 F]) (t := 23) (by simp) 0 _ rfl
   have c9_1 := hM0.cellAt (b := w.heap.size) (cs := #[.int .i64 E,.int .i64 F]) (t := 23) (by simp) 1 _ rfl
   clear hM0
   clear hD hd9 hi9
   refine wpOp_step rfl (fun K hK => ?_)
   go_simp
   exact hK _ _ ⟨rfl,hM⟩
  ·cases ho9
   have r32 := hD.on 0 32 _ rfl (getD_true (hd9 ⟨0,.data⟩ (by simp) rfl))
   clear hD hd9 hi9
   refine wpOp_step rfl (fun K hK => ?_)
   go_simp
   go_wp2_with fail
   refine (rbias_any E F B (unhide H0) HB _).mono ?_
   rintro en w9 ⟨rfl,hb9⟩
   exact hK _ _ ⟨rfl,hM.kept hb9⟩
  ·cases ho9
   have r33 := hD.on 1 33 _ rfl (getD_true (hd9 ⟨1,.data⟩ (by simp) rfl))
   clear hD hd9 hi9
   refine wpOp_step rfl (fun K hK => ?_)
   go_simp
   exact hK _ _ ⟨act_eq (by (show Value.int _ _ = Value.int _ _; congr 1; (first | rfl | omega | (rw [IntKind.wrap_i64]; omega) | (rw [IntKind.wrap_u64]; omega)))),hM⟩
  ·cases ho9
   have r2 := hD.old 2 _ rfl rfl
   clear hD hd9 hi9
   refine wpOp_step rfl (fun K hK => ?_)
   go_simp
   exact hK _ _ ⟨rfl,hM⟩
  ·cases ho9
   have r35 := hD.on 3 35 _ rfl (getD_true (hd9 ⟨3,.data⟩ (by simp) rfl))
   have hM0 := hM
   have c9_0 := hM0.cellAt (b := w.heap.size) (cs := #[.int .i64 E,.int .i64 F]) (t := 23) (by simp) 1 _ rfl
   clear hM0
   clear hD hd9 hi9
   refine wpOp_step rfl (fun K hK => ?_)
   go_simp
   exact hK _ _ ⟨rfl,hM⟩
  ·cases ho9
   have r34 := hD.on 2 34 _ rfl (getD_true (hd9 ⟨2,.data⟩ (by simp) rfl))
   have r36 := hD.on 4 36 _ rfl (getD_true (hd9 ⟨4,.data⟩ (by simp) rfl))
   clear hD hd9 hi9
   refine wpOp_step rfl (fun K hK => ?_)
   go_simp
   exact hK _ _ ⟨act_eq (by (show Value.int _ _ = Value.int _ _; congr 1; (first | rfl | omega | (rw [IntKind.wrap_i64]; omega) | (rw [IntKind.wrap_u64]; omega)))),hM⟩
  ·cases ho9
   have r37 := hD.on 5 37 _ rfl (getD_true (hd9 ⟨5,.data⟩ (by simp) rfl))
   clear hD hd9 hi9
   refine wpOp_step rfl (fun K hK => ?_)
   go_simp
   exact hK _ _ ⟨rfl,hM⟩
 ·intro l9 W9 hl9 hM
  clear hl9
  clear hS z4_0_0 z4_0_1 z4_1_0 z4_1_1 z4_1_2
  have hS := hM
  clear hM
  simp only [Puts.lay,List.setIfInBounds_toArray,List.set_cons_zero,List.set_cons_succ]
  obtain ⟨⟨z5_0_0,z5_0_1,-⟩,⟨z5_1_0,z5_1_1,z5_1_2,-⟩,-⟩ := hS.cells
  go_wp2_with fail
  refine wp_region_any (by kernel_rfl) ?_
  refine wpAny_det [some (50,.int .i64 k),some (51,.pointer (some ⟨w.heap.size,1,none⟩)),some (52,.int .i64 F),some (53,.int .i64 ((F : Int) + 1)),some (54,.bool false),some (55,.bool false),some (56,.pointer (some ⟨w.heap.size + 1,2,none⟩)),some (57,.int .i64 x),some (58,.int .i64 t0),some (59,.bool false),some (60,.bool false),some (61,.bool false),some (62,.int .i64 t0),some (63,.pointer (some ⟨w.heap.size,0,none⟩)),some (64,.int .i64 E),some (65,.int .u64 E),some (66,.int .i64 (2 * (B : Int) + 2)),some (67,.int .i64 (2 * (B : Int))),some (68,.agg #[.int .i64 E,.int .i64 F]),some (69,.int .i64 B),some (70,.int .i64 B),some (71,.pointer (some ⟨w.heap.size,1,none⟩)),some (72,.int .i64 F),some (73,.int .i64 ((B : Int) - (F : Int))),some (74,.bool false),some (75,.bool false)]
   (fun _ W9 => Fs w W9 [⟨w.heap.size,#[.int .i64 E,.int .i64 F],23⟩,⟨w.heap.size + 1,#[.bool false,.slice a n cap,.int .i64 x],28⟩]) _ _ rfl (by kernel_rfl) rfl rfl ?_ ?_ (hS).drew
  ·intro l9 t9 W9 i9 hD hi9 hl9 hM
   obtain ⟨o9,ho9,hd9⟩ := (mem_ready.1 hi9).2
   have hin9 : i9 < 26 := by
    by_cases h : i9 < 26
    ·exact h
    ·rw [Array.getElem?_eq_none (by rw [hD.len]; simp; omega)] at hl9; cases hl9
   have hcase : i9 = 0 ∨ i9 = 1 ∨ i9 = 2 ∨ i9 = 3 ∨ i9 = 4 ∨ i9 = 5 ∨ i9 = 6 ∨ i9 = 7 ∨ i9 = 8 ∨ i9 = 9 ∨ i9 = 10 ∨ i9 = 11 ∨ i9 = 12 ∨ i9 = 13 ∨ i9 = 14 ∨ i9 = 15 ∨ i9 = 16 ∨ i9 = 17 ∨ i9 = 18 ∨ i9 = 19 ∨ i9 = 20 ∨ i9 = 21 ∨ i9 = 22 ∨ i9 = 23 ∨ i9 = 24 ∨ i9 = 25 := by omega
   clear hin9
   rcases hcase with rfl | rfl | rfl | rfl | rfl | rfl | rfl | rfl | rfl | rfl | rfl | rfl | rfl | rfl | rfl | rfl | rfl | rfl | rfl | rfl | rfl | rfl | rfl | rfl | rfl | rfl
   ·cases ho9
    have r8 := hD.old 8 _ rfl rfl
    clear hD hd9 hi9
    refine wpOp_step rfl (fun K hK => ?_)
    go_simp
    exact hK _ _ ⟨rfl,hM⟩
   ·cases ho9
    have r2 := hD.old 2 _ rfl rfl
    clear hD hd9 hi9
    refine wpOp_step rfl (fun K hK => ?_)
    go_simp
    exact hK _ _ ⟨rfl,hM⟩
   ·cases ho9
    have r51 := hD.on 1 51 _ rfl (getD_true (hd9 ⟨1,.data⟩ (by simp) rfl))
    have hM0 := hM
    have c9_0 := hM0.cellAt (b := w.heap.size) (cs := #[.int .i64 E,.int .i64 F]) (t := 23) (by simp) 1 _ rfl
    clear hM0
    clear hD hd9 hi9
    refine wpOp_step rfl (fun K hK => ?_)
    go_simp
    exact hK _ _ ⟨rfl,hM⟩
   ·cases ho9
    have r52 := hD.on 2 52 _ rfl (getD_true (hd9 ⟨2,.data⟩ (by simp) rfl))
    clear hD hd9 hi9
    refine wpOp_step rfl (fun K hK => ?_)
    go_simp
    exact hK _ _ ⟨act_eq (by (show Value.int _ _ = Value.int _ _; congr 1; (first | rfl | omega | (rw [IntKind.wrap_i64]; omega) | (rw [IntKind.wrap_u64]; omega)))),hM⟩
   ·cases ho9
    have r50 := hD.on 0 50 _ rfl (getD_true (hd9 ⟨0,.data⟩ (by simp) rfl))
    have r53 := hD.on 3 53 _ rfl (getD_true (hd9 ⟨3,.data⟩ (by simp) rfl))
    clear hD hd9 hi9
    refine wpOp_step rfl (fun K hK => ?_)
    go_simp
    exact hK _ _ ⟨act_eq (by (show Value.bool _ = Value.bool _; first | rfl | (congr 1; first | (exact decide_eq_true (by omega)) | (exact decide_eq_false (by omega)) | (simp; done) | (simp; omega)))),hM⟩
   ·cases ho9
    have r54 := hD.on 4 54 _ rfl (getD_true (hd9 ⟨4,.data⟩ (by simp) rfl))
    clear hD hd9 hi9
    refine wpOp_step rfl (fun K hK => ?_)
    go_simp
    exact hK _ _ ⟨rfl,hM⟩
   ·cases ho9
    have r55 := hD.on 5 55 _ rfl (getD_true (hd9 ⟨5,.guard⟩ (by simp) rfl))
    have r3 := hD.old 3 _ rfl rfl
    clear hD hd9 hi9
    refine wpOp_step rfl (fun K hK => ?_)
    go_simp
    exact hK _ _ ⟨rfl,hM⟩
   ·cases ho9
    have r55 := hD.on 5 55 _ rfl (getD_true (hd9 ⟨5,.guard⟩ (by simp) rfl))
    have r56 := hD.on 6 56 _ rfl (getD_true (hd9 ⟨6,.data⟩ (by simp) rfl))
    have hM0 := hM
    have c9_0 := hM0.cellAt (b := w.heap.size + 1) (cs := #[.bool false,.slice a n cap,.int .i64 x]) (t := 28) (by simp) 2 _ rfl
    clear hM0
    clear hD hd9 hi9
    refine wpOp_step rfl (fun K hK => ?_)
    go_simp
    exact hK _ _ ⟨rfl,hM⟩
   ·cases ho9
    have r55 := hD.on 5 55 _ rfl (getD_true (hd9 ⟨5,.guard⟩ (by simp) rfl))
    have r11 := hD.old 11 _ rfl rfl
    clear hD hd9 hi9
    refine wpOp_step rfl (fun K hK => ?_)
    go_simp
    exact hK _ _ ⟨rfl,hM⟩
   ·cases ho9
    have r55 := hD.on 5 55 _ rfl (getD_true (hd9 ⟨5,.guard⟩ (by simp) rfl))
    have r57 := hD.on 7 57 _ rfl (getD_true (hd9 ⟨7,.data⟩ (by simp) rfl))
    have r58 := hD.on 8 58 _ rfl (getD_true (hd9 ⟨8,.data⟩ (by simp) rfl))
    clear hD hd9 hi9
    refine wpOp_step rfl (fun K hK => ?_)
    go_simp
    exact hK _ _ ⟨act_eq (by (show Value.bool _ = Value.bool _; first | rfl | (congr 1; first | (exact decide_eq_true (by omega)) | (exact decide_eq_false (by omega)) | (simp; done) | (simp; omega)))),hM⟩
   ·cases ho9
    have r55 := hD.on 5 55 _ rfl (getD_true (hd9 ⟨5,.data⟩ (by simp) rfl))
    have r59 := hD.on 9 59 _ rfl (getD_true (hd9 ⟨9,.data⟩ (by simp) rfl))
    clear hD hd9 hi9
    refine wpOp_step rfl (fun K hK => ?_)
    go_simp
    exact hK _ _ ⟨rfl,hM⟩
   ·cases ho9
    have r60 := hD.on 10 60 _ rfl (getD_true (hd9 ⟨10,.data⟩ (by simp) rfl))
    clear hD hd9 hi9
    refine wpOp_step rfl (fun K hK => ?_)
    go_simp
    exact hK _ _ ⟨rfl,hM⟩
   ·cases ho9
    have r61 := hD.on 11 61 _ rfl (getD_true (hd9 ⟨11,.guard⟩ (by simp) rfl))
    have r11 := hD.old 11 _ rfl rfl
    clear hD hd9 hi9
    refine wpOp_step rfl (fun K hK => ?_)
    go_simp
    exact hK _ _ ⟨rfl,hM⟩
   ·cases ho9
    have r61 := hD.on 11 61 _ rfl (getD_true (hd9 ⟨11,.guard⟩ (by simp) rfl))
    have r2 := hD.old 2 _ rfl rfl
    clear hD hd9 hi9
    refine wpOp_step rfl (fun K hK => ?_)
    go_simp
    exact hK _ _ ⟨rfl,hM⟩
   ·cases ho9
    have r61 := hD.on 11 61 _ rfl (getD_true (hd9 ⟨11,.guard⟩ (by simp) rfl))
    have r63 := hD.on 13 63 _ rfl (getD_true (hd9 ⟨13,.data⟩ (by simp) rfl))
    have hM0 := hM
    have c9_0 := hM0.cellAt (b := w.heap.size) (cs := #[.int .i64 E,.int .i64 F]) (t := 23) (by simp) 0 _ rfl
    clear hM0
    clear hD hd9 hi9
    refine wpOp_step rfl (fun K hK => ?_)
    go_simp
    exact hK _ _ ⟨rfl,hM⟩
   ·cases ho9
    have r61 := hD.on 11 61 _ rfl (getD_true (hd9 ⟨11,.guard⟩ (by simp) rfl))
    have r64 := hD.on 14 64 _ rfl (getD_true (hd9 ⟨14,.data⟩ (by simp) rfl))
    clear hD hd9 hi9
    refine wpOp_step rfl (fun K hK => ?_)
    go_simp
    exact hK _ _ ⟨act_eq (by (show Value.int _ _ = Value.int _ _; congr 1; (first | rfl | omega | (rw [IntKind.wrap_i64]; omega) | (rw [IntKind.wrap_u64]; omega)))),hM⟩
   ·cases ho9
    have r61 := hD.on 11 61 _ rfl (getD_true (hd9 ⟨11,.guard⟩ (by simp) rfl))
    have r65 := hD.on 15 65 _ rfl (getD_true (hd9 ⟨15,.data⟩ (by simp) rfl))
    clear hD hd9 hi9
    refine wpOp_step rfl (fun K hK => ?_)
    go_simp
    exact hK _ _ ⟨act_eq (by (show Value.int _ _ = Value.int _ _; first | rfl | (congr 1; first | exact hE2B | simpa using hE2B))),hM⟩
   ·cases ho9
    have r61 := hD.on 11 61 _ rfl (getD_true (hd9 ⟨11,.guard⟩ (by simp) rfl))
    have r66 := hD.on 16 66 _ rfl (getD_true (hd9 ⟨16,.data⟩ (by simp) rfl))
    clear hD hd9 hi9
    refine wpOp_step rfl (fun K hK => ?_)
    go_simp
    exact hK _ _ ⟨act_eq (by (show Value.int _ _ = Value.int _ _; congr 1; (first | rfl | omega | (rw [IntKind.wrap_i64]; omega) | (rw [IntKind.wrap_u64]; omega)))),hM⟩
   ·cases ho9
    have r61 := hD.on 11 61 _ rfl (getD_true (hd9 ⟨11,.guard⟩ (by simp) rfl))
    have r2 := hD.old 2 _ rfl rfl
    have hM0 := hM
    have c9_0 := hM0.cellAt (b := w.heap.size) (cs := #[.int .i64 E,.int .i64 F]) (t := 23) (by simp) 0 _ rfl
    have c9_1 := hM0.cellAt (b := w.heap.size) (cs := #[.int .i64 E,.int .i64 F]) (t := 23) (by simp) 1 _ rfl
    clear hM0
    clear hD hd9 hi9
    refine wpOp_step rfl (fun K hK => ?_)
    go_simp
    exact hK _ _ ⟨rfl,hM⟩
   ·cases ho9
    have r61 := hD.on 11 61 _ rfl (getD_true (hd9 ⟨11,.chain⟩ (by simp) rfl))
    have r68 := hD.on 18 68 _ rfl (getD_true (hd9 ⟨18,.data⟩ (by simp) rfl))
    clear hD hd9 hi9
    refine wpOp_step rfl (fun K hK => ?_)
    go_simp
    go_wp2_with fail
    refine (rbias_any E F B (unhide H0) HB _).mono ?_
    rintro en w9 ⟨rfl,hb9⟩
    exact hK _ _ ⟨rfl,hM.kept hb9⟩
   ·cases ho9
    have r61 := hD.on 11 61 _ rfl (getD_true (hd9 ⟨11,.guard⟩ (by simp) rfl))
    have r67 := hD.on 17 67 _ rfl (getD_true (hd9 ⟨17,.data⟩ (by simp) rfl))
    have r69 := hD.on 19 69 _ rfl (getD_true (hd9 ⟨19,.data⟩ (by simp) rfl))
    clear hD hd9 hi9
    refine wpOp_step rfl (fun K hK => ?_)
    go_simp
    exact hK _ _ ⟨act_eq (by (show Value.int _ _ = Value.int _ _; congr 1; (first | rfl | omega | (rw [IntKind.wrap_i64]; omega) | (rw [IntKind.wrap_u64]; omega)))),hM⟩
   ·cases ho9
    have r61 := hD.on 11 61 _ rfl (getD_true (hd9 ⟨11,.guard⟩ (by simp) rfl))
    have r2 := hD.old 2 _ rfl rfl
    clear hD hd9 hi9
    refine wpOp_step rfl (fun K hK => ?_)
    go_simp
    exact hK _ _ ⟨rfl,hM⟩
   ·cases ho9
    have r61 := hD.on 11 61 _ rfl (getD_true (hd9 ⟨11,.guard⟩ (by simp) rfl))
    have r71 := hD.on 21 71 _ rfl (getD_true (hd9 ⟨21,.data⟩ (by simp) rfl))
    have hM0 := hM
    have c9_0 := hM0.cellAt (b := w.heap.size) (cs := #[.int .i64 E,.int .i64 F]) (t := 23) (by simp) 1 _ rfl
    clear hM0
    clear hD hd9 hi9
    refine wpOp_step rfl (fun K hK => ?_)
    go_simp
    exact hK _ _ ⟨rfl,hM⟩
   ·cases ho9
    have r61 := hD.on 11 61 _ rfl (getD_true (hd9 ⟨11,.guard⟩ (by simp) rfl))
    have r70 := hD.on 20 70 _ rfl (getD_true (hd9 ⟨20,.data⟩ (by simp) rfl))
    have r72 := hD.on 22 72 _ rfl (getD_true (hd9 ⟨22,.data⟩ (by simp) rfl))
    clear hD hd9 hi9
    refine wpOp_step rfl (fun K hK => ?_)
    go_simp
    exact hK _ _ ⟨act_eq (by (show Value.int _ _ = Value.int _ _; congr 1; (first | rfl | omega | (rw [IntKind.wrap_i64]; omega) | (rw [IntKind.wrap_u64]; omega)))),hM⟩
   ·cases ho9
    have r61 := hD.on 11 61 _ rfl (getD_true (hd9 ⟨11,.guard⟩ (by simp) rfl))
    have r62 := hD.on 12 62 _ rfl (getD_true (hd9 ⟨12,.data⟩ (by simp) rfl))
    have r73 := hD.on 23 73 _ rfl (getD_true (hd9 ⟨23,.data⟩ (by simp) rfl))
    clear hD hd9 hi9
    refine wpOp_step rfl (fun K hK => ?_)
    go_simp
    exact hK _ _ ⟨act_eq (by (show Value.bool _ = Value.bool _; first | rfl | (congr 1; first | (exact decide_eq_true (by omega)) | (exact decide_eq_false (by omega)) | (simp; done) | (simp; omega)))),hM⟩
   ·cases ho9
    have r61 := hD.on 11 61 _ rfl (getD_true (hd9 ⟨11,.data⟩ (by simp) rfl))
    have r74 := hD.on 24 74 _ rfl (getD_true (hd9 ⟨24,.data⟩ (by simp) rfl))
    clear hD hd9 hi9
    refine wpOp_step rfl (fun K hK => ?_)
    go_simp
    exact hK _ _ ⟨rfl,hM⟩
  ·intro l9 W9 hl9 hM
   clear hl9
   clear hS z5_0_0 z5_0_1 z5_1_0 z5_1_1 z5_1_2
   have hS := hM
   clear hM
   simp only [Puts.lay,List.setIfInBounds_toArray,List.set_cons_zero,List.set_cons_succ]
   obtain ⟨⟨z6_0_0,z6_0_1,-⟩,⟨z6_1_0,z6_1_1,z6_1_2,-⟩,-⟩ := hS.cells
   go_wp2_with fail
   refine (rlow_small a n cap m _ ((unhide H).kept hS.fr) hn2).mono ?_
   rintro e w5 ⟨rfl,hb5⟩
   replace hS := hS.kept hb5
   clear z6_0_0 z6_0_1 z6_1_0 z6_1_1 z6_1_2
   obtain ⟨⟨z7_0_0,z7_0_1,-⟩,⟨z7_1_0,z7_1_1,z7_1_2,-⟩,-⟩ := hS.cells
   go_wp2_with fail
   refine wp_region_any (by kernel_rfl) ?_
   refine wpAny_det [some (95,.int .u64 N),some (96,.pointer (some ⟨w.heap.size,1,none⟩)),some (97,.int .i64 F),some (98,.int .u64 F),some (99,.int .u64 pF),some (100,.int .u64 fr),some (101,.int .i64 t0),some (102,.agg #[.int .i64 E,.int .i64 F]),some (103,.int .i64 B),some (104,.int .i64 (t0 + (B : Int))),some (105,.pointer (some ⟨w.heap.size,1,none⟩)),some (106,.int .i64 F),some (107,.int .i64 ex),some (108,.int .u64 ex),some (109,.pointer (some ⟨w.heap.size,1,none⟩)),some (110,.int .i64 F),some (111,.int .u64 F),some (112,.int .u64 X),some (113,.int .u64 ((fr : Int) + (X : Int))),some (12,.int .u64 ((fr : Int) + (X : Int)))]
    (fun _ W9 => Fs w W9 [⟨w.heap.size,#[.int .i64 E,.int .i64 F],23⟩,⟨w.heap.size + 1,#[.bool false,.slice a n cap,.int .i64 x],28⟩]) _ _ rfl (by kernel_rfl) rfl rfl ?_ ?_ (hS).drew
   ·intro l9 t9 W9 i9 hD hi9 hl9 hM
    obtain ⟨o9,ho9,hd9⟩ := (mem_ready.1 hi9).2
    have hin9 : i9 < 20 := by
     by_cases h : i9 < 20
     ·exact h
     ·rw [Array.getElem?_eq_none (by rw [hD.len]; simp; omega)] at hl9; cases hl9
    have hcase : i9 = 0 ∨ i9 = 1 ∨ i9 = 2 ∨ i9 = 3 ∨ i9 = 4 ∨ i9 = 5 ∨ i9 = 6 ∨ i9 = 7 ∨ i9 = 8 ∨ i9 = 9 ∨ i9 = 10 ∨ i9 = 11 ∨ i9 = 12 ∨ i9 = 13 ∨ i9 = 14 ∨ i9 = 15 ∨ i9 = 16 ∨ i9 = 17 ∨ i9 = 18 ∨ i9 = 19 := by omega
    clear hin9
    rcases hcase with rfl | rfl | rfl | rfl | rfl | rfl | rfl | rfl | rfl | rfl | rfl | rfl | rfl | rfl | rfl | rfl | rfl | rfl | rfl | rfl
    ·cases ho9
     have r12 := hD.wait rfl 0 19 12 _ _ _ ⟨0,.phase⟩ hl9 rfl rfl (by simp) rfl rfl rfl
     clear hD hd9 hi9
     refine wpOp_step rfl (fun K hK => ?_)
     go_simp
     exact hK _ _ ⟨rfl,hM⟩
    ·cases ho9
     have r2 := hD.old 2 _ rfl rfl
     clear hD hd9 hi9
     refine wpOp_step rfl (fun K hK => ?_)
     go_simp
     exact hK _ _ ⟨rfl,hM⟩
    ·cases ho9
     have r96 := hD.on 1 96 _ rfl (getD_true (hd9 ⟨1,.data⟩ (by simp) rfl))
     have hM0 := hM
     have c9_0 := hM0.cellAt (b := w.heap.size) (cs := #[.int .i64 E,.int .i64 F]) (t := 23) (by simp) 1 _ rfl
     clear hM0
     clear hD hd9 hi9
     refine wpOp_step rfl (fun K hK => ?_)
     go_simp
     exact hK _ _ ⟨rfl,hM⟩
    ·cases ho9
     have r97 := hD.on 2 97 _ rfl (getD_true (hd9 ⟨2,.data⟩ (by simp) rfl))
     clear hD hd9 hi9
     refine wpOp_step rfl (fun K hK => ?_)
     go_simp
     exact hK _ _ ⟨act_eq (by (show Value.int _ _ = Value.int _ _; congr 1; (first | rfl | omega | (rw [IntKind.wrap_i64]; omega) | (rw [IntKind.wrap_u64]; omega)))),hM⟩
    ·cases ho9
     have r98 := hD.on 3 98 _ rfl (getD_true (hd9 ⟨3,.data⟩ (by simp) rfl))
     clear hD hd9 hi9
     refine wpOp_step rfl (fun K hK => ?_)
     go_simp
     exact hK _ _ ⟨act_eq (by (show Value.int _ _ = Value.int _ _; first | rfl | (congr 1; first | exact eF | simpa using eF))),hM⟩
    ·cases ho9
     have r95 := hD.on 0 95 _ rfl (getD_true (hd9 ⟨0,.data⟩ (by simp) rfl))
     have r99 := hD.on 4 99 _ rfl (getD_true (hd9 ⟨4,.data⟩ (by simp) rfl))
     clear hD hd9 hi9
     refine wpOp_step rfl (fun K hK => ?_)
     go_simp
     exact hK _ _ ⟨act_eq (by (show Value.int _ _ = Value.int _ _; congr 1; (first | rfl | omega | (rw [IntKind.wrap_i64]; omega) | (rw [IntKind.wrap_u64]; omega)))),hM⟩
    ·cases ho9
     have r11 := hD.old 11 _ rfl rfl
     clear hD hd9 hi9
     refine wpOp_step rfl (fun K hK => ?_)
     go_simp
     exact hK _ _ ⟨rfl,hM⟩
    ·cases ho9
     have r2 := hD.old 2 _ rfl rfl
     have hM0 := hM
     have c9_0 := hM0.cellAt (b := w.heap.size) (cs := #[.int .i64 E,.int .i64 F]) (t := 23) (by simp) 0 _ rfl
     have c9_1 := hM0.cellAt (b := w.heap.size) (cs := #[.int .i64 E,.int .i64 F]) (t := 23) (by simp) 1 _ rfl
     clear hM0
     clear hD hd9 hi9
     refine wpOp_step rfl (fun K hK => ?_)
     go_simp
     exact hK _ _ ⟨rfl,hM⟩
    ·cases ho9
     have r102 := hD.on 7 102 _ rfl (getD_true (hd9 ⟨7,.data⟩ (by simp) rfl))
     clear hD hd9 hi9
     refine wpOp_step rfl (fun K hK => ?_)
     go_simp
     go_wp2_with fail
     refine (rbias_any E F B (unhide H0) HB _).mono ?_
     rintro en w9 ⟨rfl,hb9⟩
     exact hK _ _ ⟨rfl,hM.kept hb9⟩
    ·cases ho9
     have r101 := hD.on 6 101 _ rfl (getD_true (hd9 ⟨6,.data⟩ (by simp) rfl))
     have r103 := hD.on 8 103 _ rfl (getD_true (hd9 ⟨8,.data⟩ (by simp) rfl))
     clear hD hd9 hi9
     refine wpOp_step rfl (fun K hK => ?_)
     go_simp
     exact hK _ _ ⟨act_eq (by (show Value.int _ _ = Value.int _ _; congr 1; (first | rfl | omega | (rw [IntKind.wrap_i64]; omega) | (rw [IntKind.wrap_u64]; omega)))),hM⟩
    ·cases ho9
     have r2 := hD.old 2 _ rfl rfl
     clear hD hd9 hi9
     refine wpOp_step rfl (fun K hK => ?_)
     go_simp
     exact hK _ _ ⟨rfl,hM⟩
    ·cases ho9
     have r105 := hD.on 10 105 _ rfl (getD_true (hd9 ⟨10,.data⟩ (by simp) rfl))
     have hM0 := hM
     have c9_0 := hM0.cellAt (b := w.heap.size) (cs := #[.int .i64 E,.int .i64 F]) (t := 23) (by simp) 1 _ rfl
     clear hM0
     clear hD hd9 hi9
     refine wpOp_step rfl (fun K hK => ?_)
     go_simp
     exact hK _ _ ⟨rfl,hM⟩
    ·cases ho9
     have r104 := hD.on 9 104 _ rfl (getD_true (hd9 ⟨9,.data⟩ (by simp) rfl))
     have r106 := hD.on 11 106 _ rfl (getD_true (hd9 ⟨11,.data⟩ (by simp) rfl))
     clear hD hd9 hi9
     refine wpOp_step rfl (fun K hK => ?_)
     go_simp
     exact hK _ _ ⟨act_eq (by (show Value.int _ _ = Value.int _ _; congr 1; (first | rfl | omega | (rw [IntKind.wrap_i64]; omega) | (rw [IntKind.wrap_u64]; omega)))),hM⟩
    ·cases ho9
     have r107 := hD.on 12 107 _ rfl (getD_true (hd9 ⟨12,.data⟩ (by simp) rfl))
     clear hD hd9 hi9
     refine wpOp_step rfl (fun K hK => ?_)
     go_simp
     exact hK _ _ ⟨act_eq (by (show Value.int _ _ = Value.int _ _; congr 1; (first | rfl | omega | (rw [IntKind.wrap_i64]; omega) | (rw [IntKind.wrap_u64]; omega)))),hM⟩
    ·cases ho9
     have r2 := hD.old 2 _ rfl rfl
     clear hD hd9 hi9
     refine wpOp_step rfl (fun K hK => ?_)
     go_simp
     exact hK _ _ ⟨rfl,hM⟩
    ·cases ho9
     have r109 := hD.on 14 109 _ rfl (getD_true (hd9 ⟨14,.data⟩ (by simp) rfl))
     have hM0 := hM
     have c9_0 := hM0.cellAt (b := w.heap.size) (cs := #[.int .i64 E,.int .i64 F]) (t := 23) (by simp) 1 _ rfl
     clear hM0
     clear hD hd9 hi9
     refine wpOp_step rfl (fun K hK => ?_)
     go_simp
     exact hK _ _ ⟨rfl,hM⟩
    ·cases ho9
     have r110 := hD.on 15 110 _ rfl (getD_true (hd9 ⟨15,.data⟩ (by simp) rfl))
     clear hD hd9 hi9
     refine wpOp_step rfl (fun K hK => ?_)
     go_simp
     exact hK _ _ ⟨act_eq (by (show Value.int _ _ = Value.int _ _; congr 1; (first | rfl | omega | (rw [IntKind.wrap_i64]; omega) | (rw [IntKind.wrap_u64]; omega)))),hM⟩
    ·cases ho9
     have r108 := hD.on 13 108 _ rfl (getD_true (hd9 ⟨13,.data⟩ (by simp) rfl))
     have r111 := hD.on 16 111 _ rfl (getD_true (hd9 ⟨16,.data⟩ (by simp) rfl))
     clear hD hd9 hi9
     refine wpOp_step rfl (fun K hK => ?_)
     go_simp
     exact hK _ _ ⟨act_eq (by (show Value.int _ _ = Value.int _ _; first | rfl | (congr 1; first | exact eX | simpa using eX))),hM⟩
    ·cases ho9
     have r100 := hD.on 5 100 _ rfl (getD_true (hd9 ⟨5,.data⟩ (by simp) rfl))
     have r112 := hD.on 17 112 _ rfl (getD_true (hd9 ⟨17,.data⟩ (by simp) rfl))
     clear hD hd9 hi9
     refine wpOp_step rfl (fun K hK => ?_)
     go_simp
     exact hK _ _ ⟨act_eq (by (show Value.int _ _ = Value.int _ _; congr 1; (first | rfl | omega | (rw [IntKind.wrap_i64]; omega) | (rw [IntKind.wrap_u64]; omega)))),hM⟩
    ·cases ho9
     have r113 := hD.on 18 113 _ rfl (getD_true (hd9 ⟨18,.data⟩ (by simp) rfl))
     clear hD hd9 hi9
     refine wpOp_step rfl (fun K hK => ?_)
     go_simp
     exact hK _ _ ⟨rfl,hM⟩
   ·intro l9 W9 hl9 hM
    clear hl9
    clear hS z7_0_0 z7_0_1 z7_1_0 z7_1_1 z7_1_2
    have hS := hM
    clear hM
    simp only [Puts.lay,List.setIfInBounds_toArray,List.set_cons_zero,List.set_cons_succ]
    obtain ⟨⟨z8_0_0,z8_0_1,-⟩,⟨z8_1_0,z8_1_1,z8_1_2,-⟩,-⟩ := hS.cells
    go_wp2
    exact bodyPost_ret (v := .tuple #[.int .u64 ((fr : Int) + (X : Int)),.bool true,.int .i64 0]) (by simp [results,Try.results4,go_sem]) rfl ⟨rfl,hS.fr⟩
set_option maxHeartbeats 2000000 in
theorem rBits_hi_t0_true (E F B : Nat) (h0 : Fo E F) (HB : Hid (B = 2 ^ (E - 1) - 1)) (a : Option Addr) (n cap m k : Nat) (x L t0 : Int) (j N pF fr ex X pS b : Nat) (w : World) (h : Num w a n m) (hn : 0 < n) (hm : m % 2 = 1) (hx : -1073741824 ≤ x ∧ x ≤ 1073741824) (hk : Bl m k) (_hk2 : k ≤ 524288) (_hk1 : 0 < k) (hL : 1 - (B : Int) - (F : Int) = L) (ht0 : x + (k : Int) - 1 - (F : Int) = t0) (_h4 : k ≤ F + 1) (h9 : t0 ≤ x) (h24 : t0 ≤ (B : Int) - (F : Int)) (hj : x - t0 = (j : Int)) (hj52 : j ≤ 52) (hN : N < 18446744073709551616) (eN : IntKind.u64.wrap ((m : Int) * 2 ^ j) = (N : Int)) (hn2 : n ≤ 2) (eF : IntKind.u64.wrap (2 ^ F) = (pF : Int)) (hp : pF ≤ 4503599627370496) (hhi : pF ≤ N) (hfr : fr + pF = N) (hex : t0 + (B : Int) + (F : Int) = (ex : Int)) (eX : IntKind.u64.wrap ((ex : Int) * 2 ^ F) = (X : Int)) (hX : X < 18446744073709551616) (hY : fr + X < 18446744073709551616) (eS : IntKind.u64.wrap (2 ^ (E + F)) = (pS : Int)) (hb : b < 18446744073709551616) (eB : fr + X + pS = b) (hc : L ≤ t0) :
  Calls Try.prog 4 #[.agg #[.int .i64 E,.int .i64 F],.agg #[.bool true,.slice a n cap,.int .i64 x]] w fun e w' => e = .returned (.tuple #[.int .u64 (b : Int),.bool true,.int .i64 0]) ∧ Below w.heap.size w w' := by
 have H := hide h
 have HM := hide hm
 have HK := hide hk
 have hB : B ≤ 1023 := B_le h0 HB
 have hF := h0.f52
 have hF1 := h0.f1
 have hE := h0.e11
 have hE2 := h0.e2
 have hE2B : IntKind.i64.wrap (2 ^ E) = 2 * (B : Int) + 2 := by
  have h3 := (B_two h0 HB).1
  have e : ((2 : Int) ^ E) = ((2 ^ E : Nat) : Int) := by simp
  rw [e,h3,IntKind.wrap_i64]
  omega
 have H0 := hide h0
 clear h h0 hm hk
 go_enter Try.func4,Try.ntmps4
 go_wp2_with fail
 refine (rmay_zero _ _ (unhide H0) _).mono ?_
 rintro e w1 ⟨rfl,hb1⟩
 have hS := (Fs.two w _ _ _ _).kept hb1
 obtain ⟨⟨z1_0_0,z1_0_1,-⟩,⟨z1_1_0,z1_1_1,z1_1_2,-⟩,-⟩ := hS.cells
 go_wp2_with fail
 refine (drcheck_good true a n cap m x _ ((unhide H).kept hS.fr) hn (unhide HM) hx).mono ?_
 rintro e w2 ⟨rfl,hb2⟩
 replace hS := hS.kept hb2
 clear z1_0_0 z1_0_1 z1_1_0 z1_1_1 z1_1_2
 obtain ⟨⟨z2_0_0,z2_0_1,-⟩,⟨z2_1_0,z2_1_1,z2_1_2,-⟩,-⟩ := hS.cells
 go_wp2_with fail
 refine (rnone_no a n cap hn _).mono ?_
 rintro e w3 ⟨rfl,hb3⟩
 replace hS := hS.kept hb3
 clear z2_0_0 z2_0_1 z2_1_0 z2_1_1 z2_1_2
 obtain ⟨⟨z3_0_0,z3_0_1,-⟩,⟨z3_1_0,z3_1_1,z3_1_2,-⟩,-⟩ := hS.cells
 go_wp2_with fail
 refine (rbits_k a n cap m k _ ((unhide H).kept hS.fr) (unhide HK)).mono ?_
 rintro e w4 ⟨rfl,hb4⟩
 replace hS := hS.kept hb4
 clear z3_0_0 z3_0_1 z3_1_0 z3_1_1 z3_1_2
 obtain ⟨⟨z4_0_0,z4_0_1,-⟩,⟨z4_1_0,z4_1_1,z4_1_2,-⟩,-⟩ := hS.cells
 go_wp2_with fail
 refine wp_region_any (by kernel_rfl) ?_
 refine wpAny_det [some (32,.agg #[.int .i64 E,.int .i64 F]),some (33,.int .i64 B),some (34,.int .i64 (1 - (B : Int))),some (35,.pointer (some ⟨w.heap.size,1,none⟩)),some (36,.int .i64 F),some (37,.int .i64 L),some (10,.int .i64 L)]
  (fun _ W9 => Fs w W9 [⟨w.heap.size,#[.int .i64 E,.int .i64 F],23⟩,⟨w.heap.size + 1,#[.bool true,.slice a n cap,.int .i64 x],28⟩]) _ _ rfl (by kernel_rfl) rfl rfl ?_ ?_ (hS).drew
 ·intro l9 t9 W9 i9 hD hi9 hl9 hM
  obtain ⟨o9,ho9,hd9⟩ := (mem_ready.1 hi9).2
  have hin9 : i9 < 7 := by
   by_cases h : i9 < 7
   ·exact h
   ·rw [Array.getElem?_eq_none (by rw [hD.len]; simp; omega)] at hl9; cases hl9
  have hcase : i9 = 0 ∨ i9 = 1 ∨ i9 = 2 ∨ i9 = 3 ∨ i9 = 4 ∨ i9 = 5 ∨ i9 = 6 := by omega
  clear hin9
  rcases hcase with rfl | rfl | rfl | rfl | rfl | rfl | rfl
  ·cases ho9
   have r2 := hD.old 2 _ rfl rfl
   have hM0 := hM
   have c9_0 := hM0.cellAt (b := w.heap.size) (cs := #[.int .i64 E,.int .i64 F]) (t := 23) (by simp) 0 _ rfl
   have c9_1 := hM0.cellAt (b := w.heap.size) (cs := #[.int .i64 E,.int .i64 F]) (t := 23) (by simp) 1 _ rfl
   clear hM0
   clear hD hd9 hi9
   refine wpOp_step rfl (fun K hK => ?_)
   go_simp
   exact hK _ _ ⟨rfl,hM⟩
  ·cases ho9
   have r32 := hD.on 0 32 _ rfl (getD_true (hd9 ⟨0,.data⟩ (by simp) rfl))
   clear hD hd9 hi9
   refine wpOp_step rfl (fun K hK => ?_)
   go_simp
   go_wp2_with fail
   refine (rbias_any E F B (unhide H0) HB _).mono ?_
   rintro en w9 ⟨rfl,hb9⟩
   exact hK _ _ ⟨rfl,hM.kept hb9⟩
  ·cases ho9
   have r33 := hD.on 1 33 _ rfl (getD_true (hd9 ⟨1,.data⟩ (by simp) rfl))
   clear hD hd9 hi9
   refine wpOp_step rfl (fun K hK => ?_)
   go_simp
   exact hK _ _ ⟨act_eq (by (show Value.int _ _ = Value.int _ _; congr 1; (first | rfl | omega | (rw [IntKind.wrap_i64]; omega) | (rw [IntKind.wrap_u64]; omega)))),hM⟩
  ·cases ho9
   have r2 := hD.old 2 _ rfl rfl
   clear hD hd9 hi9
   refine wpOp_step rfl (fun K hK => ?_)
   go_simp
   exact hK _ _ ⟨rfl,hM⟩
  ·cases ho9
   have r35 := hD.on 3 35 _ rfl (getD_true (hd9 ⟨3,.data⟩ (by simp) rfl))
   have hM0 := hM
   have c9_0 := hM0.cellAt (b := w.heap.size) (cs := #[.int .i64 E,.int .i64 F]) (t := 23) (by simp) 1 _ rfl
   clear hM0
   clear hD hd9 hi9
   refine wpOp_step rfl (fun K hK => ?_)
   go_simp
   exact hK _ _ ⟨rfl,hM⟩
  ·cases ho9
   have r34 := hD.on 2 34 _ rfl (getD_true (hd9 ⟨2,.data⟩ (by simp) rfl))
   have r36 := hD.on 4 36 _ rfl (getD_true (hd9 ⟨4,.data⟩ (by simp) rfl))
   clear hD hd9 hi9
   refine wpOp_step rfl (fun K hK => ?_)
   go_simp
   exact hK _ _ ⟨act_eq (by (show Value.int _ _ = Value.int _ _; congr 1; (first | rfl | omega | (rw [IntKind.wrap_i64]; omega) | (rw [IntKind.wrap_u64]; omega)))),hM⟩
  ·cases ho9
   have r37 := hD.on 5 37 _ rfl (getD_true (hd9 ⟨5,.data⟩ (by simp) rfl))
   clear hD hd9 hi9
   refine wpOp_step rfl (fun K hK => ?_)
   go_simp
   exact hK _ _ ⟨rfl,hM⟩
 ·intro l9 W9 hl9 hM
  clear hl9
  clear hS z4_0_0 z4_0_1 z4_1_0 z4_1_1 z4_1_2
  have hS := hM
  clear hM
  simp only [Puts.lay,List.setIfInBounds_toArray,List.set_cons_zero,List.set_cons_succ]
  obtain ⟨⟨z5_0_0,z5_0_1,-⟩,⟨z5_1_0,z5_1_1,z5_1_2,-⟩,-⟩ := hS.cells
  go_wp2_with fail
  refine wp_region_any (by kernel_rfl) ?_
  refine wpAny_det [some (50,.int .i64 k),some (51,.pointer (some ⟨w.heap.size,1,none⟩)),some (52,.int .i64 F),some (53,.int .i64 ((F : Int) + 1)),some (54,.bool false),some (55,.bool false),some (56,.pointer (some ⟨w.heap.size + 1,2,none⟩)),some (57,.int .i64 x),some (58,.int .i64 t0),some (59,.bool false),some (60,.bool false),some (61,.bool false),some (62,.int .i64 t0),some (63,.pointer (some ⟨w.heap.size,0,none⟩)),some (64,.int .i64 E),some (65,.int .u64 E),some (66,.int .i64 (2 * (B : Int) + 2)),some (67,.int .i64 (2 * (B : Int))),some (68,.agg #[.int .i64 E,.int .i64 F]),some (69,.int .i64 B),some (70,.int .i64 B),some (71,.pointer (some ⟨w.heap.size,1,none⟩)),some (72,.int .i64 F),some (73,.int .i64 ((B : Int) - (F : Int))),some (74,.bool false),some (75,.bool false)]
   (fun _ W9 => Fs w W9 [⟨w.heap.size,#[.int .i64 E,.int .i64 F],23⟩,⟨w.heap.size + 1,#[.bool true,.slice a n cap,.int .i64 x],28⟩]) _ _ rfl (by kernel_rfl) rfl rfl ?_ ?_ (hS).drew
  ·intro l9 t9 W9 i9 hD hi9 hl9 hM
   obtain ⟨o9,ho9,hd9⟩ := (mem_ready.1 hi9).2
   have hin9 : i9 < 26 := by
    by_cases h : i9 < 26
    ·exact h
    ·rw [Array.getElem?_eq_none (by rw [hD.len]; simp; omega)] at hl9; cases hl9
   have hcase : i9 = 0 ∨ i9 = 1 ∨ i9 = 2 ∨ i9 = 3 ∨ i9 = 4 ∨ i9 = 5 ∨ i9 = 6 ∨ i9 = 7 ∨ i9 = 8 ∨ i9 = 9 ∨ i9 = 10 ∨ i9 = 11 ∨ i9 = 12 ∨ i9 = 13 ∨ i9 = 14 ∨ i9 = 15 ∨ i9 = 16 ∨ i9 = 17 ∨ i9 = 18 ∨ i9 = 19 ∨ i9 = 20 ∨ i9 = 21 ∨ i9 = 22 ∨ i9 = 23 ∨ i9 = 24 ∨ i9 = 25 := by omega
   clear hin9
   rcases hcase with rfl | rfl | rfl | rfl | rfl | rfl | rfl | rfl | rfl | rfl | rfl | rfl | rfl | rfl | rfl | rfl | rfl | rfl | rfl | rfl | rfl | rfl | rfl | rfl | rfl | rfl
   ·cases ho9
    have r8 := hD.old 8 _ rfl rfl
    clear hD hd9 hi9
    refine wpOp_step rfl (fun K hK => ?_)
    go_simp
    exact hK _ _ ⟨rfl,hM⟩
   ·cases ho9
    have r2 := hD.old 2 _ rfl rfl
    clear hD hd9 hi9
    refine wpOp_step rfl (fun K hK => ?_)
    go_simp
    exact hK _ _ ⟨rfl,hM⟩
   ·cases ho9
    have r51 := hD.on 1 51 _ rfl (getD_true (hd9 ⟨1,.data⟩ (by simp) rfl))
    have hM0 := hM
    have c9_0 := hM0.cellAt (b := w.heap.size) (cs := #[.int .i64 E,.int .i64 F]) (t := 23) (by simp) 1 _ rfl
    clear hM0
    clear hD hd9 hi9
    refine wpOp_step rfl (fun K hK => ?_)
    go_simp
    exact hK _ _ ⟨rfl,hM⟩
   ·cases ho9
    have r52 := hD.on 2 52 _ rfl (getD_true (hd9 ⟨2,.data⟩ (by simp) rfl))
    clear hD hd9 hi9
    refine wpOp_step rfl (fun K hK => ?_)
    go_simp
    exact hK _ _ ⟨act_eq (by (show Value.int _ _ = Value.int _ _; congr 1; (first | rfl | omega | (rw [IntKind.wrap_i64]; omega) | (rw [IntKind.wrap_u64]; omega)))),hM⟩
   ·cases ho9
    have r50 := hD.on 0 50 _ rfl (getD_true (hd9 ⟨0,.data⟩ (by simp) rfl))
    have r53 := hD.on 3 53 _ rfl (getD_true (hd9 ⟨3,.data⟩ (by simp) rfl))
    clear hD hd9 hi9
    refine wpOp_step rfl (fun K hK => ?_)
    go_simp
    exact hK _ _ ⟨act_eq (by (show Value.bool _ = Value.bool _; first | rfl | (congr 1; first | (exact decide_eq_true (by omega)) | (exact decide_eq_false (by omega)) | (simp; done) | (simp; omega)))),hM⟩
   ·cases ho9
    have r54 := hD.on 4 54 _ rfl (getD_true (hd9 ⟨4,.data⟩ (by simp) rfl))
    clear hD hd9 hi9
    refine wpOp_step rfl (fun K hK => ?_)
    go_simp
    exact hK _ _ ⟨rfl,hM⟩
   ·cases ho9
    have r55 := hD.on 5 55 _ rfl (getD_true (hd9 ⟨5,.guard⟩ (by simp) rfl))
    have r3 := hD.old 3 _ rfl rfl
    clear hD hd9 hi9
    refine wpOp_step rfl (fun K hK => ?_)
    go_simp
    exact hK _ _ ⟨rfl,hM⟩
   ·cases ho9
    have r55 := hD.on 5 55 _ rfl (getD_true (hd9 ⟨5,.guard⟩ (by simp) rfl))
    have r56 := hD.on 6 56 _ rfl (getD_true (hd9 ⟨6,.data⟩ (by simp) rfl))
    have hM0 := hM
    have c9_0 := hM0.cellAt (b := w.heap.size + 1) (cs := #[.bool true,.slice a n cap,.int .i64 x]) (t := 28) (by simp) 2 _ rfl
    clear hM0
    clear hD hd9 hi9
    refine wpOp_step rfl (fun K hK => ?_)
    go_simp
    exact hK _ _ ⟨rfl,hM⟩
   ·cases ho9
    have r55 := hD.on 5 55 _ rfl (getD_true (hd9 ⟨5,.guard⟩ (by simp) rfl))
    have r11 := hD.old 11 _ rfl rfl
    clear hD hd9 hi9
    refine wpOp_step rfl (fun K hK => ?_)
    go_simp
    exact hK _ _ ⟨rfl,hM⟩
   ·cases ho9
    have r55 := hD.on 5 55 _ rfl (getD_true (hd9 ⟨5,.guard⟩ (by simp) rfl))
    have r57 := hD.on 7 57 _ rfl (getD_true (hd9 ⟨7,.data⟩ (by simp) rfl))
    have r58 := hD.on 8 58 _ rfl (getD_true (hd9 ⟨8,.data⟩ (by simp) rfl))
    clear hD hd9 hi9
    refine wpOp_step rfl (fun K hK => ?_)
    go_simp
    exact hK _ _ ⟨act_eq (by (show Value.bool _ = Value.bool _; first | rfl | (congr 1; first | (exact decide_eq_true (by omega)) | (exact decide_eq_false (by omega)) | (simp; done) | (simp; omega)))),hM⟩
   ·cases ho9
    have r55 := hD.on 5 55 _ rfl (getD_true (hd9 ⟨5,.data⟩ (by simp) rfl))
    have r59 := hD.on 9 59 _ rfl (getD_true (hd9 ⟨9,.data⟩ (by simp) rfl))
    clear hD hd9 hi9
    refine wpOp_step rfl (fun K hK => ?_)
    go_simp
    exact hK _ _ ⟨rfl,hM⟩
   ·cases ho9
    have r60 := hD.on 10 60 _ rfl (getD_true (hd9 ⟨10,.data⟩ (by simp) rfl))
    clear hD hd9 hi9
    refine wpOp_step rfl (fun K hK => ?_)
    go_simp
    exact hK _ _ ⟨rfl,hM⟩
   ·cases ho9
    have r61 := hD.on 11 61 _ rfl (getD_true (hd9 ⟨11,.guard⟩ (by simp) rfl))
    have r11 := hD.old 11 _ rfl rfl
    clear hD hd9 hi9
    refine wpOp_step rfl (fun K hK => ?_)
    go_simp
    exact hK _ _ ⟨rfl,hM⟩
   ·cases ho9
    have r61 := hD.on 11 61 _ rfl (getD_true (hd9 ⟨11,.guard⟩ (by simp) rfl))
    have r2 := hD.old 2 _ rfl rfl
    clear hD hd9 hi9
    refine wpOp_step rfl (fun K hK => ?_)
    go_simp
    exact hK _ _ ⟨rfl,hM⟩
   ·cases ho9
    have r61 := hD.on 11 61 _ rfl (getD_true (hd9 ⟨11,.guard⟩ (by simp) rfl))
    have r63 := hD.on 13 63 _ rfl (getD_true (hd9 ⟨13,.data⟩ (by simp) rfl))
    have hM0 := hM
    have c9_0 := hM0.cellAt (b := w.heap.size) (cs := #[.int .i64 E,.int .i64 F]) (t := 23) (by simp) 0 _ rfl
    clear hM0
    clear hD hd9 hi9
    refine wpOp_step rfl (fun K hK => ?_)
    go_simp
    exact hK _ _ ⟨rfl,hM⟩
   ·cases ho9
    have r61 := hD.on 11 61 _ rfl (getD_true (hd9 ⟨11,.guard⟩ (by simp) rfl))
    have r64 := hD.on 14 64 _ rfl (getD_true (hd9 ⟨14,.data⟩ (by simp) rfl))
    clear hD hd9 hi9
    refine wpOp_step rfl (fun K hK => ?_)
    go_simp
    exact hK _ _ ⟨act_eq (by (show Value.int _ _ = Value.int _ _; congr 1; (first | rfl | omega | (rw [IntKind.wrap_i64]; omega) | (rw [IntKind.wrap_u64]; omega)))),hM⟩
   ·cases ho9
    have r61 := hD.on 11 61 _ rfl (getD_true (hd9 ⟨11,.guard⟩ (by simp) rfl))
    have r65 := hD.on 15 65 _ rfl (getD_true (hd9 ⟨15,.data⟩ (by simp) rfl))
    clear hD hd9 hi9
    refine wpOp_step rfl (fun K hK => ?_)
    go_simp
    exact hK _ _ ⟨act_eq (by (show Value.int _ _ = Value.int _ _; first | rfl | (congr 1; first | exact hE2B | simpa using hE2B))),hM⟩
   ·cases ho9
    have r61 := hD.on 11 61 _ rfl (getD_true (hd9 ⟨11,.guard⟩ (by simp) rfl))
    have r66 := hD.on 16 66 _ rfl (getD_true (hd9 ⟨16,.data⟩ (by simp) rfl))
    clear hD hd9 hi9
    refine wpOp_step rfl (fun K hK => ?_)
    go_simp
    exact hK _ _ ⟨act_eq (by (show Value.int _ _ = Value.int _ _; congr 1; (first | rfl | omega | (rw [IntKind.wrap_i64]; omega) | (rw [IntKind.wrap_u64]; omega)))),hM⟩
   ·cases ho9
    have r61 := hD.on 11 61 _ rfl (getD_true (hd9 ⟨11,.guard⟩ (by simp) rfl))
    have r2 := hD.old 2 _ rfl rfl
    have hM0 := hM
    have c9_0 := hM0.cellAt (b := w.heap.size) (cs := #[.int .i64 E,.int .i64 F]) (t := 23) (by simp) 0 _ rfl
    have c9_1 := hM0.cellAt (b := w.heap.size) (cs := #[.int .i64 E,.int .i64 F]) (t := 23) (by simp) 1 _ rfl
    clear hM0
    clear hD hd9 hi9
    refine wpOp_step rfl (fun K hK => ?_)
    go_simp
    exact hK _ _ ⟨rfl,hM⟩
   ·cases ho9
    have r61 := hD.on 11 61 _ rfl (getD_true (hd9 ⟨11,.chain⟩ (by simp) rfl))
    have r68 := hD.on 18 68 _ rfl (getD_true (hd9 ⟨18,.data⟩ (by simp) rfl))
    clear hD hd9 hi9
    refine wpOp_step rfl (fun K hK => ?_)
    go_simp
    go_wp2_with fail
    refine (rbias_any E F B (unhide H0) HB _).mono ?_
    rintro en w9 ⟨rfl,hb9⟩
    exact hK _ _ ⟨rfl,hM.kept hb9⟩
   ·cases ho9
    have r61 := hD.on 11 61 _ rfl (getD_true (hd9 ⟨11,.guard⟩ (by simp) rfl))
    have r67 := hD.on 17 67 _ rfl (getD_true (hd9 ⟨17,.data⟩ (by simp) rfl))
    have r69 := hD.on 19 69 _ rfl (getD_true (hd9 ⟨19,.data⟩ (by simp) rfl))
    clear hD hd9 hi9
    refine wpOp_step rfl (fun K hK => ?_)
    go_simp
    exact hK _ _ ⟨act_eq (by (show Value.int _ _ = Value.int _ _; congr 1; (first | rfl | omega | (rw [IntKind.wrap_i64]; omega) | (rw [IntKind.wrap_u64]; omega)))),hM⟩
   ·cases ho9
    have r61 := hD.on 11 61 _ rfl (getD_true (hd9 ⟨11,.guard⟩ (by simp) rfl))
    have r2 := hD.old 2 _ rfl rfl
    clear hD hd9 hi9
    refine wpOp_step rfl (fun K hK => ?_)
    go_simp
    exact hK _ _ ⟨rfl,hM⟩
   ·cases ho9
    have r61 := hD.on 11 61 _ rfl (getD_true (hd9 ⟨11,.guard⟩ (by simp) rfl))
    have r71 := hD.on 21 71 _ rfl (getD_true (hd9 ⟨21,.data⟩ (by simp) rfl))
    have hM0 := hM
    have c9_0 := hM0.cellAt (b := w.heap.size) (cs := #[.int .i64 E,.int .i64 F]) (t := 23) (by simp) 1 _ rfl
    clear hM0
    clear hD hd9 hi9
    refine wpOp_step rfl (fun K hK => ?_)
    go_simp
    exact hK _ _ ⟨rfl,hM⟩
   ·cases ho9
    have r61 := hD.on 11 61 _ rfl (getD_true (hd9 ⟨11,.guard⟩ (by simp) rfl))
    have r70 := hD.on 20 70 _ rfl (getD_true (hd9 ⟨20,.data⟩ (by simp) rfl))
    have r72 := hD.on 22 72 _ rfl (getD_true (hd9 ⟨22,.data⟩ (by simp) rfl))
    clear hD hd9 hi9
    refine wpOp_step rfl (fun K hK => ?_)
    go_simp
    exact hK _ _ ⟨act_eq (by (show Value.int _ _ = Value.int _ _; congr 1; (first | rfl | omega | (rw [IntKind.wrap_i64]; omega) | (rw [IntKind.wrap_u64]; omega)))),hM⟩
   ·cases ho9
    have r61 := hD.on 11 61 _ rfl (getD_true (hd9 ⟨11,.guard⟩ (by simp) rfl))
    have r62 := hD.on 12 62 _ rfl (getD_true (hd9 ⟨12,.data⟩ (by simp) rfl))
    have r73 := hD.on 23 73 _ rfl (getD_true (hd9 ⟨23,.data⟩ (by simp) rfl))
    clear hD hd9 hi9
    refine wpOp_step rfl (fun K hK => ?_)
    go_simp
    exact hK _ _ ⟨act_eq (by (show Value.bool _ = Value.bool _; first | rfl | (congr 1; first | (exact decide_eq_true (by omega)) | (exact decide_eq_false (by omega)) | (simp; done) | (simp; omega)))),hM⟩
   ·cases ho9
    have r61 := hD.on 11 61 _ rfl (getD_true (hd9 ⟨11,.data⟩ (by simp) rfl))
    have r74 := hD.on 24 74 _ rfl (getD_true (hd9 ⟨24,.data⟩ (by simp) rfl))
    clear hD hd9 hi9
    refine wpOp_step rfl (fun K hK => ?_)
    go_simp
    exact hK _ _ ⟨rfl,hM⟩
  ·intro l9 W9 hl9 hM
   clear hl9
   clear hS z5_0_0 z5_0_1 z5_1_0 z5_1_1 z5_1_2
   have hS := hM
   clear hM
   simp only [Puts.lay,List.setIfInBounds_toArray,List.set_cons_zero,List.set_cons_succ]
   obtain ⟨⟨z6_0_0,z6_0_1,-⟩,⟨z6_1_0,z6_1_1,z6_1_2,-⟩,-⟩ := hS.cells
   go_wp2_with fail
   refine (rlow_small a n cap m _ ((unhide H).kept hS.fr) hn2).mono ?_
   rintro e w5 ⟨rfl,hb5⟩
   replace hS := hS.kept hb5
   clear z6_0_0 z6_0_1 z6_1_0 z6_1_1 z6_1_2
   obtain ⟨⟨z7_0_0,z7_0_1,-⟩,⟨z7_1_0,z7_1_1,z7_1_2,-⟩,-⟩ := hS.cells
   go_wp2_with fail
   refine wp_region_any (by kernel_rfl) ?_
   refine wpAny_det [some (95,.int .u64 N),some (96,.pointer (some ⟨w.heap.size,1,none⟩)),some (97,.int .i64 F),some (98,.int .u64 F),some (99,.int .u64 pF),some (100,.int .u64 fr),some (101,.int .i64 t0),some (102,.agg #[.int .i64 E,.int .i64 F]),some (103,.int .i64 B),some (104,.int .i64 (t0 + (B : Int))),some (105,.pointer (some ⟨w.heap.size,1,none⟩)),some (106,.int .i64 F),some (107,.int .i64 ex),some (108,.int .u64 ex),some (109,.pointer (some ⟨w.heap.size,1,none⟩)),some (110,.int .i64 F),some (111,.int .u64 F),some (112,.int .u64 X),some (113,.int .u64 ((fr : Int) + (X : Int))),some (12,.int .u64 ((fr : Int) + (X : Int)))]
    (fun _ W9 => Fs w W9 [⟨w.heap.size,#[.int .i64 E,.int .i64 F],23⟩,⟨w.heap.size + 1,#[.bool true,.slice a n cap,.int .i64 x],28⟩]) _ _ rfl (by kernel_rfl) rfl rfl ?_ ?_ (hS).drew
   ·intro l9 t9 W9 i9 hD hi9 hl9 hM
    obtain ⟨o9,ho9,hd9⟩ := (mem_ready.1 hi9).2
    have hin9 : i9 < 20 := by
     by_cases h : i9 < 20
     ·exact h
     ·rw [Array.getElem?_eq_none (by rw [hD.len]; simp; omega)] at hl9; cases hl9
    have hcase : i9 = 0 ∨ i9 = 1 ∨ i9 = 2 ∨ i9 = 3 ∨ i9 = 4 ∨ i9 = 5 ∨ i9 = 6 ∨ i9 = 7 ∨ i9 = 8 ∨ i9 = 9 ∨ i9 = 10 ∨ i9 = 11 ∨ i9 = 12 ∨ i9 = 13 ∨ i9 = 14 ∨ i9 = 15 ∨ i9 = 16 ∨ i9 = 17 ∨ i9 = 18 ∨ i9 = 19 := by omega
    clear hin9
    rcases hcase with rfl | rfl | rfl | rfl | rfl | rfl | rfl | rfl | rfl | rfl | rfl | rfl | rfl | rfl | rfl | rfl | rfl | rfl | rfl | rfl
    ·cases ho9
     have r12 := hD.wait rfl 0 19 12 _ _ _ ⟨0,.phase⟩ hl9 rfl rfl (by simp) rfl rfl rfl
     clear hD hd9 hi9
     refine wpOp_step rfl (fun K hK => ?_)
     go_simp
     exact hK _ _ ⟨rfl,hM⟩
    ·cases ho9
     have r2 := hD.old 2 _ rfl rfl
     clear hD hd9 hi9
     refine wpOp_step rfl (fun K hK => ?_)
     go_simp
     exact hK _ _ ⟨rfl,hM⟩
    ·cases ho9
     have r96 := hD.on 1 96 _ rfl (getD_true (hd9 ⟨1,.data⟩ (by simp) rfl))
     have hM0 := hM
     have c9_0 := hM0.cellAt (b := w.heap.size) (cs := #[.int .i64 E,.int .i64 F]) (t := 23) (by simp) 1 _ rfl
     clear hM0
     clear hD hd9 hi9
     refine wpOp_step rfl (fun K hK => ?_)
     go_simp
     exact hK _ _ ⟨rfl,hM⟩
    ·cases ho9
     have r97 := hD.on 2 97 _ rfl (getD_true (hd9 ⟨2,.data⟩ (by simp) rfl))
     clear hD hd9 hi9
     refine wpOp_step rfl (fun K hK => ?_)
     go_simp
     exact hK _ _ ⟨act_eq (by (show Value.int _ _ = Value.int _ _; congr 1; (first | rfl | omega | (rw [IntKind.wrap_i64]; omega) | (rw [IntKind.wrap_u64]; omega)))),hM⟩
    ·cases ho9
     have r98 := hD.on 3 98 _ rfl (getD_true (hd9 ⟨3,.data⟩ (by simp) rfl))
     clear hD hd9 hi9
     refine wpOp_step rfl (fun K hK => ?_)
     go_simp
     exact hK _ _ ⟨act_eq (by (show Value.int _ _ = Value.int _ _; first | rfl | (congr 1; first | exact eF | simpa using eF))),hM⟩
    ·cases ho9
     have r95 := hD.on 0 95 _ rfl (getD_true (hd9 ⟨0,.data⟩ (by simp) rfl))
     have r99 := hD.on 4 99 _ rfl (getD_true (hd9 ⟨4,.data⟩ (by simp) rfl))
     clear hD hd9 hi9
     refine wpOp_step rfl (fun K hK => ?_)
     go_simp
     exact hK _ _ ⟨act_eq (by (show Value.int _ _ = Value.int _ _; congr 1; (first | rfl | omega | (rw [IntKind.wrap_i64]; omega) | (rw [IntKind.wrap_u64]; omega)))),hM⟩
    ·cases ho9
     have r11 := hD.old 11 _ rfl rfl
     clear hD hd9 hi9
     refine wpOp_step rfl (fun K hK => ?_)
     go_simp
     exact hK _ _ ⟨rfl,hM⟩
    ·cases ho9
     have r2 := hD.old 2 _ rfl rfl
     have hM0 := hM
     have c9_0 := hM0.cellAt (b := w.heap.size) (cs := #[.int .i64 E,.int .i64 F]) (t := 23) (by simp) 0 _ rfl
     have c9_1 := hM0.cellAt (b := w.heap.size) (cs := #[.int .i64 E,.int .i64 F]) (t := 23) (by simp) 1 _ rfl
     clear hM0
     clear hD hd9 hi9
     refine wpOp_step rfl (fun K hK => ?_)
     go_simp
     exact hK _ _ ⟨rfl,hM⟩
    ·cases ho9
     have r102 := hD.on 7 102 _ rfl (getD_true (hd9 ⟨7,.data⟩ (by simp) rfl))
     clear hD hd9 hi9
     refine wpOp_step rfl (fun K hK => ?_)
     go_simp
     go_wp2_with fail
     refine (rbias_any E F B (unhide H0) HB _).mono ?_
     rintro en w9 ⟨rfl,hb9⟩
     exact hK _ _ ⟨rfl,hM.kept hb9⟩
    ·cases ho9
     have r101 := hD.on 6 101 _ rfl (getD_true (hd9 ⟨6,.data⟩ (by simp) rfl))
     have r103 := hD.on 8 103 _ rfl (getD_true (hd9 ⟨8,.data⟩ (by simp) rfl))
     clear hD hd9 hi9
     refine wpOp_step rfl (fun K hK => ?_)
     go_simp
     exact hK _ _ ⟨act_eq (by (show Value.int _ _ = Value.int _ _; congr 1; (first | rfl | omega | (rw [IntKind.wrap_i64]; omega) | (rw [IntKind.wrap_u64]; omega)))),hM⟩
    ·cases ho9
     have r2 := hD.old 2 _ rfl rfl
     clear hD hd9 hi9
     refine wpOp_step rfl (fun K hK => ?_)
     go_simp
     exact hK _ _ ⟨rfl,hM⟩
    ·cases ho9
     have r105 := hD.on 10 105 _ rfl (getD_true (hd9 ⟨10,.data⟩ (by simp) rfl))
     have hM0 := hM
     have c9_0 := hM0.cellAt (b := w.heap.size) (cs := #[.int .i64 E,.int .i64 F]) (t := 23) (by simp) 1 _ rfl
     clear hM0
     clear hD hd9 hi9
     refine wpOp_step rfl (fun K hK => ?_)
     go_simp
     exact hK _ _ ⟨rfl,hM⟩
    ·cases ho9
     have r104 := hD.on 9 104 _ rfl (getD_true (hd9 ⟨9,.data⟩ (by simp) rfl))
     have r106 := hD.on 11 106 _ rfl (getD_true (hd9 ⟨11,.data⟩ (by simp) rfl))
     clear hD hd9 hi9
     refine wpOp_step rfl (fun K hK => ?_)
     go_simp
     exact hK _ _ ⟨act_eq (by (show Value.int _ _ = Value.int _ _; congr 1; (first | rfl | omega | (rw [IntKind.wrap_i64]; omega) | (rw [IntKind.wrap_u64]; omega)))),hM⟩
    ·cases ho9
     have r107 := hD.on 12 107 _ rfl (getD_true (hd9 ⟨12,.data⟩ (by simp) rfl))
     clear hD hd9 hi9
     refine wpOp_step rfl (fun K hK => ?_)
     go_simp
     exact hK _ _ ⟨act_eq (by (show Value.int _ _ = Value.int _ _; congr 1; (first | rfl | omega | (rw [IntKind.wrap_i64]; omega) | (rw [IntKind.wrap_u64]; omega)))),hM⟩
    ·cases ho9
     have r2 := hD.old 2 _ rfl rfl
     clear hD hd9 hi9
     refine wpOp_step rfl (fun K hK => ?_)
     go_simp
     exact hK _ _ ⟨rfl,hM⟩
    ·cases ho9
     have r109 := hD.on 14 109 _ rfl (getD_true (hd9 ⟨14,.data⟩ (by simp) rfl))
     have hM0 := hM
     have c9_0 := hM0.cellAt (b := w.heap.size) (cs := #[.int .i64 E,.int .i64 F]) (t := 23) (by simp) 1 _ rfl
     clear hM0
     clear hD hd9 hi9
     refine wpOp_step rfl (fun K hK => ?_)
     go_simp
     exact hK _ _ ⟨rfl,hM⟩
    ·cases ho9
     have r110 := hD.on 15 110 _ rfl (getD_true (hd9 ⟨15,.data⟩ (by simp) rfl))
     clear hD hd9 hi9
     refine wpOp_step rfl (fun K hK => ?_)
     go_simp
     exact hK _ _ ⟨act_eq (by (show Value.int _ _ = Value.int _ _; congr 1; (first | rfl | omega | (rw [IntKind.wrap_i64]; omega) | (rw [IntKind.wrap_u64]; omega)))),hM⟩
    ·cases ho9
     have r108 := hD.on 13 108 _ rfl (getD_true (hd9 ⟨13,.data⟩ (by simp) rfl))
     have r111 := hD.on 16 111 _ rfl (getD_true (hd9 ⟨16,.data⟩ (by simp) rfl))
     clear hD hd9 hi9
     refine wpOp_step rfl (fun K hK => ?_)
     go_simp
     exact hK _ _ ⟨act_eq (by (show Value.int _ _ = Value.int _ _; first | rfl | (congr 1; first | exact eX | simpa using eX))),hM⟩
    ·cases ho9
     have r100 := hD.on 5 100 _ rfl (getD_true (hd9 ⟨5,.data⟩ (by simp) rfl))
     have r112 := hD.on 17 112 _ rfl (getD_true (hd9 ⟨17,.data⟩ (by simp) rfl))
     clear hD hd9 hi9
     refine wpOp_step rfl (fun K hK => ?_)
     go_simp
     exact hK _ _ ⟨act_eq (by (show Value.int _ _ = Value.int _ _; congr 1; (first | rfl | omega | (rw [IntKind.wrap_i64]; omega) | (rw [IntKind.wrap_u64]; omega)))),hM⟩
    ·cases ho9
     have r113 := hD.on 18 113 _ rfl (getD_true (hd9 ⟨18,.data⟩ (by simp) rfl))
     clear hD hd9 hi9
     refine wpOp_step rfl (fun K hK => ?_)
     go_simp
     exact hK _ _ ⟨rfl,hM⟩
   ·intro l9 W9 hl9 hM
    clear hl9
    clear hS z7_0_0 z7_0_1 z7_1_0 z7_1_1 z7_1_2
    have hS := hM
    clear hM
    simp only [Puts.lay,List.setIfInBounds_toArray,List.set_cons_zero,List.set_cons_succ]
    obtain ⟨⟨z8_0_0,z8_0_1,-⟩,⟨z8_1_0,z8_1_1,z8_1_2,-⟩,-⟩ := hS.cells
    have eB2 : IntKind.u64.wrap ((fr : Int) + (X : Int) + (pS : Int)) = (b : Int) := by rw [IntKind.wrap_u64]; omega
    go_wp2
    exact bodyPost_ret (v := .tuple #[.int .u64 (b : Int),.bool true,.int .i64 0]) (by simp [results,Try.results4,go_sem]) rfl ⟨rfl,hS.fr⟩
end Go.Proofs.Ytjemjhaphannaaa
namespace Go.Proofs.Ytjemjhaphannaaa
open Go.RowKit
theorem fo_cases4 (E F : Int) : NoFo E F ∨ ∃ e f : Nat,E = (e : Int) ∧ F = (f : Int) ∧ Fo e f := by
 by_cases h : NoFo E F
 ·exact Or.inl h
 ·refine Or.inr ⟨E.toNat,F.toNat,?_⟩
  unfold NoFo at h
  exact ⟨by omega,by omega,⟨by omega,by omega,by omega,by omega⟩⟩
theorem rBits_none (E F B : Nat) (h0 : Fo E F) (HB : Hid (B = 2 ^ (E - 1) - 1)) (s : Bool) (a : Option Addr) (n cap m k : Nat) (x : Int) (w : World) (h : Num w a n m) (hn : 0 < n) (hm : m % 2 = 1) (hx : -1073741824 ≤ x ∧ x ≤ 1073741824) (hk : Bl m k) (hk2 : k ≤ 524288) (hk1 : 0 < k)
  (hno : (B : Int) < x + k - 1 ∨ x < max (1 - (B : Int) - (F : Int)) (x + (k : Int) - 1 - (F : Int))) :
  Calls Try.prog 4 #[.agg #[.int .i64 E,.int .i64 F],.agg #[.bool s,.slice a n cap,.int .i64 x]] w fun e w' => e = .returned (.tuple #[.int .u64 0,.bool false,.int .i64 0]) ∧ Below w.heap.size w w' := by
 obtain ⟨L,hL⟩ : ∃ L : Int,1 - (B : Int) - (F : Int) = L := ⟨_,rfl⟩
 obtain ⟨t0,ht0⟩ : ∃ t0 : Int,x + (k : Int) - 1 - (F : Int) = t0 := ⟨_,rfl⟩
 have hB := (B_two h0 HB).2
 by_cases hc : t0 < L
 ·by_cases h4 : F + 1 < k
  ·exact rBits_long_L E F B h0 HB s a n cap m k x L t0 w h hn hm hx hk hk2 hk1 hL ht0 h4 hc
  ·exact rBits_under_L E F B h0 HB s a n cap m k x L t0 w h hn hm hx hk hk2 hk1 hL ht0 (by omega) (by omega) hc
 ·by_cases h4 : F + 1 < k
  ·exact rBits_long_t0 E F B h0 HB s a n cap m k x L t0 w h hn hm hx hk hk2 hk1 hL ht0 h4 (by omega)
  ·exact rBits_over_t0 E F B h0 HB s a n cap m k x L t0 w h hn hm hx hk hk2 hk1 hL ht0 (by omega) (by omega) (by omega) (by omega)
theorem bl_pos {m k : Nat} (h : Bl m k) (hm : 0 < m) : 0 < k := by
 rcases Nat.eq_zero_or_pos k with h0 | h0
 ·subst h0; have := h.1; simp at this; omega
 ·exact h0
theorem bl_limbs {xs : List Nat} (hw : Pl.Wf xs) {k : Nat} (h : Bl (Pl.val xs) k) (hl : xs.length ≤ 16384) : k ≤ 524288 := by
 rcases h.2 with h0 | h0
 ·omega
 ·have h1 := Pl.val_lt hw
  have h2 : 4294967296 ^ xs.length = 2 ^ (32 * xs.length) := by rw [Nat.pow_mul]
  rw [h2] at h1
  have h3 : 2 ^ (k - 1) < 2 ^ (32 * xs.length) := by omega
  have := (Nat.pow_lt_pow_iff_right (by decide : 1 < 2)).1 h3
  omega
theorem two_limbs {xs : List Nat} (hw : Pl.Wf xs) (hN : Pl.Norm xs) (h : Pl.val xs < 2 ^ 53) : xs.length ≤ 2 :=
 (Pl.val_le_len hw hN 2).2 (Nat.lt_of_lt_of_le h (by decide))
set_option maxRecDepth 20000 in
theorem bits_both (E F : Int) (s : Bool) (xs : List Nat) (n : Nat) (x : Int) (hn : xs.length = n) (hbig : n ≤ 9223372036854775807) (hw : Pl.Wf xs) :
  ∃ (v er : Int) (i : Bool),
   (∀ (W : World) (a : Option Addr) (cap : Nat),Lim W a xs → Calls Try.prog 6 #[.agg #[.int .i64 E,.int .i64 F],.agg #[.bool s,.slice a n cap,.int .i64 x]] W fun e w' => e = .returned (.tuple #[.int .u64 v,.bool i,.int .i64 er]) ∧ Below W.heap.size W w') ∧
   (∀ (W : World) (a : Option Addr) (cap : Nat),Lim W a xs → Calls Try.prog 4 #[.agg #[.int .i64 E,.int .i64 F],.agg #[.bool s,.slice a n cap,.int .i64 x]] W fun e w' => e = .returned (.tuple #[.int .u64 v,.bool i,.int .i64 er]) ∧ Below W.heap.size W w') := by
 rcases fo_cases4 E F with hbad | ⟨E,F,rfl,rfl,h0⟩
 ·exact ⟨0,5,false,fun W a cap _ => Bits_form E F hbad s a n cap x W,fun W a cap _ => rBits_form E F hbad s a n cap x W⟩
 obtain ⟨B,HB⟩ : ∃ B,Hid (B = 2 ^ (E - 1) - 1) := ⟨_,hide rfl⟩
 by_cases hc : dck s xs x = 0
 case neg => exact ⟨0,dck s xs x,false,fun W a cap hl => Bits_err E F B h0 HB s a n cap xs x W hn hbig hl hw hc,fun W a cap hl => rBits_err E F h0 s a n cap xs x W hn hbig hl hw hc⟩
 have hck : chk xs = 0 := by
  unfold dck at hc
  by_cases h : chk xs = 0
  ·exact h
  ·rw [if_pos h] at hc; exact absurd hc h
 have hd := hc
 unfold dck at hd
 rw [if_neg (by simpa using hck)] at hd
 have hnum : ∀ (W : World) (a : Option Addr),Lim W a xs → Num W a n (Pl.val xs) := fun W a hl => dck_num hn hl hw hck
 obtain ⟨hlen,hN⟩ := chk_zero hck
 by_cases hz : n = 0
 ·subst hz
  rw [if_pos hn] at hd
  have hs : s = false ∧ x = 0 := by
   by_cases h : s = true ∨ x ≠ 0
   ·rw [if_pos h] at hd; cases hd
   ·cases s <;> simp_all
  obtain ⟨rfl,rfl⟩ := hs
  have hv : Pl.val xs = 0 := by rw [List.length_eq_zero_iff.1 hn]; rfl
  rw [hv] at hnum
  exact ⟨0,0,true,fun W a cap hl => Bits_nought E F B h0 HB a cap W (hnum W a hl),fun W a cap hl => rBits_nought E F h0 a cap W (hnum W a hl)⟩
 rw [if_neg (by omega)] at hd
 have hodd : Pl.val xs % 2 = 1 ∧ ¬ Far x := by
  by_cases h : Pl.val xs % 2 = 0 ∨ Far x
  ·rw [if_pos h] at hd; cases hd
  ·exact ⟨by omega,fun hf => h (Or.inr hf)⟩
 obtain ⟨hm,hfar⟩ := hodd
 have hx : -1073741824 ≤ x ∧ x ≤ 1073741824 := by unfold Far at hfar; omega
 obtain ⟨k,hk⟩ := bl_ex (Pl.val xs)
 have hk2 := bl_limbs hw hk hlen
 have hk1 := bl_pos hk (by omega)
 have hn0 : 0 < n := by omega
 obtain ⟨m,hmv⟩ : ∃ m,m = Pl.val xs := ⟨_,rfl⟩
 rw [← hmv] at hnum hm hk
 have hB1 := (B_two h0 HB).2
 have hB2 := (B_two h0 HB).1
 have hF := h0.f52
 by_cases hno : (B : Int) < x + k - 1 ∨ x < max (1 - (B : Int) - (F : Int)) (x + (k : Int) - 1 - (F : Int))
 ·refine ⟨0,0,false,fun W a cap hl => ?_,fun W a cap hl => rBits_none E F B h0 HB s a n cap m k x W (hnum W a hl) hn0 hm hx hk hk2 hk1 hno⟩
  by_cases hov : (B : Int) < x + k - 1
  ·exact Bits_over E F B h0 HB s a n cap m k x W (hnum W a hl) hn0 hm hx hk hk2 hk1 hov
  ·exact Bits_under E F B h0 HB s a n cap m k x _ W (hnum W a hl) hn0 hm hx hk hk2 hk1 (by omega) rfl (by omega)
 have hov : x + k - 1 ≤ (B : Int) := by omega
 obtain ⟨L,hL⟩ : ∃ L : Int,1 - (B : Int) - (F : Int) = L := ⟨_,rfl⟩
 obtain ⟨t0,ht0⟩ : ∃ t0 : Int,x + (k : Int) - 1 - (F : Int) = t0 := ⟨_,rfl⟩
 rw [hL,ht0] at hno
 have hpF := pow_bound hF
 have hpF0 := pow_pos2 F
 have eF : IntKind.u64.wrap (2 ^ F) = ((2 ^ F : Nat) : Int) := by
  have := shl_u64 1 F (by omega)
  simpa using this
 have eS : IntKind.u64.wrap (2 ^ (E + F)) = ((2 ^ (F + E) : Nat) : Int) := by
  have h1 := pow_bound (show E + F ≤ 63 by have := h0.e11; omega)
  have := shl_u64 1 (E + F) (by omega)
  rw [Nat.add_comm F E]
  simpa using this
 have hS63 := pow_bound (show F + E ≤ 63 by have := h0.e11; omega)
 have hsplit : 2 ^ (F + E) = 2 ^ F * 2 ^ E := Nat.pow_add ..
 by_cases hc9 : t0 < L
 ·
  have hmax : max L t0 = L := by omega
  rw [hmax] at hno
  obtain ⟨j,hj⟩ : ∃ j : Nat,x - L = (j : Int) := ⟨(x - L).toNat,by omega⟩
  have hkj : k + j ≤ F := by omega
  have hN2 : m * 2 ^ j < 2 ^ F := by
   have h1 : m * 2 ^ j < 2 ^ k * 2 ^ j := Nat.mul_lt_mul_of_pos_right hk.1 (pow_pos2 j)
   rw [← Nat.pow_add] at h1
   exact Nat.lt_of_lt_of_le h1 (pow_bound hkj)
  obtain ⟨N,hNe⟩ : ∃ N,N = m * 2 ^ j := ⟨_,rfl⟩
  rw [← hNe] at hN2
  have eN : IntKind.u64.wrap ((m : Int) * 2 ^ j) = (N : Int) := by rw [hNe]; exact shl_u64 m j (by rw [← hNe]; omega)
  have hn2 : n ≤ 2 := by
   rw [← hn]
   refine two_limbs hw hN ?_
   rw [← hmv]
   have h1 := pow_bound (show k ≤ 53 by omega)
   have := hk.1
   omega
  have hBt : ∀ s : Bool,Bt E F (s.toNat * 2 ^ (F + E) + (0 * 2 ^ F + N)) s 0 N := fun s => ⟨hN2,pow_pos2 _,rfl⟩
  refine ⟨((s.toNat * 2 ^ (F + E) + (0 * 2 ^ F + N) : Nat) : Int),0,true,fun W a cap hl => ?_,fun W a cap hl => ?_⟩
  ·exact Bits_some E F B h0 HB s a n cap m k x L j N 0 0 N 0 _ W (hnum W a hl) hn0 hm hx hk hk2 hk1 hov (by rw [hL,ht0,hmax]) (by omega) hj (by omega) (by omega) eN hn2 (by omega) (by omega) (by omega) (hide (Nat.div_eq_of_lt hN2).symm) (hide (by omega)) (hide rfl) (hide (hBt s))
  ·cases s with
   | false =>
    have h1 := rBits_lo_L_false E F B h0 HB a n cap m k x L t0 j N (2 ^ F) W (hnum W a hl) hn0 hm hx hk hk2 hk1 hL ht0 (by omega) (by omega) (by omega) hj (by omega) eN hn2 eF hN2 hc9
    rw [show ((false.toNat * 2 ^ (F + E) + (0 * 2 ^ F + N) : Nat) : Int) = (N : Int) from by simp]
    exact h1
   | true => exact rBits_lo_L_true E F B h0 HB a n cap m k x L t0 j N (2 ^ F) (2 ^ (F + E)) _ W (hnum W a hl) hn0 hm hx hk hk2 hk1 hL ht0 (by omega) (by omega) (by omega) hj (by omega) eN hn2 eF hN2 eS (by simp; omega) (by simp; omega) hc9
 ·
  have hmax : max L t0 = t0 := by omega
  rw [hmax] at hno
  obtain ⟨j,hj⟩ : ∃ j : Nat,x - t0 = (j : Int) := ⟨(x - t0).toNat,by omega⟩
  have hkj : k + j = F + 1 := by omega
  have hN2 : m * 2 ^ j < 2 ^ (F + 1) := by
   have h1 : m * 2 ^ j < 2 ^ k * 2 ^ j := Nat.mul_lt_mul_of_pos_right hk.1 (pow_pos2 j)
   rw [← Nat.pow_add,hkj] at h1
   exact h1
  have hN1 : 2 ^ F ≤ m * 2 ^ j := by
   rcases hk.2 with h1 | h1
   ·omega
   ·have h2 : 2 ^ (k - 1) * 2 ^ j ≤ m * 2 ^ j := Nat.mul_le_mul_right _ h1
    rw [← Nat.pow_add,show k - 1 + j = F from by omega] at h2
    exact h2
  obtain ⟨N,hNe⟩ : ∃ N,N = m * 2 ^ j := ⟨_,rfl⟩
  rw [← hNe] at hN2 hN1
  rw [Nat.pow_succ] at hN2
  have eN : IntKind.u64.wrap ((m : Int) * 2 ^ j) = (N : Int) := by rw [hNe]; exact shl_u64 m j (by rw [← hNe]; omega)
  have hn2 : n ≤ 2 := by
   rw [← hn]
   refine two_limbs hw hN ?_
   rw [← hmv]
   have h1 := pow_bound (show k ≤ 53 by omega)
   have := hk.1
   omega
  obtain ⟨st,hst⟩ : ∃ st : Nat,t0 - L = (st : Int) := ⟨(t0 - L).toNat,by omega⟩
  have hst2 : st + 1 < 2 ^ E := by omega
  have hE11 := pow_bound h0.e11
  have hfr : N - 2 ^ F < 2 ^ F := by omega
  have hlow : (st + 1) * 2 ^ F + (N - 2 ^ F) < 2 ^ (F + E) := by
   have h1 : (st + 1 + 1) * 2 ^ F ≤ 2 ^ E * 2 ^ F := Nat.mul_le_mul_right _ hst2
   rw [Nat.add_mul,Nat.one_mul,Nat.mul_comm (2 ^ E),← hsplit] at h1
   omega
  have eX : IntKind.u64.wrap (((st + 1 : Nat) : Int) * 2 ^ F) = (((st + 1) * 2 ^ F : Nat) : Int) := shl_u64 (st + 1) F (by omega)
  have hBt : ∀ s : Bool,Bt E F (s.toNat * 2 ^ (F + E) + ((st + 1) * 2 ^ F + (N - 2 ^ F))) s (st + 1) (N - 2 ^ F) := fun s => ⟨hfr,hst2,rfl⟩
  refine ⟨((s.toNat * 2 ^ (F + E) + ((st + 1) * 2 ^ F + (N - 2 ^ F)) : Nat) : Int),0,true,fun W a cap hl => ?_,fun W a cap hl => ?_⟩
  ·exact Bits_some E F B h0 HB s a n cap m k x t0 j N st 1 (N - 2 ^ F) (st + 1) _ W (hnum W a hl) hn0 hm hx hk hk2 hk1 hov (by rw [hL,ht0,hmax]) (by omega) hj (by omega) (by omega) eN hn2 (by omega) (by omega) (by omega) (hide (Nat.div_eq_of_lt_le (by omega) (by omega)).symm) (hide (by omega)) (hide rfl) (hide (hBt s))
  ·cases s with
   | false =>
    have h1 := rBits_hi_t0_false E F B h0 HB a n cap m k x L t0 j N (2 ^ F) (N - 2 ^ F) (st + 1) ((st + 1) * 2 ^ F) W (hnum W a hl) hn0 hm hx hk hk2 hk1 hL ht0 (by omega) (by omega) (by omega) hj (by omega) (by omega) eN hn2 eF (by omega) hN1 (by omega) (by omega) eX (by omega) (by omega) (by omega)
    rw [show ((false.toNat * 2 ^ (F + E) + ((st + 1) * 2 ^ F + (N - 2 ^ F)) : Nat) : Int) = ((N - 2 ^ F : Nat) : Int) + (((st + 1) * 2 ^ F : Nat) : Int) from by simp only [Bool.toNat_false]; omega]
    exact h1
   | true => exact rBits_hi_t0_true E F B h0 HB a n cap m k x L t0 j N (2 ^ F) (N - 2 ^ F) (st + 1) ((st + 1) * 2 ^ F) (2 ^ (F + E)) _ W (hnum W a hl) hn0 hm hx hk hk2 hk1 hL ht0 (by omega) (by omega) (by omega) hj (by omega) (by omega) eN hn2 eF (by omega) hN1 (by omega) (by omega) eX (by omega) (by omega) eS (by simp only [Bool.toNat_true]; omega) (by simp only [Bool.toNat_true]; omega) (by omega)
theorem exactBits_any (E F : Int) (s : Bool) (a : Option Addr) (n cap : Nat) (xs : List Nat) (x : Int) (w : World) (hn : xs.length = n) (hb : n ≤ 35184372087808) (hl : Lim w a xs) (hw : Pl.Wf xs) :
  Calls Try.prog 3 #[.agg #[.int .i64 E,.int .i64 F],.agg #[.bool s,.slice a n cap,.int .i64 x]] w fun e w' => e = .returned (.bool true) ∧ Below w.heap.size w w' := by
 obtain ⟨v,er,i,hE,hR⟩ := bits_both E F s xs n x hn (by omega) hw
 exact exactBits_walk E F s a n cap xs x v er i w hn hb hl hw (hide fun W h => hR W a cap h) (hide fun W g c h => hE W _ c h)
end Go.Proofs.Ytjemjhaphannaaa
