/- The calls Fits, class and Split. -/
import Derived.Test.YtafeioonnhnpcaaFmSplit
namespace Go.Proofs.Ytafeioonnhnpcaa
open Go.RowKit

/-- The class of fields. -/
def cls (ex fr top : Nat) : Nat := if ex = 0 ∧ fr = 0 then 1 else if ex = 0 then 2 else if ex < top then 3 else if fr = 0 then 4 else 5
/-- A form that may not be. -/
def NoFo (E F : Int) : Prop := E < 2 ∨ 11 < E ∨ F < 1 ∨ 52 < F

set_option maxHeartbeats 400000 in
theorem fits_ok (E F b : Nat) (h : Fo E F) (hb : b < 2 ^ (F + E + 1)) (w : World) : Calls Try.prog 18 #[.agg #[.int .i64 E, .int .i64 F], .int .u64 b] w fun e w' => e = .returned (.int .i64 0) ∧ Below w.heap.size w w' := by
  obtain ⟨k, hk⟩ : ∃ k, k = F + E := ⟨_, rfl⟩
  have hk63 : k ≤ 63 := by have := h.sum; omega
  have HK := hide hk
  obtain ⟨q, hq⟩ : ∃ q, q = 0 := ⟨_, rfl⟩
  have HQ : Hid (q = b / 2 ^ (k + 1)) := hide (by rw [hq, hk, Nat.div_eq_of_lt hb])
  have HQ0 := hide hq
  clear hb hq
  clear hk
  go_enter Try.func18, Try.ntmps18
  go_wp2_with fail
  refine (check_ok _ _ _ h).mono ?_
  rintro e w1 ⟨rfl, hb1⟩
  have hS := (Fs.one w _ _).kept hb1
  obtain ⟨⟨z1_0_0, z1_0_1, -⟩, -⟩ := hS.cells
  go_wp2_with fail
  refine wp_region_any (by kernel_rfl) ?_
  refine wpAny_det [some (11, .int .u64 b), some (12, .agg #[.int .i64 E, .int .i64 F]), some (13, .int .i64 k), some (14, .agg #[.int .i64 E, .int .i64 F]), some (15, .int .i64 1), some (16, .int .i64 ((k + 1 : Nat) : Int)), some (17, .int .u64 (q : Int)), some (1, .int .u64 (q : Int))]
    (fun _ W9 => Fs w W9 [⟨w.heap.size, #[.int .i64 E, .int .i64 F], 23⟩]) _ _ rfl (by kernel_rfl) rfl rfl ?_ ?_ (hS).drew
  · intro l9 t9 W9 i9 hD hi9 hl9 hM
    obtain ⟨o9, ho9, hd9⟩ := (mem_ready.1 hi9).2
    have hin9 : i9 < 8 := by
      by_cases h : i9 < 8
      · exact h
      · rw [Array.getElem?_eq_none (by rw [hD.len]; simp; omega)] at hl9; cases hl9
    have hcase : i9 = 0 ∨ i9 = 1 ∨ i9 = 2 ∨ i9 = 3 ∨ i9 = 4 ∨ i9 = 5 ∨ i9 = 6 ∨ i9 = 7 := by omega
    clear hin9
    rcases hcase with rfl | rfl | rfl | rfl | rfl | rfl | rfl | rfl
    · cases ho9
      have r1 := hD.wait rfl 0 7 1 _ _ _ ⟨0, .phase⟩ hl9 rfl rfl (by simp) rfl rfl rfl
      clear hD hd9 hi9
      refine wpOp_step rfl (fun K hK => ?_)
      go_simp
      exact hK _ _ ⟨rfl, hM⟩
    · cases ho9
      have r2 := hD.old 2 _ rfl rfl
      have hM0 := hM
      have c9_0 := hM0.cellAt (b := w.heap.size) (cs := #[.int .i64 E, .int .i64 F]) (t := 23) (by simp) 0 _ rfl
      have c9_1 := hM0.cellAt (b := w.heap.size) (cs := #[.int .i64 E, .int .i64 F]) (t := 23) (by simp) 1 _ rfl
      clear hM0
      clear hD hd9 hi9
      refine wpOp_step rfl (fun K hK => ?_)
      go_simp
      exact hK _ _ ⟨rfl, hM⟩
    · cases ho9
      have r12 := hD.on 1 12 _ rfl (getD_true (hd9 ⟨1, .data⟩ (by simp) rfl))
      clear hD hd9 hi9
      refine wpOp_step rfl (fun K hK => ?_)
      go_simp
      go_wp2_with fail
      refine (place2 _ _ k _ h HK).mono ?_
      rintro en w9 ⟨rfl, hb9⟩
      exact hK _ _ ⟨rfl, hM.kept hb9⟩
    · cases ho9
      have r2 := hD.old 2 _ rfl rfl
      have hM0 := hM
      have c9_0 := hM0.cellAt (b := w.heap.size) (cs := #[.int .i64 E, .int .i64 F]) (t := 23) (by simp) 0 _ rfl
      have c9_1 := hM0.cellAt (b := w.heap.size) (cs := #[.int .i64 E, .int .i64 F]) (t := 23) (by simp) 1 _ rfl
      clear hM0
      clear hD hd9 hi9
      refine wpOp_step rfl (fun K hK => ?_)
      go_simp
      exact hK _ _ ⟨rfl, hM⟩
    · cases ho9
      have r14 := hD.on 3 14 _ rfl (getD_true (hd9 ⟨3, .data⟩ (by simp) rfl))
      clear hD hd9 hi9
      refine wpOp_step rfl (fun K hK => ?_)
      go_simp
      go_wp2_with fail
      refine (width2 _ _ _).mono ?_
      rintro en w9 ⟨rfl, hb9⟩
      exact hK _ _ ⟨rfl, hM.kept hb9⟩
    · cases ho9
      have r13 := hD.on 2 13 _ rfl (getD_true (hd9 ⟨2, .data⟩ (by simp) rfl))
      have r15 := hD.on 4 15 _ rfl (getD_true (hd9 ⟨4, .data⟩ (by simp) rfl))
      clear hD hd9 hi9
      refine wpOp_step rfl (fun K hK => ?_)
      go_simp
      exact hK _ _ ⟨act_eq (by (show Value.int _ _ = Value.int _ _; congr 1; (first | rfl | omega | (rw [IntKind.wrap_i64]; omega) | (rw [IntKind.wrap_u64]; omega)))), hM⟩
    · cases ho9
      have r11 := hD.on 0 11 _ rfl (getD_true (hd9 ⟨0, .data⟩ (by simp) rfl))
      have r16 := hD.on 5 16 _ rfl (getD_true (hd9 ⟨5, .data⟩ (by simp) rfl))
      clear hD hd9 hi9
      refine wpOp_step rfl (fun K hK => ?_)
      go_simp
      exact hK _ _ ⟨act_eq (by (show Value.int _ _ = Value.int _ _; congr 1; rw [unhide HQ]; simp)), hM⟩
    · cases ho9
      have r17 := hD.on 6 17 _ rfl (getD_true (hd9 ⟨6, .data⟩ (by simp) rfl))
      clear hD hd9 hi9
      refine wpOp_step rfl (fun K hK => ?_)
      go_simp
      exact hK _ _ ⟨rfl, hM⟩
  · intro l9 W9 hl9 hM
    clear hl9
    clear hS z1_0_0 z1_0_1
    have hS := hM
    clear hM
    simp only [Puts.lay, List.setIfInBounds_toArray, List.set_cons_zero, List.set_cons_succ]
    obtain ⟨⟨z2_0_0, z2_0_1, -⟩, -⟩ := hS.cells
    clear HQ
    obtain rfl := unhide HQ0
    go_wp2
    go_ret
    exact ⟨rfl, hS.fr⟩

set_option maxHeartbeats 400000 in
theorem fits_many (E F b : Nat) (h : Fo E F) (hb : 2 ^ (F + E + 1) ≤ b) (w : World) : Calls Try.prog 18 #[.agg #[.int .i64 E, .int .i64 F], .int .u64 b] w fun e w' => e = .returned (.int .i64 6) ∧ Below w.heap.size w w' := by
  obtain ⟨k, hk⟩ : ∃ k, k = F + E := ⟨_, rfl⟩
  have hk63 : k ≤ 63 := by have := h.sum; omega
  have HK := hide hk
  obtain ⟨q, hq⟩ : ∃ q, q = b / 2 ^ (k + 1) := ⟨_, rfl⟩
  have HQ := hide hq
  have hq0 : 0 < q := by rw [hq, hk]; exact Nat.div_pos hb (pow_pos2 _)
  clear hb hq
  clear hk
  go_enter Try.func18, Try.ntmps18
  go_wp2_with fail
  refine (check_ok _ _ _ h).mono ?_
  rintro e w1 ⟨rfl, hb1⟩
  have hS := (Fs.one w _ _).kept hb1
  obtain ⟨⟨z1_0_0, z1_0_1, -⟩, -⟩ := hS.cells
  go_wp2_with fail
  refine wp_region_any (by kernel_rfl) ?_
  refine wpAny_det [some (11, .int .u64 b), some (12, .agg #[.int .i64 E, .int .i64 F]), some (13, .int .i64 k), some (14, .agg #[.int .i64 E, .int .i64 F]), some (15, .int .i64 1), some (16, .int .i64 ((k + 1 : Nat) : Int)), some (17, .int .u64 (q : Int)), some (1, .int .u64 (q : Int))]
    (fun _ W9 => Fs w W9 [⟨w.heap.size, #[.int .i64 E, .int .i64 F], 23⟩]) _ _ rfl (by kernel_rfl) rfl rfl ?_ ?_ (hS).drew
  · intro l9 t9 W9 i9 hD hi9 hl9 hM
    obtain ⟨o9, ho9, hd9⟩ := (mem_ready.1 hi9).2
    have hin9 : i9 < 8 := by
      by_cases h : i9 < 8
      · exact h
      · rw [Array.getElem?_eq_none (by rw [hD.len]; simp; omega)] at hl9; cases hl9
    have hcase : i9 = 0 ∨ i9 = 1 ∨ i9 = 2 ∨ i9 = 3 ∨ i9 = 4 ∨ i9 = 5 ∨ i9 = 6 ∨ i9 = 7 := by omega
    clear hin9
    rcases hcase with rfl | rfl | rfl | rfl | rfl | rfl | rfl | rfl
    · cases ho9
      have r1 := hD.wait rfl 0 7 1 _ _ _ ⟨0, .phase⟩ hl9 rfl rfl (by simp) rfl rfl rfl
      clear hD hd9 hi9
      refine wpOp_step rfl (fun K hK => ?_)
      go_simp
      exact hK _ _ ⟨rfl, hM⟩
    · cases ho9
      have r2 := hD.old 2 _ rfl rfl
      have hM0 := hM
      have c9_0 := hM0.cellAt (b := w.heap.size) (cs := #[.int .i64 E, .int .i64 F]) (t := 23) (by simp) 0 _ rfl
      have c9_1 := hM0.cellAt (b := w.heap.size) (cs := #[.int .i64 E, .int .i64 F]) (t := 23) (by simp) 1 _ rfl
      clear hM0
      clear hD hd9 hi9
      refine wpOp_step rfl (fun K hK => ?_)
      go_simp
      exact hK _ _ ⟨rfl, hM⟩
    · cases ho9
      have r12 := hD.on 1 12 _ rfl (getD_true (hd9 ⟨1, .data⟩ (by simp) rfl))
      clear hD hd9 hi9
      refine wpOp_step rfl (fun K hK => ?_)
      go_simp
      go_wp2_with fail
      refine (place2 _ _ k _ h HK).mono ?_
      rintro en w9 ⟨rfl, hb9⟩
      exact hK _ _ ⟨rfl, hM.kept hb9⟩
    · cases ho9
      have r2 := hD.old 2 _ rfl rfl
      have hM0 := hM
      have c9_0 := hM0.cellAt (b := w.heap.size) (cs := #[.int .i64 E, .int .i64 F]) (t := 23) (by simp) 0 _ rfl
      have c9_1 := hM0.cellAt (b := w.heap.size) (cs := #[.int .i64 E, .int .i64 F]) (t := 23) (by simp) 1 _ rfl
      clear hM0
      clear hD hd9 hi9
      refine wpOp_step rfl (fun K hK => ?_)
      go_simp
      exact hK _ _ ⟨rfl, hM⟩
    · cases ho9
      have r14 := hD.on 3 14 _ rfl (getD_true (hd9 ⟨3, .data⟩ (by simp) rfl))
      clear hD hd9 hi9
      refine wpOp_step rfl (fun K hK => ?_)
      go_simp
      go_wp2_with fail
      refine (width2 _ _ _).mono ?_
      rintro en w9 ⟨rfl, hb9⟩
      exact hK _ _ ⟨rfl, hM.kept hb9⟩
    · cases ho9
      have r13 := hD.on 2 13 _ rfl (getD_true (hd9 ⟨2, .data⟩ (by simp) rfl))
      have r15 := hD.on 4 15 _ rfl (getD_true (hd9 ⟨4, .data⟩ (by simp) rfl))
      clear hD hd9 hi9
      refine wpOp_step rfl (fun K hK => ?_)
      go_simp
      exact hK _ _ ⟨act_eq (by (show Value.int _ _ = Value.int _ _; congr 1; (first | rfl | omega | (rw [IntKind.wrap_i64]; omega) | (rw [IntKind.wrap_u64]; omega)))), hM⟩
    · cases ho9
      have r11 := hD.on 0 11 _ rfl (getD_true (hd9 ⟨0, .data⟩ (by simp) rfl))
      have r16 := hD.on 5 16 _ rfl (getD_true (hd9 ⟨5, .data⟩ (by simp) rfl))
      clear hD hd9 hi9
      refine wpOp_step rfl (fun K hK => ?_)
      go_simp
      exact hK _ _ ⟨act_eq (by (show Value.int _ _ = Value.int _ _; congr 1; rw [unhide HQ]; simp)), hM⟩
    · cases ho9
      have r17 := hD.on 6 17 _ rfl (getD_true (hd9 ⟨6, .data⟩ (by simp) rfl))
      clear hD hd9 hi9
      refine wpOp_step rfl (fun K hK => ?_)
      go_simp
      exact hK _ _ ⟨rfl, hM⟩
  · intro l9 W9 hl9 hM
    clear hl9
    clear hS z1_0_0 z1_0_1
    have hS := hM
    clear hM
    simp only [Puts.lay, List.setIfInBounds_toArray, List.set_cons_zero, List.set_cons_succ]
    obtain ⟨⟨z2_0_0, z2_0_1, -⟩, -⟩ := hS.cells
    clear HQ
    go_wp2
    go_ret
    exact ⟨rfl, hS.fr⟩

set_option maxHeartbeats 400000 in
theorem fits_bad (E F : Int) (hbad : NoFo E F) (b : Int) (w : World) : Calls Try.prog 18 #[.agg #[.int .i64 E, .int .i64 F], .int .u64 b] w fun e w' => e = .returned (.int .i64 5) ∧ Below w.heap.size w w' := by
  unfold NoFo at hbad
  go_enter Try.func18, Try.ntmps18
  go_wp2_with fail
  refine (check_bad _ _ _ hbad).mono ?_
  rintro e w1 ⟨rfl, hb1⟩
  have hS := (Fs.one w _ _).kept hb1
  obtain ⟨⟨z1_0_0, z1_0_1, -⟩, -⟩ := hS.cells
  clear hbad
  go_wp2
  go_ret
  exact ⟨rfl, hS.fr⟩

set_option maxHeartbeats 400000 in
theorem class1 (ex fr top : Nat) (neg : Bool) (h0 : ex = 0) (h1 : fr = 0) (w : World) : Calls Try.prog 48 #[.agg #[.bool neg, .int .i64 ex, .int .u64 fr], .int .i64 top] w fun e w' => e = .returned (.int .u8 1) ∧ Below w.heap.size w w' := by
  subst h0
  subst h1
  go_enter Try.func48, Try.ntmps48
  go_wp2
  go_ret
  exact ⟨rfl, (Fs.one w _ _).fr⟩

set_option maxHeartbeats 400000 in
theorem class2 (ex fr top : Nat) (neg : Bool) (h0 : ex = 0) (h1 : 0 < fr) (w : World) : Calls Try.prog 48 #[.agg #[.bool neg, .int .i64 ex, .int .u64 fr], .int .i64 top] w fun e w' => e = .returned (.int .u8 2) ∧ Below w.heap.size w w' := by
  subst h0
  go_enter Try.func48, Try.ntmps48
  go_wp2
  go_ret
  exact ⟨rfl, (Fs.one w _ _).fr⟩

set_option maxHeartbeats 400000 in
theorem class3 (ex fr top : Nat) (neg : Bool) (h0 : 0 < ex) (h1 : ex < top) (w : World) : Calls Try.prog 48 #[.agg #[.bool neg, .int .i64 ex, .int .u64 fr], .int .i64 top] w fun e w' => e = .returned (.int .u8 3) ∧ Below w.heap.size w w' := by
  go_enter Try.func48, Try.ntmps48
  go_wp2
  go_ret
  exact ⟨rfl, (Fs.one w _ _).fr⟩

set_option maxHeartbeats 400000 in
theorem class4 (ex fr top : Nat) (neg : Bool) (h0 : 0 < ex) (h1 : top ≤ ex) (h2 : fr = 0) (w : World) : Calls Try.prog 48 #[.agg #[.bool neg, .int .i64 ex, .int .u64 fr], .int .i64 top] w fun e w' => e = .returned (.int .u8 4) ∧ Below w.heap.size w w' := by
  subst h2
  go_enter Try.func48, Try.ntmps48
  go_wp2
  go_ret
  exact ⟨rfl, (Fs.one w _ _).fr⟩

set_option maxHeartbeats 400000 in
theorem class5 (ex fr top : Nat) (neg : Bool) (h0 : 0 < ex) (h1 : top ≤ ex) (h2 : 0 < fr) (w : World) : Calls Try.prog 48 #[.agg #[.bool neg, .int .i64 ex, .int .u64 fr], .int .i64 top] w fun e w' => e = .returned (.int .u8 5) ∧ Below w.heap.size w w' := by
  go_enter Try.func48, Try.ntmps48
  go_wp2
  go_ret
  exact ⟨rfl, (Fs.one w _ _).fr⟩

theorem class_any (ex fr top : Nat) (neg : Bool) (w : World) : Calls Try.prog 48 #[.agg #[.bool neg, .int .i64 ex, .int .u64 fr], .int .i64 top] w fun e w' => e = .returned (.int .u8 (cls ex fr top : Int)) ∧ Below w.heap.size w w' := by
  unfold cls
  by_cases h0 : ex = 0
  · by_cases h1 : fr = 0
    · rw [if_pos ⟨h0, h1⟩]; exact class1 ex fr top neg h0 h1 w
    · rw [if_neg (fun h => h1 h.2), if_pos h0]; exact class2 ex fr top neg h0 (by omega) w
  · rw [if_neg (fun h => h0 h.1), if_neg h0]
    by_cases h1 : ex < top
    · rw [if_pos h1]; exact class3 ex fr top neg (by omega) h1 w
    · rw [if_neg h1]
      by_cases h2 : fr = 0
      · rw [if_pos h2]; exact class4 ex fr top neg (by omega) (by omega) h2 w
      · rw [if_neg h2]; exact class5 ex fr top neg (by omega) (by omega) (by omega) w

set_option maxHeartbeats 400000 in
theorem Split_ok (E F b ex fr : Nat) (neg : Bool) (h : Fo E F) (hB : Bt E F b neg ex fr) (w : World) : Calls Try.prog 10 #[.agg #[.int .i64 E, .int .i64 F], .int .u64 b] w fun e w' => e = .returned (.tuple #[.agg #[.bool neg, .int .i64 ex, .int .u64 fr], .int .i64 0]) ∧ Below w.heap.size w w' := by
  have HB := hide hB
  clear hB
  go_enter Try.func10, Try.ntmps10
  go_wp2_with fail
  refine (fits_ok _ _ _ h (unhide HB).lt _).mono ?_
  rintro e w1 ⟨rfl, hb1⟩
  have hS := (Fs.two w _ _ _ _).kept hb1
  obtain ⟨⟨z1_0_0, z1_0_1, -⟩, ⟨z1_1_0, z1_1_1, z1_1_2, -⟩, -⟩ := hS.cells
  go_wp2_with fail
  refine (split_any _ _ _ ex fr neg h (unhide HB) _).mono ?_
  rintro e w2 ⟨rfl, hb2⟩
  replace hS := hS.kept hb2
  clear z1_0_0 z1_0_1 z1_1_0 z1_1_1 z1_1_2
  obtain ⟨⟨z2_0_0, z2_0_1, -⟩, ⟨z2_1_0, z2_1_1, z2_1_2, -⟩, -⟩ := hS.cells
  have fz0 := hS.frozen (b := w.heap.size + 1) (cs := #[.bool false, .int .i64 0, .int .u64 0]) (t := 27) (by simp) 0
  have fz1 := hS.frozen (b := w.heap.size + 1) (cs := #[.bool false, .int .i64 0, .int .u64 0]) (t := 27) (by simp) 1
  have fz2 := hS.frozen (b := w.heap.size + 1) (cs := #[.bool false, .int .i64 0, .int .u64 0]) (t := 27) (by simp) 2
  go_wp2
  exact bodyPost_ret (v := .tuple #[.agg #[.bool neg, .int .i64 ex, .int .u64 fr], .int .i64 0]) (by simp [results, Try.results10, go_sem, z2_1_0, z2_1_1, z2_1_2]) rfl ⟨rfl, ((hS.fr.setCell (by simp) _).setCell (by simp) _).setCell (by simp) _⟩

end Go.Proofs.Ytafeioonnhnpcaa
