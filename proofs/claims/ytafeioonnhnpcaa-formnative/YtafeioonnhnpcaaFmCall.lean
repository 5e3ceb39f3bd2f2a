/- The calls Split, Class and Payload. -/
import Derived.Test.YtafeioonnhnpcaaFmFits
import Derived.OwnWalk
namespace Go.Proofs.Ytafeioonnhnpcaa
open Go.RowKit

theorem ret_q {pl : Int} {p q : Bool} {v : Value} (h : p = q) : Ending.returned (.tuple #[.int .u64 pl, .bool p, v]) = .returned (.tuple #[.int .u64 pl, .bool q, v]) := by rw [h]

set_option maxHeartbeats 400000 in
theorem Split_many (E F b : Nat) (h : Fo E F) (hb : 2 ^ (F + E + 1) ≤ b) (w : World) : Calls Try.prog 10 #[.agg #[.int .i64 E, .int .i64 F], .int .u64 b] w fun e w' => e = .returned (.tuple #[.agg #[.bool false, .int .i64 0, .int .u64 0], .int .i64 6]) ∧ Below w.heap.size w w' := by
  have HB := hide hb
  clear hb
  go_enter Try.func10, Try.ntmps10
  go_wp2_with fail
  refine (fits_many _ _ _ h (unhide HB) _).mono ?_
  rintro e w1 ⟨rfl, hb1⟩
  have hS := (Fs.two w _ _ _ _).kept hb1
  obtain ⟨⟨z1_0_0, z1_0_1, -⟩, ⟨z1_1_0, z1_1_1, z1_1_2, -⟩, -⟩ := hS.cells
  have fz0 := hS.frozen (b := w.heap.size + 1) (cs := #[.bool false, .int .i64 0, .int .u64 0]) (t := 27) (by simp) 0
  have fz1 := hS.frozen (b := w.heap.size + 1) (cs := #[.bool false, .int .i64 0, .int .u64 0]) (t := 27) (by simp) 1
  have fz2 := hS.frozen (b := w.heap.size + 1) (cs := #[.bool false, .int .i64 0, .int .u64 0]) (t := 27) (by simp) 2
  go_wp2
  exact bodyPost_ret (v := .tuple #[.agg #[.bool false, .int .i64 0, .int .u64 0], .int .i64 6]) (by simp [results, Try.results10, go_sem, z1_1_0, z1_1_1, z1_1_2]) rfl ⟨rfl, ((hS.fr.setCell (by simp) _).setCell (by simp) _).setCell (by simp) _⟩

set_option maxHeartbeats 400000 in
theorem Class_many (E F b : Nat) (h : Fo E F) (hb : 2 ^ (F + E + 1) ≤ b) (w : World) : Calls Try.prog 12 #[.agg #[.int .i64 E, .int .i64 F], .int .u64 b] w fun e w' => e = .returned (.tuple #[.int .u8 0, .int .i64 6]) ∧ Below w.heap.size w w' := by
  have HB := hide hb
  clear hb
  go_enter Try.func12, Try.ntmps12
  go_wp2_with fail
  refine (fits_many _ _ _ h (unhide HB) _).mono ?_
  rintro e w1 ⟨rfl, hb1⟩
  have hS := (Fs.one w _ _).kept hb1
  obtain ⟨⟨z1_0_0, z1_0_1, -⟩, -⟩ := hS.cells
  go_wp2
  go_ret2
  exact ⟨rfl, hS.fr⟩

set_option maxHeartbeats 400000 in
theorem Split_bad (E F : Int) (hbad : NoFo E F) (b : Int) (w : World) : Calls Try.prog 10 #[.agg #[.int .i64 E, .int .i64 F], .int .u64 b] w fun e w' => e = .returned (.tuple #[.agg #[.bool false, .int .i64 0, .int .u64 0], .int .i64 5]) ∧ Below w.heap.size w w' := by
  have HB := hide hbad
  clear hbad
  go_enter Try.func10, Try.ntmps10
  go_wp2_with fail
  refine (fits_bad _ _ (unhide HB) _ _).mono ?_
  rintro e w1 ⟨rfl, hb1⟩
  have hS := (Fs.two w _ _ _ _).kept hb1
  obtain ⟨⟨z1_0_0, z1_0_1, -⟩, ⟨z1_1_0, z1_1_1, z1_1_2, -⟩, -⟩ := hS.cells
  have fz0 := hS.frozen (b := w.heap.size + 1) (cs := #[.bool false, .int .i64 0, .int .u64 0]) (t := 27) (by simp) 0
  have fz1 := hS.frozen (b := w.heap.size + 1) (cs := #[.bool false, .int .i64 0, .int .u64 0]) (t := 27) (by simp) 1
  have fz2 := hS.frozen (b := w.heap.size + 1) (cs := #[.bool false, .int .i64 0, .int .u64 0]) (t := 27) (by simp) 2
  go_wp2
  exact bodyPost_ret (v := .tuple #[.agg #[.bool false, .int .i64 0, .int .u64 0], .int .i64 5]) (by simp [results, Try.results10, go_sem, z1_1_0, z1_1_1, z1_1_2]) rfl ⟨rfl, ((hS.fr.setCell (by simp) _).setCell (by simp) _).setCell (by simp) _⟩

set_option maxHeartbeats 400000 in
theorem Class_bad (E F : Int) (hbad : NoFo E F) (b : Int) (w : World) : Calls Try.prog 12 #[.agg #[.int .i64 E, .int .i64 F], .int .u64 b] w fun e w' => e = .returned (.tuple #[.int .u8 0, .int .i64 5]) ∧ Below w.heap.size w w' := by
  have HB := hide hbad
  clear hbad
  go_enter Try.func12, Try.ntmps12
  go_wp2_with fail
  refine (fits_bad _ _ (unhide HB) _ _).mono ?_
  rintro e w1 ⟨rfl, hb1⟩
  have hS := (Fs.one w _ _).kept hb1
  obtain ⟨⟨z1_0_0, z1_0_1, -⟩, -⟩ := hS.cells
  go_wp2
  go_ret2
  exact ⟨rfl, hS.fr⟩

set_option maxHeartbeats 400000 in
theorem Class_ok (E F b ex fr : Nat) (neg : Bool) (h : Fo E F) (hB : Bt E F b neg ex fr) (top : Nat) (ht : Hid (top = 2 ^ E - 1)) (w : World) : Calls Try.prog 12 #[.agg #[.int .i64 E, .int .i64 F], .int .u64 b] w fun e w' => e = .returned (.tuple #[.int .u8 (cls ex fr top : Int), .int .i64 0]) ∧ Below w.heap.size w w' := by
  have HB := hide hB
  clear hB
  go_enter Try.func12, Try.ntmps12
  go_wp2_with fail
  refine (fits_ok _ _ _ h (unhide HB).lt _).mono ?_
  rintro e w1 ⟨rfl, hb1⟩
  have hS := (Fs.one w _ _).kept hb1
  obtain ⟨⟨z1_0_0, z1_0_1, -⟩, -⟩ := hS.cells
  go_wp2_with fail
  refine wp_region_any (by kernel_rfl) ?_
  refine wpAny_det [some (13, .agg #[.int .i64 E, .int .i64 F]), some (14, .int .u64 b), some (15, .agg #[.bool neg, .int .i64 ex, .int .u64 fr]), some (16, .agg #[.int .i64 E, .int .i64 F]), some (17, .int .i64 top), some (18, .int .u8 (cls ex fr top : Int)), some (4, .int .u8 (cls ex fr top : Int)), some (5, .int .i64 0)]
    (fun _ W9 => Fs w W9 [⟨w.heap.size, #[.int .i64 E, .int .i64 F], 23⟩]) _ _ rfl (by kernel_rfl) rfl rfl ?_ ?_ (hS).drew
  · intro l9 t9 W9 i9 hD hi9 hl9 hM
    obtain ⟨o9, ho9, hd9⟩ := (mem_ready.1 hi9).2
    have hin9 : i9 < 8 := by
      by_cases h : i9 < 8
      · exact h
      · rw [Array.getElem?_eq_none (by rw [hD.len]; simp; omega)] at hl9; cases hl9
    have hcase : i9 = 0 ∨ i9 = 1 ∨ i9 = 2 ∨ i9 = 3 ∨ i9 = 4 ∨ i9 = 5 ∨ i9 = 6 ∨ i9 = 7 := by omega
    clear hin9
    rcases hcase with rfl | rfl | rfl | rfl | rfl | rfl | rfl | rfl
    · cases ho9
      have r2 := hD.old 2 _ rfl rfl
      have hM0 := hM
      have c9_0 := hM0.cellAt (b := w.heap.size) (cs := #[.int .i64 E, .int .i64 F]) (t := 23) (by simp) 0 _ rfl
      have c9_1 := hM0.cellAt (b := w.heap.size) (cs := #[.int .i64 E, .int .i64 F]) (t := 23) (by simp) 1 _ rfl
      clear hM0
      clear hD hd9 hi9
      refine wpOp_step rfl (fun K hK => ?_)
      go_simp
      exact hK _ _ ⟨rfl, hM⟩
    · cases ho9
      have r1 := hD.old 1 _ rfl rfl
      clear hD hd9 hi9
      refine wpOp_step rfl (fun K hK => ?_)
      go_simp
      exact hK _ _ ⟨rfl, hM⟩
    · cases ho9
      have r13 := hD.on 0 13 _ rfl (getD_true (hd9 ⟨0, .data⟩ (by simp) rfl))
      have r14 := hD.on 1 14 _ rfl (getD_true (hd9 ⟨1, .data⟩ (by simp) rfl))
      clear hD hd9 hi9
      refine wpOp_step rfl (fun K hK => ?_)
      go_simp
      go_wp2_with fail
      refine (split_any _ _ _ ex fr neg h (unhide HB) _).mono ?_
      rintro en w9 ⟨rfl, hb9⟩
      exact hK _ _ ⟨rfl, hM.kept hb9⟩
    · cases ho9
      have r2 := hD.old 2 _ rfl rfl
      have hM0 := hM
      have c9_0 := hM0.cellAt (b := w.heap.size) (cs := #[.int .i64 E, .int .i64 F]) (t := 23) (by simp) 0 _ rfl
      have c9_1 := hM0.cellAt (b := w.heap.size) (cs := #[.int .i64 E, .int .i64 F]) (t := 23) (by simp) 1 _ rfl
      clear hM0
      clear hD hd9 hi9
      refine wpOp_step rfl (fun K hK => ?_)
      go_simp
      exact hK _ _ ⟨rfl, hM⟩
    · cases ho9
      have r16 := hD.on 3 16 _ rfl (getD_true (hd9 ⟨3, .data⟩ (by simp) rfl))
      clear hD hd9 hi9
      refine wpOp_step rfl (fun K hK => ?_)
      go_simp
      go_wp2_with fail
      refine (lastExp_any _ _ top _ h ht).mono ?_
      rintro en w9 ⟨rfl, hb9⟩
      exact hK _ _ ⟨rfl, hM.kept hb9⟩
    · cases ho9
      have r15 := hD.on 2 15 _ rfl (getD_true (hd9 ⟨2, .data⟩ (by simp) rfl))
      have r17 := hD.on 4 17 _ rfl (getD_true (hd9 ⟨4, .data⟩ (by simp) rfl))
      clear hD hd9 hi9
      refine wpOp_step rfl (fun K hK => ?_)
      go_simp
      go_wp2_with fail
      refine (class_any _ _ _ _ _).mono ?_
      rintro en w9 ⟨rfl, hb9⟩
      exact hK _ _ ⟨rfl, hM.kept hb9⟩
    · cases ho9
      have r18 := hD.on 5 18 _ rfl (getD_true (hd9 ⟨5, .data⟩ (by simp) rfl))
      clear hD hd9 hi9
      refine wpOp_step rfl (fun K hK => ?_)
      go_simp
      exact hK _ _ ⟨rfl, hM⟩
    · cases ho9
      clear hD hd9 hi9
      refine wpOp_step rfl (fun K hK => ?_)
      go_simp
      exact hK _ _ ⟨rfl, hM⟩
  · intro l9 W9 hl9 hM
    clear hl9
    clear hS z1_0_0 z1_0_1
    have hS := hM
    clear hM
    simp only [Puts.lay, List.setIfInBounds_toArray, List.set_cons_zero, List.set_cons_succ]
    obtain ⟨⟨z2_0_0, z2_0_1, -⟩, -⟩ := hS.cells
    go_wp2
    go_ret2
    exact ⟨rfl, hS.fr⟩

set_option maxHeartbeats 400000 in
theorem Payload_many (E F b : Nat) (h : Fo E F) (hb : 2 ^ (F + E + 1) ≤ b) (w : World) : Calls Try.prog 14 #[.agg #[.int .i64 E, .int .i64 F], .int .u64 b] w fun e w' => e = .returned (.tuple #[.int .u64 0, .bool false, .int .i64 6]) ∧ Below w.heap.size w w' := by
  have HB := hide hb
  clear hb
  go_enter Try.func14, Try.ntmps14
  go_wp2_with fail
  refine (Class_many _ _ _ h (unhide HB) _).mono ?_
  rintro e w1 ⟨rfl, hb1⟩
  have hS := (Fs.one w _ _).kept hb1
  obtain ⟨⟨z1_0_0, z1_0_1, -⟩, -⟩ := hS.cells
  go_wp2
  go_ret3
  exact ⟨rfl, hS.fr⟩

set_option maxHeartbeats 400000 in
theorem Payload_bad (E F : Int) (hbad : NoFo E F) (b : Int) (w : World) : Calls Try.prog 14 #[.agg #[.int .i64 E, .int .i64 F], .int .u64 b] w fun e w' => e = .returned (.tuple #[.int .u64 0, .bool false, .int .i64 5]) ∧ Below w.heap.size w w' := by
  have HB := hide hbad
  clear hbad
  go_enter Try.func14, Try.ntmps14
  go_wp2_with fail
  refine (Class_bad _ _ (unhide HB) _ _).mono ?_
  rintro e w1 ⟨rfl, hb1⟩
  have hS := (Fs.one w _ _).kept hb1
  obtain ⟨⟨z1_0_0, z1_0_1, -⟩, -⟩ := hS.cells
  go_wp2
  go_ret3
  exact ⟨rfl, hS.fr⟩

set_option maxHeartbeats 400000 in
theorem Payload_num (E F b ex fr : Nat) (neg : Bool) (h : Fo E F) (hB : Bt E F b neg ex fr) (hc : cls ex fr (2 ^ E - 1) ≠ 5) (w : World) : Calls Try.prog 14 #[.agg #[.int .i64 E, .int .i64 F], .int .u64 b] w fun e w' => e = .returned (.tuple #[.int .u64 0, .bool false, .int .i64 2]) ∧ Below w.heap.size w w' := by
  have HB := hide hB
  obtain ⟨c, hcc⟩ : ∃ c, c = cls ex fr (2 ^ E - 1) := ⟨_, rfl⟩
  have h5 : c ≠ 5 := by rw [hcc]; exact hc
  have CC : ∀ W : World, Calls Try.prog 12 #[.agg #[.int .i64 E, .int .i64 F], .int .u64 b] W fun e w' => e = .returned (.tuple #[.int .u8 (c : Int), .int .i64 0]) ∧ Below W.heap.size W w' := fun W => by rw [hcc]; exact Class_ok E F b ex fr neg h (unhide HB) _ (hide rfl) W
  have HC := hide CC
  clear hB hcc hc CC
  go_enter Try.func14, Try.ntmps14
  go_wp2_with fail
  refine (unhide HC _).mono ?_
  rintro e w1 ⟨rfl, hb1⟩
  have hS := (Fs.one w _ _).kept hb1
  obtain ⟨⟨z1_0_0, z1_0_1, -⟩, -⟩ := hS.cells
  go_wp2
  go_ret3
  exact ⟨rfl, hS.fr⟩

set_option maxHeartbeats 400000 in
theorem Payload_nan (E F b ex fr : Nat) (neg : Bool) (h : Fo E F) (hB : Bt E F b neg ex fr) (pl : Nat) (q : Bool) (hc : cls ex fr (2 ^ E - 1) = 5) (hp : Hid (pl = fr % 2 ^ (F - 1))) (hq : Hid (q = decide (2 ^ (F - 1) ≤ fr))) (w : World) : Calls Try.prog 14 #[.agg #[.int .i64 E, .int .i64 F], .int .u64 b] w fun e w' => e = .returned (.tuple #[.int .u64 (pl : Int), .bool q, .int .i64 0]) ∧ Below w.heap.size w w' := by
  have HB := hide hB
  have CC : ∀ W : World, Calls Try.prog 12 #[.agg #[.int .i64 E, .int .i64 F], .int .u64 b] W fun e w' => e = .returned (.tuple #[.int .u8 5, .int .i64 0]) ∧ Below W.heap.size W w' := fun W => by have := Class_ok E F b ex fr neg h (unhide HB) _ (hide rfl) W; rw [hc] at this; exact this
  have HC := hide CC
  obtain ⟨m, hm⟩ : ∃ m, m = 2 ^ (F - 1) := ⟨_, rfl⟩
  have HM := hide hm
  have hpow : 2 ^ F = 2 * 2 ^ (F - 1) := by rw [← Nat.pow_succ', Nat.succ_eq_add_one, Nat.sub_add_cancel h.f1]
  have hbn : Go.bits .andNot .u64 (fr : Int) (m : Int) = (pl : Int) := by
    rw [hm, clear_top fr (F - 1) (by have := h.f52; omega) (by rw [Nat.sub_add_cancel h.f1]; exact hB.fr_lt), unhide hp]
  have HQ : Hid (((pl : Int) != (fr : Int)) = q) := hide (by
    have e : ((pl : Int) != (fr : Int)) = !decide (pl = fr) := by rw [Bool.eq_iff_iff]; simp [bne_iff_ne]; omega
    rw [e, unhide hq, unhide hp]
    have h1 := hB.fr_lt
    have h2 := pow_pos2 (F - 1)
    by_cases hx : 2 ^ (F - 1) ≤ fr
    · have := Nat.mod_lt fr h2
      have hne : fr % 2 ^ (F - 1) ≠ fr := by omega
      simp [hx, hne]
    · rw [Nat.mod_eq_of_lt (by omega)]
      simp [hx])
  clear hB hc CC hm hpow hp hq
  go_enter Try.func14, Try.ntmps14
  go_wp2_with fail
  refine (unhide HC _).mono ?_
  rintro e w1 ⟨rfl, hb1⟩
  have hS := (Fs.one w _ _).kept hb1
  obtain ⟨⟨z1_0_0, z1_0_1, -⟩, -⟩ := hS.cells
  go_wp2_with fail
  refine (take0 _ _ _ ex fr neg _ h (unhide HB)).mono ?_
  rintro e w2 ⟨rfl, hb2⟩
  replace hS := hS.kept hb2
  clear z1_0_0 z1_0_1
  obtain ⟨⟨z2_0_0, z2_0_1, -⟩, -⟩ := hS.cells
  go_wp2_with fail
  refine (quiet_any _ _ m _ h HM).mono ?_
  rintro e w3 ⟨rfl, hb3⟩
  replace hS := hS.kept hb3
  clear z2_0_0 z2_0_1
  obtain ⟨⟨z3_0_0, z3_0_1, -⟩, -⟩ := hS.cells
  go_wp2
  go_ret3
  exact ⟨ret_q (unhide HQ), hS.fr⟩

end Go.Proofs.Ytafeioonnhnpcaa
