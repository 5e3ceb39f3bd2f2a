/- The document on Fits and Split. -/
import Derived.Test.YtafeioonnhnpcaaFmRef0
namespace Go.Proofs.Ytafeioonnhnpcaa
open Go.RowKit

set_option maxHeartbeats 400000 in
theorem rfits_ok_short (E F b : Nat) (h : Fo E F) (hs : E + F < 63) (hb : b < 2 ^ (F + E + 1)) (w : World) : Calls Try.prog 19 #[.agg #[.int .i64 E, .int .i64 F], .int .u64 b] w fun e w' => e = .returned (.int .i64 0) ∧ Below w.heap.size w w' := by
  obtain ⟨n, hn0⟩ : ∃ n, n = F + E + 1 := ⟨_, rfl⟩
  have hn : (1 : Int) + (E : Int) + (F : Int) = (n : Int) := by omega
  have hn63 : n ≤ 63 := by omega
  have hs1 : (E : Int) + (F : Int) < 63 := by omega
  obtain ⟨p, hp⟩ : ∃ p, p = 2 ^ n := ⟨_, rfl⟩
  have HP := hide hp
  have hbp : b < p := by rw [hp, hn0]; exact hb
  clear hb hp hn0 hs
  have h11 := h.e11
  have h52 := h.f52
  go_enter Try.func19, Try.ntmps19
  go_wp2_with fail
  refine (rcheck_ok _ _ _ h).mono ?_
  rintro e w1 ⟨rfl, hb1⟩
  have hS := (Fs.one w _ _).kept hb1
  obtain ⟨⟨z1_0_0, z1_0_1, -⟩, -⟩ := hS.cells
  go_wp2_with fail
  refine (rpow_any n p _ hn63 HP).mono ?_
  rintro e w2 ⟨rfl, hb2⟩
  replace hS := hS.kept hb2
  clear z1_0_0 z1_0_1
  obtain ⟨⟨z2_0_0, z2_0_1, -⟩, -⟩ := hS.cells
  go_wp2
  go_ret
  exact ⟨rfl, hS.fr⟩

set_option maxHeartbeats 400000 in
theorem rfits_many_short (E F b : Nat) (h : Fo E F) (hs : E + F < 63) (hb : 2 ^ (F + E + 1) ≤ b) (w : World) : Calls Try.prog 19 #[.agg #[.int .i64 E, .int .i64 F], .int .u64 b] w fun e w' => e = .returned (.int .i64 6) ∧ Below w.heap.size w w' := by
  obtain ⟨n, hn0⟩ : ∃ n, n = F + E + 1 := ⟨_, rfl⟩
  have hn : (1 : Int) + (E : Int) + (F : Int) = (n : Int) := by omega
  have hn63 : n ≤ 63 := by omega
  have hs1 : (E : Int) + (F : Int) < 63 := by omega
  obtain ⟨p, hp⟩ : ∃ p, p = 2 ^ n := ⟨_, rfl⟩
  have HP := hide hp
  have hbp : p ≤ b := by rw [hp, hn0]; exact hb
  clear hb hp hn0 hs
  have h11 := h.e11
  have h52 := h.f52
  go_enter Try.func19, Try.ntmps19
  go_wp2_with fail
  refine (rcheck_ok _ _ _ h).mono ?_
  rintro e w1 ⟨rfl, hb1⟩
  have hS := (Fs.one w _ _).kept hb1
  obtain ⟨⟨z1_0_0, z1_0_1, -⟩, -⟩ := hS.cells
  go_wp2_with fail
  refine (rpow_any n p _ hn63 HP).mono ?_
  rintro e w2 ⟨rfl, hb2⟩
  replace hS := hS.kept hb2
  clear z1_0_0 z1_0_1
  obtain ⟨⟨z2_0_0, z2_0_1, -⟩, -⟩ := hS.cells
  go_wp2
  go_ret
  exact ⟨rfl, hS.fr⟩

set_option maxHeartbeats 400000 in
theorem rfits_ok_long (b : Nat) (w : World) : Calls Try.prog 19 #[.agg #[.int .i64 (11 : Nat), .int .i64 (52 : Nat)], .int .u64 b] w fun e w' => e = .returned (.int .i64 0) ∧ Below w.heap.size w w' := by
  go_enter Try.func19, Try.ntmps19
  go_wp2_with fail
  refine (rcheck_ok 11 52 _ ⟨by decide, by decide, by decide, by decide⟩).mono ?_
  rintro e w1 ⟨rfl, hb1⟩
  have hS := (Fs.one w _ _).kept hb1
  obtain ⟨⟨z1_0_0, z1_0_1, -⟩, -⟩ := hS.cells
  go_wp2
  go_ret
  exact ⟨rfl, hS.fr⟩

theorem rfits_ok (E F b : Nat) (h : Fo E F) (hb : b < 2 ^ (F + E + 1)) (w : World) : Calls Try.prog 19 #[.agg #[.int .i64 E, .int .i64 F], .int .u64 b] w fun e w' => e = .returned (.int .i64 0) ∧ Below w.heap.size w w' := by
  by_cases hs : E + F < 63
  · exact rfits_ok_short E F b h hs hb w
  · obtain rfl : E = 11 := by have := h.e11; have := h.f52; omega
    obtain rfl : F = 52 := by have := h.f52; omega
    exact rfits_ok_long b w
theorem rfits_many (E F b : Nat) (h : Fo E F) (hb : 2 ^ (F + E + 1) ≤ b) (hb64 : b < 18446744073709551616) (w : World) : Calls Try.prog 19 #[.agg #[.int .i64 E, .int .i64 F], .int .u64 b] w fun e w' => e = .returned (.int .i64 6) ∧ Below w.heap.size w w' := by
  by_cases hs : E + F < 63
  · exact rfits_many_short E F b h hs hb w
  · exfalso
    have := pow_bound (show 64 ≤ F + E + 1 by omega)
    omega

set_option maxHeartbeats 400000 in
theorem rfits_bad (E F : Int) (hbad : NoFo E F) (b : Int) (w : World) : Calls Try.prog 19 #[.agg #[.int .i64 E, .int .i64 F], .int .u64 b] w fun e w' => e = .returned (.int .i64 5) ∧ Below w.heap.size w w' := by
  have HB := hide hbad
  clear hbad
  go_enter Try.func19, Try.ntmps19
  go_wp2_with fail
  refine (rcheck_bad _ _ _ (unhide HB)).mono ?_
  rintro e w1 ⟨rfl, hb1⟩
  have hS := (Fs.one w _ _).kept hb1
  obtain ⟨⟨z1_0_0, z1_0_1, -⟩, -⟩ := hS.cells
  go_wp2
  go_ret
  exact ⟨rfl, hS.fr⟩

set_option maxHeartbeats 400000 in
theorem rSplit_many (E F b : Nat) (h : Fo E F) (hb : 2 ^ (F + E + 1) ≤ b) (hb64 : b < 18446744073709551616) (w : World) : Calls Try.prog 11 #[.agg #[.int .i64 E, .int .i64 F], .int .u64 b] w fun e w' => e = .returned (.tuple #[.agg #[.bool false, .int .i64 0, .int .u64 0], .int .i64 6]) ∧ Below w.heap.size w w' := by
  have HB := hide hb
  clear hb
  go_enter Try.func11, Try.ntmps11
  go_wp2_with fail
  refine (rfits_many _ _ _ h (unhide HB) hb64 _).mono ?_
  rintro e w1 ⟨rfl, hb1⟩
  have hS := (Fs.two w _ _ _ _).kept hb1
  obtain ⟨⟨z1_0_0, z1_0_1, -⟩, ⟨z1_1_0, z1_1_1, z1_1_2, -⟩, -⟩ := hS.cells
  have fz0 := hS.frozen (b := w.heap.size + 1) (cs := #[.bool false, .int .i64 0, .int .u64 0]) (t := 27) (by simp) 0
  have fz1 := hS.frozen (b := w.heap.size + 1) (cs := #[.bool false, .int .i64 0, .int .u64 0]) (t := 27) (by simp) 1
  have fz2 := hS.frozen (b := w.heap.size + 1) (cs := #[.bool false, .int .i64 0, .int .u64 0]) (t := 27) (by simp) 2
  go_wp2
  exact bodyPost_ret (v := .tuple #[.agg #[.bool false, .int .i64 0, .int .u64 0], .int .i64 6]) (by simp [results, Try.results11, go_sem, z1_1_0, z1_1_1, z1_1_2]) rfl ⟨rfl, ((hS.fr.setCell (by simp) _).setCell (by simp) _).setCell (by simp) _⟩

set_option maxHeartbeats 400000 in
theorem rSplit_bad (E F : Int) (hbad : NoFo E F) (b : Int) (w : World) : Calls Try.prog 11 #[.agg #[.int .i64 E, .int .i64 F], .int .u64 b] w fun e w' => e = .returned (.tuple #[.agg #[.bool false, .int .i64 0, .int .u64 0], .int .i64 5]) ∧ Below w.heap.size w w' := by
  have HB := hide hbad
  clear hbad
  go_enter Try.func11, Try.ntmps11
  go_wp2_with fail
  refine (rfits_bad _ _ (unhide HB) _ _).mono ?_
  rintro e w1 ⟨rfl, hb1⟩
  have hS := (Fs.two w _ _ _ _).kept hb1
  obtain ⟨⟨z1_0_0, z1_0_1, -⟩, ⟨z1_1_0, z1_1_1, z1_1_2, -⟩, -⟩ := hS.cells
  have fz0 := hS.frozen (b := w.heap.size + 1) (cs := #[.bool false, .int .i64 0, .int .u64 0]) (t := 27) (by simp) 0
  have fz1 := hS.frozen (b := w.heap.size + 1) (cs := #[.bool false, .int .i64 0, .int .u64 0]) (t := 27) (by simp) 1
  have fz2 := hS.frozen (b := w.heap.size + 1) (cs := #[.bool false, .int .i64 0, .int .u64 0]) (t := 27) (by simp) 2
  go_wp2
  exact bodyPost_ret (v := .tuple #[.agg #[.bool false, .int .i64 0, .int .u64 0], .int .i64 5]) (by simp [results, Try.results11, go_sem, z1_1_0, z1_1_1, z1_1_2]) rfl ⟨rfl, ((hS.fr.setCell (by simp) _).setCell (by simp) _).setCell (by simp) _⟩

set_option maxHeartbeats 400000 in
theorem rSplit_ok (E F b ex fr : Nat) (neg : Bool) (h : Fo E F) (hB : Bt E F b neg ex fr) (w : World) : Calls Try.prog 11 #[.agg #[.int .i64 E, .int .i64 F], .int .u64 b] w fun e w' => e = .returned (.tuple #[.agg #[.bool neg, .int .i64 ex, .int .u64 fr], .int .i64 0]) ∧ Below w.heap.size w w' := by
  have HB := hide hB
  have hexl := hB.ex64 h
  have h11 := h.e11
  have h52 := h.f52
  obtain ⟨pE, hpE⟩ : ∃ p, p = 2 ^ E := ⟨_, rfl⟩
  have HPE := hide hpE
  obtain ⟨pF, hpF⟩ : ∃ p, p = 2 ^ F := ⟨_, rfl⟩
  have HPF := hide hpF
  obtain ⟨r, hr⟩ : ∃ r, r = b / pF := ⟨_, rfl⟩
  obtain ⟨s, hs⟩ : ∃ s, s = r / pE := ⟨_, rfl⟩
  have hb64 := hB.u64 h
  have hr64 : r < 18446744073709551616 := by have := Nat.div_le_self b pF; omega
  have hpE0 : 0 < pE := by rw [hpE]; exact pow_pos2 _
  have hpF0 : 0 < pF := by rw [hpF]; exact pow_pos2 _
  have hsn : s = neg.toNat := by rw [hs, hr, hpE, hpF]; exact hB.up_sign
  have hre : r % pE = ex := by rw [hr, hpE, hpF]; exact hB.up_exp
  have hbf : b % pF = fr := by rw [hpF]; exact hB.frac
  have d1 : (b : Int) / (pF : Int) = (r : Int) := by rw [hr]; simp
  have HD2 : Hid ((r : Int) / (pE : Int) = (s : Int)) := hide (by rw [hs]; simp)
  have HD3 : Hid ((r : Int) % (pE : Int) = (ex : Int)) := hide (by rw [← hre]; simp)
  have HD4 : Hid ((b : Int) % (pF : Int) = (fr : Int)) := hide (by rw [← hbf]; simp)
  have hs64 : s < 18446744073709551616 := by rw [hsn]; cases neg <;> decide
  have HSN : Hid (s = neg.toNat) := hide hsn
  clear hB hpE hpF hr hs hre hbf hsn
  go_enter Try.func11, Try.ntmps11
  go_wp2_with fail
  refine (rfits_ok _ _ _ h (unhide HB).lt _).mono ?_
  rintro e w1 ⟨rfl, hb1⟩
  have hS := (Fs.two w _ _ _ _).kept hb1
  obtain ⟨⟨z1_0_0, z1_0_1, -⟩, ⟨z1_1_0, z1_1_1, z1_1_2, -⟩, -⟩ := hS.cells
  go_wp2_with fail
  refine (rpow_any F pF _ (by omega) HPF).mono ?_
  rintro e w2 ⟨rfl, hb2⟩
  replace hS := hS.kept hb2
  clear z1_0_0 z1_0_1 z1_1_0 z1_1_1 z1_1_2
  obtain ⟨⟨z2_0_0, z2_0_1, -⟩, ⟨z2_1_0, z2_1_1, z2_1_2, -⟩, -⟩ := hS.cells
  go_wp2_with fail
  refine wp_region_any (by kernel_rfl) ?_
  refine wpAny_det [some (20, .int .u64 r), some (21, .pointer (some ⟨w.heap.size, 0, none⟩)), some (22, .int .i64 E), some (23, .int .u64 pE), some (24, .int .u64 s), some (25, .bool neg), some (26, .int .u64 r), some (27, .pointer (some ⟨w.heap.size, 0, none⟩)), some (28, .int .i64 E), some (29, .int .u64 pE), some (30, .int .u64 ex), some (31, .int .i64 ex), some (32, .int .u64 b), some (33, .pointer (some ⟨w.heap.size, 1, none⟩)), some (34, .int .i64 F), some (35, .int .u64 pF), some (36, .int .u64 fr), some (37, .agg #[.bool neg, .int .i64 ex, .int .u64 fr]), none, some (5, .int .i64 0)]
    (fun l9 W9 => Fs w W9 (pickBs l9 [(18, [⟨w.heap.size, #[.int .i64 E, .int .i64 F], 23⟩, ⟨w.heap.size + 1, #[.bool neg, .int .i64 ex, .int .u64 fr], 27⟩])] [⟨w.heap.size, #[.int .i64 E, .int .i64 F], 23⟩, ⟨w.heap.size + 1, #[.bool false, .int .i64 0, .int .u64 0], 27⟩])) _ _ rfl (by kernel_rfl) rfl rfl ?_ ?_ (hS).drew
  · intro l9 t9 W9 i9 hD hi9 hl9 hM
    obtain ⟨o9, ho9, hd9⟩ := (mem_ready.1 hi9).2
    have hin9 : i9 < 20 := by
      by_cases h : i9 < 20
      · exact h
      · rw [Array.getElem?_eq_none (by rw [hD.len]; simp; omega)] at hl9; cases hl9
    have hcase : i9 = 0 ∨ i9 = 1 ∨ i9 = 2 ∨ i9 = 3 ∨ i9 = 4 ∨ i9 = 5 ∨ i9 = 6 ∨ i9 = 7 ∨ i9 = 8 ∨ i9 = 9 ∨ i9 = 10 ∨ i9 = 11 ∨ i9 = 12 ∨ i9 = 13 ∨ i9 = 14 ∨ i9 = 15 ∨ i9 = 16 ∨ i9 = 17 ∨ i9 = 18 ∨ i9 = 19 := by omega
    clear hin9
    rcases hcase with rfl | rfl | rfl | rfl | rfl | rfl | rfl | rfl | rfl | rfl | rfl | rfl | rfl | rfl | rfl | rfl | rfl | rfl | rfl | rfl
    · cases ho9
      have r7 := hD.old 7 _ rfl rfl
      clear hD hd9 hi9
      refine wpOp_step rfl (fun K hK => ?_)
      go_simp
      exact hK _ _ ⟨rfl, (keepM rfl hM)⟩
    · cases ho9
      have r2 := hD.old 2 _ rfl rfl
      clear hD hd9 hi9
      refine wpOp_step rfl (fun K hK => ?_)
      go_simp
      exact hK _ _ ⟨rfl, (keepM rfl hM)⟩
    · cases ho9
      have r21 := hD.on 1 21 _ rfl (getD_true (hd9 ⟨1, .data⟩ (by simp) rfl))
      have hM0 : Fs w W9 [⟨w.heap.size, #[.int .i64 E, .int .i64 F], 23⟩, ⟨w.heap.size + 1, #[.bool false, .int .i64 0, .int .u64 0], 27⟩] := by
        have hM1 := hM
        simp only [pickBs] at hM1
        rw [if_neg (hD.waits 2 18 _ ⟨2, .phase⟩ hl9 rfl (by simp) rfl rfl)] at hM1
        exact hM1
      have c9_0 := hM0.cellAt (b := w.heap.size) (cs := #[.int .i64 E, .int .i64 F]) (t := 23) (by simp) 0 _ rfl
      clear hM0
      clear hD hd9 hi9
      refine wpOp_step rfl (fun K hK => ?_)
      go_simp
      exact hK _ _ ⟨rfl, (keepM rfl hM)⟩
    · cases ho9
      have r22 := hD.on 2 22 _ rfl (getD_true (hd9 ⟨2, .data⟩ (by simp) rfl))
      have hM0 : Fs w W9 [⟨w.heap.size, #[.int .i64 E, .int .i64 F], 23⟩, ⟨w.heap.size + 1, #[.bool false, .int .i64 0, .int .u64 0], 27⟩] := by
        have hM1 := hM
        simp only [pickBs] at hM1
        rw [if_neg (hD.waits 3 18 _ ⟨3, .phase⟩ hl9 rfl (by simp) rfl rfl)] at hM1
        exact hM1
      clear hD hd9 hi9
      refine wpOp_step rfl (fun K hK => ?_)
      go_simp
      go_wp2_with fail
      refine (rpow_any E pE _ (by omega) HPE).mono ?_
      rintro en w9 ⟨rfl, hb9⟩
      exact hK _ _ ⟨rfl, keepM rfl (hM.kept hb9)⟩
    · cases ho9
      have r20 := hD.on 0 20 _ rfl (getD_true (hd9 ⟨0, .data⟩ (by simp) rfl))
      have r23 := hD.on 3 23 _ rfl (getD_true (hd9 ⟨3, .data⟩ (by simp) rfl))
      clear hD hd9 hi9
      refine wpOp_step rfl (fun K hK => ?_)
      go_simp
      go_wp2_with fail
      exact ⟨act_eq (by (refine congrArg (Value.int _) ?_; first | exact unhide HD2 | (rw [unhide HD2, IntKind.wrap_u64]; omega) | (rw [Int.tdiv_eq_ediv_of_nonneg (by omega)]; exact unhide HD2) | (rw [Int.tmod_eq_emod_of_nonneg (by omega)]; exact unhide HD2))), (keepM rfl hM)⟩
    · cases ho9
      have r24 := hD.on 4 24 _ rfl (getD_true (hd9 ⟨4, .data⟩ (by simp) rfl))
      clear hD hd9 hi9
      refine wpOp_step rfl (fun K hK => ?_)
      go_simp
      exact hK _ _ ⟨act_eq (by (rw [unhide HSN]; cases neg <;> rfl)), (keepM rfl hM)⟩
    · cases ho9
      have r7 := hD.old 7 _ rfl rfl
      clear hD hd9 hi9
      refine wpOp_step rfl (fun K hK => ?_)
      go_simp
      exact hK _ _ ⟨rfl, (keepM rfl hM)⟩
    · cases ho9
      have r2 := hD.old 2 _ rfl rfl
      clear hD hd9 hi9
      refine wpOp_step rfl (fun K hK => ?_)
      go_simp
      exact hK _ _ ⟨rfl, (keepM rfl hM)⟩
    · cases ho9
      have r27 := hD.on 7 27 _ rfl (getD_true (hd9 ⟨7, .data⟩ (by simp) rfl))
      have hM0 : Fs w W9 [⟨w.heap.size, #[.int .i64 E, .int .i64 F], 23⟩, ⟨w.heap.size + 1, #[.bool false, .int .i64 0, .int .u64 0], 27⟩] := by
        have hM1 := hM
        simp only [pickBs] at hM1
        rw [if_neg (hD.waits 8 18 _ ⟨8, .phase⟩ hl9 rfl (by simp) rfl rfl)] at hM1
        exact hM1
      have c9_0 := hM0.cellAt (b := w.heap.size) (cs := #[.int .i64 E, .int .i64 F]) (t := 23) (by simp) 0 _ rfl
      clear hM0
      clear hD hd9 hi9
      refine wpOp_step rfl (fun K hK => ?_)
      go_simp
      exact hK _ _ ⟨rfl, (keepM rfl hM)⟩
    · cases ho9
      have r28 := hD.on 8 28 _ rfl (getD_true (hd9 ⟨8, .data⟩ (by simp) rfl))
      have hM0 : Fs w W9 [⟨w.heap.size, #[.int .i64 E, .int .i64 F], 23⟩, ⟨w.heap.size + 1, #[.bool false, .int .i64 0, .int .u64 0], 27⟩] := by
        have hM1 := hM
        simp only [pickBs] at hM1
        rw [if_neg (hD.waits 9 18 _ ⟨9, .phase⟩ hl9 rfl (by simp) rfl rfl)] at hM1
        exact hM1
      clear hD hd9 hi9
      refine wpOp_step rfl (fun K hK => ?_)
      go_simp
      go_wp2_with fail
      refine (rpow_any E pE _ (by omega) HPE).mono ?_
      rintro en w9 ⟨rfl, hb9⟩
      exact hK _ _ ⟨rfl, keepM rfl (hM.kept hb9)⟩
    · cases ho9
      have r26 := hD.on 6 26 _ rfl (getD_true (hd9 ⟨6, .data⟩ (by simp) rfl))
      have r29 := hD.on 9 29 _ rfl (getD_true (hd9 ⟨9, .data⟩ (by simp) rfl))
      clear hD hd9 hi9
      refine wpOp_step rfl (fun K hK => ?_)
      go_simp
      go_wp2_with fail
      exact ⟨act_eq (by (refine congrArg (Value.int _) ?_; first | exact unhide HD3 | (rw [unhide HD3, IntKind.wrap_u64]; omega) | (rw [Int.tdiv_eq_ediv_of_nonneg (by omega)]; exact unhide HD3) | (rw [Int.tmod_eq_emod_of_nonneg (by omega)]; exact unhide HD3))), (keepM rfl hM)⟩
    · cases ho9
      have r30 := hD.on 10 30 _ rfl (getD_true (hd9 ⟨10, .data⟩ (by simp) rfl))
      clear hD hd9 hi9
      refine wpOp_step rfl (fun K hK => ?_)
      go_simp
      exact hK _ _ ⟨act_eq (by (show Value.int _ _ = Value.int _ _; congr 1; (first | rfl | omega | (rw [IntKind.wrap_i64]; omega) | (rw [IntKind.wrap_u64]; omega)))), (keepM rfl hM)⟩
    · cases ho9
      have r1 := hD.old 1 _ rfl rfl
      clear hD hd9 hi9
      refine wpOp_step rfl (fun K hK => ?_)
      go_simp
      exact hK _ _ ⟨rfl, (keepM rfl hM)⟩
    · cases ho9
      have r2 := hD.old 2 _ rfl rfl
      clear hD hd9 hi9
      refine wpOp_step rfl (fun K hK => ?_)
      go_simp
      exact hK _ _ ⟨rfl, (keepM rfl hM)⟩
    · cases ho9
      have r33 := hD.on 13 33 _ rfl (getD_true (hd9 ⟨13, .data⟩ (by simp) rfl))
      have hM0 : Fs w W9 [⟨w.heap.size, #[.int .i64 E, .int .i64 F], 23⟩, ⟨w.heap.size + 1, #[.bool false, .int .i64 0, .int .u64 0], 27⟩] := by
        have hM1 := hM
        simp only [pickBs] at hM1
        rw [if_neg (hD.waits 14 18 _ ⟨14, .phase⟩ hl9 rfl (by simp) rfl rfl)] at hM1
        exact hM1
      have c9_0 := hM0.cellAt (b := w.heap.size) (cs := #[.int .i64 E, .int .i64 F]) (t := 23) (by simp) 1 _ rfl
      clear hM0
      clear hD hd9 hi9
      refine wpOp_step rfl (fun K hK => ?_)
      go_simp
      exact hK _ _ ⟨rfl, (keepM rfl hM)⟩
    · cases ho9
      have r34 := hD.on 14 34 _ rfl (getD_true (hd9 ⟨14, .data⟩ (by simp) rfl))
      have hM0 : Fs w W9 [⟨w.heap.size, #[.int .i64 E, .int .i64 F], 23⟩, ⟨w.heap.size + 1, #[.bool false, .int .i64 0, .int .u64 0], 27⟩] := by
        have hM1 := hM
        simp only [pickBs] at hM1
        rw [if_neg (hD.waits 15 18 _ ⟨15, .chain⟩ hl9 rfl (by simp) rfl rfl)] at hM1
        exact hM1
      clear hD hd9 hi9
      refine wpOp_step rfl (fun K hK => ?_)
      go_simp
      go_wp2_with fail
      refine (rpow_any F pF _ (by omega) HPF).mono ?_
      rintro en w9 ⟨rfl, hb9⟩
      exact hK _ _ ⟨rfl, keepM rfl (hM.kept hb9)⟩
    · cases ho9
      have r32 := hD.on 12 32 _ rfl (getD_true (hd9 ⟨12, .data⟩ (by simp) rfl))
      have r35 := hD.on 15 35 _ rfl (getD_true (hd9 ⟨15, .data⟩ (by simp) rfl))
      clear hD hd9 hi9
      refine wpOp_step rfl (fun K hK => ?_)
      go_simp
      go_wp2_with fail
      exact ⟨act_eq (by (refine congrArg (Value.int _) ?_; first | exact unhide HD4 | (rw [unhide HD4, IntKind.wrap_u64]; omega) | (rw [Int.tdiv_eq_ediv_of_nonneg (by omega)]; exact unhide HD4) | (rw [Int.tmod_eq_emod_of_nonneg (by omega)]; exact unhide HD4))), (keepM rfl hM)⟩
    · cases ho9
      have r25 := hD.on 5 25 _ rfl (getD_true (hd9 ⟨5, .data⟩ (by simp) rfl))
      have r31 := hD.on 11 31 _ rfl (getD_true (hd9 ⟨11, .data⟩ (by simp) rfl))
      have r36 := hD.on 16 36 _ rfl (getD_true (hd9 ⟨16, .data⟩ (by simp) rfl))
      clear hD hd9 hi9
      refine wpOp_step rfl (fun K hK => ?_)
      go_simp
      exact hK _ _ ⟨rfl, (keepM rfl hM)⟩
    · cases ho9
      have r4 := hD.old 4 _ rfl rfl
      have r37 := hD.on 17 37 _ rfl (getD_true (hd9 ⟨17, .data⟩ (by simp) rfl))
      have hM0 : Fs w W9 [⟨w.heap.size, #[.int .i64 E, .int .i64 F], 23⟩, ⟨w.heap.size + 1, #[.bool false, .int .i64 0, .int .u64 0], 27⟩] := by
        have hM1 := hM
        simp only [pickBs] at hM1
        rw [if_neg (by rw [hl9]; simp)] at hM1
        exact hM1
      have c9_0 := hM0.cellAt (b := w.heap.size + 1) (cs := #[.bool false, .int .i64 0, .int .u64 0]) (t := 27) (by simp) 0 _ rfl
      have z9_0 := hM0.frozen (b := w.heap.size + 1) (cs := #[.bool false, .int .i64 0, .int .u64 0]) (t := 27) (by simp) 0
      have c9_1 := hM0.cellAt (b := w.heap.size + 1) (cs := #[.bool false, .int .i64 0, .int .u64 0]) (t := 27) (by simp) 1 _ rfl
      have z9_1 := hM0.frozen (b := w.heap.size + 1) (cs := #[.bool false, .int .i64 0, .int .u64 0]) (t := 27) (by simp) 1
      have c9_2 := hM0.cellAt (b := w.heap.size + 1) (cs := #[.bool false, .int .i64 0, .int .u64 0]) (t := 27) (by simp) 2 _ rfl
      have z9_2 := hM0.frozen (b := w.heap.size + 1) (cs := #[.bool false, .int .i64 0, .int .u64 0]) (t := 27) (by simp) 2
      clear hD hd9 hi9
      refine wpOp_step rfl (fun K hK => ?_)
      go_simp
      exact hK _ _ ⟨rfl, putM trivial hl9 (((hM0.put (b := w.heap.size + 1) (cs := #[.bool false, .int .i64 0, .int .u64 0]) (t := 27) (by simp) (by simp) 0 (.bool neg) [⟨w.heap.size, #[.int .i64 E, .int .i64 F], 23⟩, ⟨w.heap.size + 1, #[.bool neg, .int .i64 0, .int .u64 0], 27⟩] (by simp)).put (b := w.heap.size + 1) (cs := #[.bool neg, .int .i64 0, .int .u64 0]) (t := 27) (by simp) (by simp) 1 (.int .i64 ex) [⟨w.heap.size, #[.int .i64 E, .int .i64 F], 23⟩, ⟨w.heap.size + 1, #[.bool neg, .int .i64 ex, .int .u64 0], 27⟩] (by simp)).put (b := w.heap.size + 1) (cs := #[.bool neg, .int .i64 ex, .int .u64 0]) (t := 27) (by simp) (by simp) 2 (.int .u64 fr) [⟨w.heap.size, #[.int .i64 E, .int .i64 F], 23⟩, ⟨w.heap.size + 1, #[.bool neg, .int .i64 ex, .int .u64 fr], 27⟩] (by simp))⟩
    · cases ho9
      clear hD hd9 hi9
      refine wpOp_step rfl (fun K hK => ?_)
      go_simp
      exact hK _ _ ⟨rfl, (keepM rfl hM)⟩
  · intro l9 W9 hl9 hM
    simp only [pickBs] at hM
    rw [if_pos (hl9 18 (by decide))] at hM
    clear hl9
    clear hS z2_0_0 z2_0_1 z2_1_0 z2_1_1 z2_1_2
    have hS := hM
    clear hM
    simp only [Puts.lay, List.setIfInBounds_toArray, List.set_cons_zero, List.set_cons_succ]
    obtain ⟨⟨z3_0_0, z3_0_1, -⟩, ⟨z3_1_0, z3_1_1, z3_1_2, -⟩, -⟩ := hS.cells
    go_wp2
    exact bodyPost_ret (v := .tuple #[.agg #[.bool neg, .int .i64 ex, .int .u64 fr], .int .i64 0]) (by simp [results, Try.results11, go_sem, z3_1_0, z3_1_1, z3_1_2]) rfl ⟨rfl, hS.fr⟩

end Go.Proofs.Ytafeioonnhnpcaa
