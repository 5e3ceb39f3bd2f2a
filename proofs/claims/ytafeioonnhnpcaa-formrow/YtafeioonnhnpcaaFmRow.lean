/- The law FormRow. -/
import Derived.Test.YtafeioonnhnpcaaFmBits
namespace Go.Proofs.Ytafeioonnhnpcaa
open Go.RowKit

set_option maxRecDepth 20000 in
set_option maxHeartbeats 2000000 in
theorem row_walk (E F : Int) (a k d n : Nat) (neg : Bool) (bv cv : Nat → Int) (h1 : a < k) (h2 : k < d) (h3 : d + 1 < n) (h4 : n < 18446744073709551616) (K1 : Says 16 #[.agg #[.int .i64 E, .int .i64 F]] (.int .i64 0)) (N1 : Says 22 #[.agg #[.int .i64 E, .int .i64 F], .bool neg] (.tuple #[.int .u64 (a : Nat), .int .i64 0])) (N2 : Says 32 #[.agg #[.int .i64 E, .int .i64 F], .bool neg] (.tuple #[.int .u64 ((a + 1 : Nat) : Int), .int .i64 0])) (N3 : Says 30 #[.agg #[.int .i64 E, .int .i64 F], .bool neg] (.tuple #[.int .u64 ((k + 1 : Nat) : Int), .int .i64 0])) (N4 : Says 28 #[.agg #[.int .i64 E, .int .i64 F], .bool neg] (.tuple #[.int .u64 (d : Nat), .int .i64 0])) (N5 : Says 24 #[.agg #[.int .i64 E, .int .i64 F], .bool neg] (.tuple #[.int .u64 ((d + 1 : Nat) : Int), .int .i64 0])) (N6 : Says 26 #[.agg #[.int .i64 E, .int .i64 F], .bool neg, .int .u64 0] (.tuple #[.int .u64 (n : Nat), .int .i64 0])) (hbv : ∀ m : Nat, m < 8 → (#[.int .u64 (a : Int), .int .u64 ((a : Int) + 1), .int .u64 (k : Int), .int .u64 ((k : Int) + 1), .int .u64 (d : Int), .int .u64 ((d : Int) + 1), .int .u64 ((d : Int) + 1 + 1), .int .u64 (n : Int)] : Array Value)[m]? = some (.int .u64 (bv m))) (hcv : ∀ m : Nat, m < 8 → (#[.int .u8 1, .int .u8 2, .int .u8 2, .int .u8 3, .int .u8 3, .int .u8 4, .int .u8 5, .int .u8 5] : Array Value)[m]? = some (.int .u8 (cv m))) (HC : ∀ m : Nat, m < 8 → Says 12 #[.agg #[.int .i64 E, .int .i64 F], .int .u64 (bv m)] (.tuple #[.int .u8 (cv m), .int .i64 0])) (w : World) : Calls Try.prog 7 #[.agg #[.int .i64 E, .int .i64 F], .bool neg] w fun e w' => e = .returned (.bool true) ∧ Below w.heap.size w w' := by
  have HBV := hide hbv
  have HCV := hide hcv
  have HCC := hide HC
  clear hbv hcv HC
  go_enter Try.func7, Try.ntmps7
  go_wp2_with fail
  refine (awake_any _).mono ?_
  rintro e w1 ⟨rfl, hb1⟩
  have hS := (Fs.one w _ _).kept hb1
  obtain ⟨⟨z1_0_0, z1_0_1, -⟩, -⟩ := hS.cells
  go_wp2_with fail
  refine (K1 _).mono ?_
  rintro e w2 ⟨rfl, hb2⟩
  replace hS := hS.kept hb2
  clear z1_0_0 z1_0_1
  obtain ⟨⟨z2_0_0, z2_0_1, -⟩, -⟩ := hS.cells
  go_wp2_with fail
  refine (N1 _).mono ?_
  rintro e w3 ⟨rfl, hb3⟩
  replace hS := hS.kept hb3
  clear z2_0_0 z2_0_1
  obtain ⟨⟨z3_0_0, z3_0_1, -⟩, -⟩ := hS.cells
  go_wp2_with fail
  refine (N2 _).mono ?_
  rintro e w4 ⟨rfl, hb4⟩
  replace hS := hS.kept hb4
  clear z3_0_0 z3_0_1
  obtain ⟨⟨z4_0_0, z4_0_1, -⟩, -⟩ := hS.cells
  go_wp2_with fail
  refine (N3 _).mono ?_
  rintro e w5 ⟨rfl, hb5⟩
  replace hS := hS.kept hb5
  clear z4_0_0 z4_0_1
  obtain ⟨⟨z5_0_0, z5_0_1, -⟩, -⟩ := hS.cells
  go_wp2_with fail
  refine (N4 _).mono ?_
  rintro e w6 ⟨rfl, hb6⟩
  replace hS := hS.kept hb6
  clear z5_0_0 z5_0_1
  obtain ⟨⟨z6_0_0, z6_0_1, -⟩, -⟩ := hS.cells
  go_wp2_with fail
  refine (N5 _).mono ?_
  rintro e w7 ⟨rfl, hb7⟩
  replace hS := hS.kept hb7
  clear z6_0_0 z6_0_1
  obtain ⟨⟨z7_0_0, z7_0_1, -⟩, -⟩ := hS.cells
  go_wp2_with fail
  refine (N6 _).mono ?_
  rintro e w8 ⟨rfl, hb8⟩
  replace hS := hS.kept hb8
  clear z7_0_0 z7_0_1
  obtain ⟨⟨z8_0_0, z8_0_1, -⟩, -⟩ := hS.cells
  have hlt : w.heap.size < w8.heap.size := block_lt (hS.bx ⟨w.heap.size, #[.int .i64 E, .int .i64 F], 23⟩ (by simp))
  go_wp2
  replace hS := (hS.alloc #[.int .u64 (a : Int), .int .u64 ((a : Int) + 1), .int .u64 (k : Int), .int .u64 ((k : Int) + 1), .int .u64 (d : Int), .int .u64 ((d : Int) + 1), .int .u64 ((d : Int) + 1 + 1), .int .u64 (n : Int)] 24).alloc #[.int .u8 1, .int .u8 2, .int .u8 2, .int .u8 3, .int .u8 3, .int .u8 4, .int .u8 5, .int .u8 5] 5
  rw [World.size_alloc] at hS
  have HS := hide hS
  clear hS hlt h1 h2 h3 h4 N1 N2 N3 N4 N5 N6 K1 z8_0_0 z8_0_1
  go_loopw [20] (fun s20 wr => ∃ m : Nat, m ≤ 8 ∧ s20 = .int .i64 (m : Int) ∧ Hid (Fs w wr [⟨w8.heap.size + 1, #[.int .u8 1, .int .u8 2, .int .u8 2, .int .u8 3, .int .u8 3, .int .u8 4, .int .u8 5, .int .u8 5], 5⟩, ⟨w8.heap.size, #[.int .u64 (a : Int), .int .u64 ((a : Int) + 1), .int .u64 (k : Int), .int .u64 ((k : Int) + 1), .int .u64 (d : Int), .int .u64 ((d : Int) + 1), .int .u64 ((d : Int) + 1 + 1), .int .u64 (n : Int)], 24⟩, ⟨w.heap.size, #[.int .i64 E, .int .i64 F], 23⟩])) (fun s20 _ => 8 - (intOf s20).toNat)
  case atStart => exact ⟨0, by decide, rfl, HS⟩
  case round =>
    obtain ⟨m, hm, rfl, HR⟩ := hrel
    clear HS
    by_cases hm8 : m = 8
    · subst hm8
      have hS := unhide HR
      clear HR
      go_wp2
      go_ret
      exact ⟨rfl, hS.fr⟩
    · have hm7 : m < 8 := by omega
      have hbm := unhide HBV m hm7
      have hcm := unhide HCV m hm7
      have Cm := unhide HCC m hm7
      have hS := unhide HR
      clear HR hm hm8
      go_wp2_with fail
      refine wp_region_any (by kernel_rfl) ?_
      refine wpAny_det [some (133, .agg #[.int .i64 E, .int .i64 F]), some (134, .slice (some ⟨w8.heap.size, 0, none⟩) 8 8), some (135, .int .i64 (m : Int)), some (136, .pointer (some ⟨w8.heap.size, m, none⟩)), some (137, .int .u64 (bv m)), some (138, .tuple #[.int .u8 (cv m), .int .i64 0]), some (132, .tuple #[.int .u8 (cv m), .int .i64 0]), some (139, .int .u8 (cv m)), some (140, .int .i64 0), some (21, .int .u8 (cv m)), some (22, .int .i64 0)]
        (fun _ W9 => Fs w W9 [⟨w8.heap.size + 1, #[.int .u8 1, .int .u8 2, .int .u8 2, .int .u8 3, .int .u8 3, .int .u8 4, .int .u8 5, .int .u8 5], 5⟩, ⟨w8.heap.size, #[.int .u64 (a : Int), .int .u64 ((a : Int) + 1), .int .u64 (k : Int), .int .u64 ((k : Int) + 1), .int .u64 (d : Int), .int .u64 ((d : Int) + 1), .int .u64 ((d : Int) + 1 + 1), .int .u64 (n : Int)], 24⟩, ⟨w.heap.size, #[.int .i64 E, .int .i64 F], 23⟩]) _ _ rfl (by kernel_rfl) rfl rfl ?_ ?_ (hS).drew
      · intro l9 t9 W9 i9 hD hi9 hl9 hM
        obtain ⟨o9, ho9, hd9⟩ := (mem_ready.1 hi9).2
        have hin9 : i9 < 11 := by
          by_cases h : i9 < 11
          · exact h
          · rw [Array.getElem?_eq_none (by rw [hD.len]; simp; omega)] at hl9; cases hl9
        have hcase : i9 = 0 ∨ i9 = 1 ∨ i9 = 2 ∨ i9 = 3 ∨ i9 = 4 ∨ i9 = 5 ∨ i9 = 6 ∨ i9 = 7 ∨ i9 = 8 ∨ i9 = 9 ∨ i9 = 10 := by omega
        clear hin9
        rcases hcase with rfl | rfl | rfl | rfl | rfl | rfl | rfl | rfl | rfl | rfl | rfl
        · cases ho9
          have r2 := hD.old 2 _ rfl rfl
          have hM0 := hM
          have c9_0 := hM0.cellAt (b := w.heap.size) (cs := #[.int .i64 E, .int .i64 F]) (t := 23) (by simp) 0 _ rfl
          have c9_1 := hM0.cellAt (b := w.heap.size) (cs := #[.int .i64 E, .int .i64 F]) (t := 23) (by simp) 1 _ rfl
          clear hM0
          clear hD hd9 hi9
          refine wpOp_step rfl (fun K hK => ?_)
          go_simp
          exact hK _ _ ⟨rfl, hM⟩
        · cases ho9
          have r18 := hD.old 18 _ rfl rfl
          clear hD hd9 hi9
          refine wpOp_step rfl (fun K hK => ?_)
          go_simp
          exact hK _ _ ⟨rfl, hM⟩
        · cases ho9
          have r20 := hD.old 20 _ rfl rfl
          clear hD hd9 hi9
          refine wpOp_step rfl (fun K hK => ?_)
          go_simp
          exact hK _ _ ⟨rfl, hM⟩
        · cases ho9
          have r134 := hD.on 1 134 _ rfl (getD_true (hd9 ⟨1, .data⟩ (by simp) rfl))
          have r135 := hD.on 2 135 _ rfl (getD_true (hd9 ⟨2, .data⟩ (by simp) rfl))
          clear hD hd9 hi9
          refine wpOp_step rfl (fun K hK => ?_)
          go_simp
          exact hK _ _ ⟨rfl, hM⟩
        · cases ho9
          have r136 := hD.on 3 136 _ rfl (getD_true (hd9 ⟨3, .data⟩ (by simp) rfl))
          have hM0 := hM
          have c9_0 := hM0.cellAt (b := w8.heap.size) (cs := #[.int .u64 (a : Int), .int .u64 ((a : Int) + 1), .int .u64 (k : Int), .int .u64 ((k : Int) + 1), .int .u64 (d : Int), .int .u64 ((d : Int) + 1), .int .u64 ((d : Int) + 1 + 1), .int .u64 (n : Int)]) (t := 24) (by simp) m _ hbm
          clear hM0
          clear hD hd9 hi9
          refine wpOp_step rfl (fun K hK => ?_)
          go_simp
          exact hK _ _ ⟨rfl, hM⟩
        · cases ho9
          have r133 := hD.on 0 133 _ rfl (getD_true (hd9 ⟨0, .data⟩ (by simp) rfl))
          have r137 := hD.on 4 137 _ rfl (getD_true (hd9 ⟨4, .data⟩ (by simp) rfl))
          clear hD hd9 hi9
          refine wpOp_step rfl (fun K hK => ?_)
          go_simp
          go_wp2_with fail
          refine (Cm _).mono ?_
          rintro en w9 ⟨rfl, hb9⟩
          exact hK _ _ ⟨rfl, hM.kept hb9⟩
        · cases ho9
          have r138 := hD.on 5 138 _ rfl (getD_true (hd9 ⟨5, .data⟩ (by simp) rfl))
          clear hD hd9 hi9
          refine wpOp_step rfl (fun K hK => ?_)
          go_simp
          exact hK _ _ ⟨rfl, hM⟩
        · cases ho9
          have r132 := hD.on 6 132 _ rfl (getD_true (hd9 ⟨6, .data⟩ (by simp) rfl))
          clear hD hd9 hi9
          refine wpOp_step rfl (fun K hK => ?_)
          go_simp
          exact hK _ _ ⟨rfl, hM⟩
        · cases ho9
          have r132 := hD.on 6 132 _ rfl (getD_true (hd9 ⟨6, .data⟩ (by simp) rfl))
          clear hD hd9 hi9
          refine wpOp_step rfl (fun K hK => ?_)
          go_simp
          exact hK _ _ ⟨rfl, hM⟩
        · cases ho9
          have r139 := hD.on 7 139 _ rfl (getD_true (hd9 ⟨7, .data⟩ (by simp) rfl))
          clear hD hd9 hi9
          refine wpOp_step rfl (fun K hK => ?_)
          go_simp
          exact hK _ _ ⟨rfl, hM⟩
        · cases ho9
          have r140 := hD.on 8 140 _ rfl (getD_true (hd9 ⟨8, .data⟩ (by simp) rfl))
          clear hD hd9 hi9
          refine wpOp_step rfl (fun K hK => ?_)
          go_simp
          exact hK _ _ ⟨rfl, hM⟩
      · intro l9 W9 hl9 hM
        clear hl9
        clear hS
        have hS := hM
        clear hM
        simp only [Puts.lay, List.setIfInBounds_toArray, List.set_cons_zero, List.set_cons_succ]
        obtain ⟨⟨z9_0_0, z9_0_1, z9_0_2, z9_0_3, z9_0_4, z9_0_5, z9_0_6, z9_0_7, -⟩, ⟨z9_1_0, z9_1_1, z9_1_2, z9_1_3, z9_1_4, z9_1_5, z9_1_6, z9_1_7, -⟩, ⟨z9_2_0, z9_2_1, -⟩, -⟩ := hS.cells
        have hw9 := hS.cellAt (b := w8.heap.size + 1) (cs := #[.int .u8 1, .int .u8 2, .int .u8 2, .int .u8 3, .int .u8 3, .int .u8 4, .int .u8 5, .int .u8 5]) (t := 5) (by simp) m _ hcm
        clear z9_0_0 z9_0_1 z9_0_2 z9_0_3 z9_0_4 z9_0_5 z9_0_6 z9_0_7 z9_1_0 z9_1_1 z9_1_2 z9_1_3 z9_1_4 z9_1_5 z9_1_6 z9_1_7 z9_2_0 z9_2_1
        go_wp2
        go_roundw
        case rel => exact ⟨m + 1, by omega, rfl, hide hS⟩
        case measure => simp [intOf]; omega

set_option maxHeartbeats 400000 in
theorem row_bad (E F : Int) (hbad : NoFo E F) (neg : Bool) (w : World) : Calls Try.prog 7 #[.agg #[.int .i64 E, .int .i64 F], .bool neg] w fun e w' => e = .returned (.bool true) ∧ Below w.heap.size w w' := by
  have HB := hide hbad
  clear hbad
  go_enter Try.func7, Try.ntmps7
  go_wp2_with fail
  refine (awake_any _).mono ?_
  rintro e w1 ⟨rfl, hb1⟩
  have hS := (Fs.one w _ _).kept hb1
  obtain ⟨⟨z1_0_0, z1_0_1, -⟩, -⟩ := hS.cells
  go_wp2_with fail
  refine (check_bad _ _ _ (unhide HB)).mono ?_
  rintro e w2 ⟨rfl, hb2⟩
  replace hS := hS.kept hb2
  clear z1_0_0 z1_0_1
  obtain ⟨⟨z2_0_0, z2_0_1, -⟩, -⟩ := hS.cells
  go_wp2
  go_ret
  exact ⟨rfl, hS.fr⟩

theorem row_class (e f b ex fr c : Nat) (neg : Bool) (h : Fo e f) (hB : Bt e f b neg ex fr) (hc : cls ex fr (2 ^ e - 1) = c) (z y : Int) (hz : z = (b : Int)) (hy : y = (c : Int)) :
    Says 12 #[.agg #[.int .i64 e, .int .i64 f], .int .u64 z] (.tuple #[.int .u8 y, .int .i64 0]) := by
  subst hz hy hc
  exact Class_ok e f b ex fr neg h hB _ (hide rfl)
theorem row_law (E F : Int) (neg : Bool) (w : World) : Calls Try.prog 7 #[.agg #[.int .i64 E, .int .i64 F], .bool neg] w fun e w' => e = .returned (.bool true) ∧ Below w.heap.size w w' := by
  rcases fo_cases E F with hbad | ⟨e, f, rfl, rfl, h⟩
  · exact row_bad E F hbad neg w
  · have he := pow_bound h.e2
    have hf := pow_bound h.f1
    have hg := pow_pos2 (f - 1)
    have hpow : 2 ^ f = 2 * 2 ^ (f - 1) := by rw [← Nat.pow_succ', Nat.succ_eq_add_one, Nat.sub_add_cancel h.f1]
    obtain ⟨s, hs⟩ : ∃ s, s = neg.toNat * 2 ^ (f + e) := ⟨_, rfl⟩
    obtain ⟨q, hq⟩ : ∃ q, 2 ^ e = q + 2 := ⟨2 ^ e - 2, by omega⟩
    obtain ⟨P, hP⟩ : ∃ P, 2 ^ f = P := ⟨_, rfl⟩
    obtain ⟨G, hG⟩ : ∃ G, 2 ^ (f - 1) = G := ⟨_, rfl⟩
    obtain ⟨t, ht⟩ : ∃ t, t = q * P := ⟨_, rfl⟩
    have ht1 : (q + 1) * P = t + P := by rw [Nat.succ_mul, ht]
    have htop : 2 ^ e - 1 = q + 1 := by omega
    have mk : ∀ ex fr b, ex < q + 2 → fr < P → b = s + (ex * P + fr) → Bt e f b neg ex fr := fun ex fr b h1 h2 h3 => ⟨by rw [hP]; exact h2, by rw [hq]; exact h1, by rw [← hs, hP]; exact h3⟩
    have b0 : Bt e f s neg 0 0 := mk _ _ _ (by omega) (by omega) (by omega)
    have b1 : Bt e f (s + 1) neg 0 1 := mk _ _ _ (by omega) (by omega) (by omega)
    have b2 : Bt e f (s + (P - 1)) neg 0 (P - 1) := mk _ _ _ (by omega) (by omega) (by omega)
    have b3 : Bt e f (s + (P - 1) + 1) neg 1 0 := mk _ _ _ (by omega) (by omega) (by omega)
    have b4 : Bt e f (s + (t + (P - 1))) neg q (P - 1) := mk _ _ _ (by omega) (by omega) (by rw [ht])
    have b5 : Bt e f (s + (t + (P - 1)) + 1) neg (q + 1) 0 := mk _ _ _ (by omega) (by omega) (by omega)
    have b6 : Bt e f (s + (t + (P - 1)) + 2) neg (q + 1) 1 := mk _ _ _ (by omega) (by omega) (by omega)
    have b7 : Bt e f (s + (t + P + G)) neg (q + 1) G := mk _ _ _ (by omega) (by omega) (by omega)
    have h64 := b7.u64 h
    have hG1 : 2 ^ (f - 1) + 0 = G := by omega
    have ht0 : 0 < t := by rw [ht]; exact Nat.mul_pos (by omega) (by omega)
    refine row_walk e f s (s + (P - 1)) (s + (t + (P - 1))) (s + (t + P + G)) neg
      (fun m => ([(s : Int), (s : Int) + 1, ((s + (P - 1) : Nat) : Int), ((s + (P - 1) : Nat) : Int) + 1, ((s + (t + (P - 1)) : Nat) : Int), ((s + (t + (P - 1)) : Nat) : Int) + 1, ((s + (t + (P - 1)) : Nat) : Int) + 1 + 1, ((s + (t + P + G) : Nat) : Int)] : List Int).getD m 0)
      (fun m => ([1, 2, 2, 3, 3, 4, 5, 5] : List Int).getD m 0) (by omega) (by omega) (by omega) h64 (fun W => check_ok e f W h)
      (Nought_ok e f _ neg h b0) (Least_ok e f _ neg h b1) (Normal_ok e f _ neg h b3) (Greatest_ok e f _ q (P - 1) neg h b4 (hide (by omega)) (hide (by omega))) (Inf_ok e f _ (q + 1) neg h b5 (hide (by omega)))
      (NaN_ok e f _ 0 (q + 1) G neg h (by omega) (by omega) (hide (by omega)) b7) ?_ ?_ ?_ w
    · intro m hm
      match m, hm with
      | 0, _ => rfl
      | 1, _ => rfl
      | 2, _ => rfl
      | 3, _ => rfl
      | 4, _ => rfl
      | 5, _ => rfl
      | 6, _ => rfl
      | 7, _ => rfl
      | m + 8, hm => omega
    · intro m hm
      match m, hm with
      | 0, _ => rfl
      | 1, _ => rfl
      | 2, _ => rfl
      | 3, _ => rfl
      | 4, _ => rfl
      | 5, _ => rfl
      | 6, _ => rfl
      | 7, _ => rfl
      | m + 8, hm => omega
    · have c2 : cls 0 1 (2 ^ e - 1) = 2 := by simp [cls]
      have c2' : cls 0 (P - 1) (2 ^ e - 1) = 2 := by unfold cls; rw [if_neg (by omega), if_pos rfl]
      have c3 : cls 1 0 (2 ^ e - 1) = 3 := by unfold cls; rw [if_neg (by omega), if_neg (by omega), if_pos (by omega)]
      have c3' : cls q (P - 1) (2 ^ e - 1) = 3 := by unfold cls; rw [if_neg (by omega), if_neg (by omega), if_pos (by omega)]
      have c4 : cls (q + 1) 0 (2 ^ e - 1) = 4 := by unfold cls; rw [if_neg (by omega), if_neg (by omega), if_neg (by omega), if_pos rfl]
      have c5 : cls (q + 1) 1 (2 ^ e - 1) = 5 := by unfold cls; rw [if_neg (by omega), if_neg (by omega), if_neg (by omega), if_neg (by omega)]
      have c5' : cls (q + 1) G (2 ^ e - 1) = 5 := by unfold cls; rw [if_neg (by omega), if_neg (by omega), if_neg (by omega), if_neg (by omega)]
      intro m hm
      match m, hm with
      | 0, _ => exact row_class e f s 0 0 1 neg h b0 (by simp [cls]) _ _ rfl rfl
      | 1, _ => exact row_class e f _ 0 1 2 neg h b1 c2 _ _ rfl rfl
      | 2, _ => exact row_class e f _ 0 _ 2 neg h b2 c2' _ _ rfl rfl
      | 3, _ => exact row_class e f _ 1 0 3 neg h b3 c3 _ _ rfl rfl
      | 4, _ => exact row_class e f _ q _ 3 neg h b4 c3' _ _ rfl rfl
      | 5, _ => exact row_class e f _ _ 0 4 neg h b5 c4 _ _ rfl rfl
      | 6, _ => exact row_class e f _ _ 1 5 neg h b6 c5 _ _ rfl rfl
      | 7, _ => exact row_class e f _ _ G 5 neg h b7 c5' _ _ rfl rfl
      | m + 8, hm => omega

end Go.Proofs.Ytafeioonnhnpcaa
