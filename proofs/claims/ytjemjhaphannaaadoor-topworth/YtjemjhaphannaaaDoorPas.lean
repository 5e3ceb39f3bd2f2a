/- Of what TopWorthRow stands on: ExValue ExWo ExTopW ExTopLaw. -/
import Derived.Test.YtjemjhaphannaaaDoorPaq
import Derived.Test.YtjemjhaphannaaaDoorPar
import Derived.Test.YtjemjhaphannaaaDoorPab
import Derived.Test.YtjemjhaphannaaaDoorPap
namespace Go.Proofs.YtjemjhaphannaaaDoor
open Go.RowKit
theorem Class_1 (E F b ex fr : Nat) (neg : Bool) (h : Fo E F) (hB : Bt E F b neg ex fr) (hc : cls ex fr (2 ^ E - 1) = 1) (w : World) : Calls Tryd.prog 61 #[.agg #[.int .i64 E,.int .i64 F],.int .u64 b] w fun e w' => e = .returned (.tuple #[.int .u8 1,.int .i64 0]) ∧ Below w.heap.size w w' := by
 have := Class_ok E F b ex fr neg h hB (2 ^ E - 1) (hide rfl) w
 rw [hc] at this
 exact this
theorem Class_2 (E F b ex fr : Nat) (neg : Bool) (h : Fo E F) (hB : Bt E F b neg ex fr) (hc : cls ex fr (2 ^ E - 1) = 2) (w : World) : Calls Tryd.prog 61 #[.agg #[.int .i64 E,.int .i64 F],.int .u64 b] w fun e w' => e = .returned (.tuple #[.int .u8 2,.int .i64 0]) ∧ Below w.heap.size w w' := by
 have := Class_ok E F b ex fr neg h hB (2 ^ E - 1) (hide rfl) w
 rw [hc] at this
 exact this
theorem Class_3 (E F b ex fr : Nat) (neg : Bool) (h : Fo E F) (hB : Bt E F b neg ex fr) (hc : cls ex fr (2 ^ E - 1) = 3) (w : World) : Calls Tryd.prog 61 #[.agg #[.int .i64 E,.int .i64 F],.int .u64 b] w fun e w' => e = .returned (.tuple #[.int .u8 3,.int .i64 0]) ∧ Below w.heap.size w w' := by
 have := Class_ok E F b ex fr neg h hB (2 ^ E - 1) (hide rfl) w
 rw [hc] at this
 exact this
set_option maxHeartbeats 2000000 in
theorem Value_1 (E F B b ex fr : Nat) (s : Bool) (h0 : Fo E F) (HB : Hid (B = 2 ^ (E - 1) - 1)) (hB : Bt E F b s ex fr)  (hc : cls ex fr (2 ^ E - 1) = 1) (w : World)  :
  Calls Tryd.prog 18 #[.agg #[.int .i64 E,.int .i64 F],.int .u64 b] w fun e w' => e = .returned (.tuple #[.agg #[.bool false,.slice none 0 0,.int .i64 0],.int .i64 0]) ∧ Below w.heap.size w w' := by
 have hF := h0.f52
 have hBl : B ≤ 1023 := B_le h0 HB
 have eF : IntKind.u64.wrap (2 ^ F) = ((2 ^ F : Nat) : Int) := by
  have h1 := pow_bound hF
  have := shl_u64 1 F (by omega)
  simpa using this
 obtain ⟨pF,hpF⟩ : ∃ pF,pF = 2 ^ F := ⟨_,rfl⟩
 rw [← hpF] at eF
 have HP := hide hpF
 clear hpF
 have H0 := hide h0
 have HBt := hide hB
 have HC := hide hc
 clear h0 hB hc
 go_enter Tryd.func18,Tryd.ntmps18
 go_wp2_with fail
 refine (Class_1 E F b ex fr s (unhide H0) (unhide HBt) (unhide HC) _).mono ?_
 rintro e w1 ⟨rfl,hb1⟩
 have hS := (Fs.two w _ _ _ _).kept hb1
 obtain ⟨⟨z1_0_0,z1_0_1,-⟩,⟨z1_1_0,z1_1_1,z1_1_2,-⟩,-⟩ := hS.cells
 go_wp2_with fail
 refine (Split_ok E F b ex fr s (unhide H0) (unhide HBt) _).mono ?_
 rintro e w2 ⟨rfl,hb2⟩
 replace hS := hS.kept hb2
 clear z1_0_0 z1_0_1 z1_1_0 z1_1_1 z1_1_2
 obtain ⟨⟨z2_0_0,z2_0_1,-⟩,⟨z2_1_0,z2_1_1,z2_1_2,-⟩,-⟩ := hS.cells
 have hltw2_0 : w.heap.size < w2.heap.size := block_lt (hS.bx ⟨w.heap.size,#[.int .i64 E,.int .i64 F],38⟩ (by simp))
 have hltw2_1 : w.heap.size + 1 < w2.heap.size := block_lt (hS.bx ⟨w.heap.size + 1,#[.bool false,.slice none 0 0,.int .i64 0],26⟩ (by simp))
 replace hS := hS.alloc #[.bool s,.int .i64 ex,.int .u64 fr] 92
 go_wp2_with fail
 refine (Range_ok E F B (unhide H0) HB _).mono ?_
 rintro e w3 ⟨rfl,hb3⟩
 replace hS := hS.kept hb3
 clear z2_0_0 z2_0_1 z2_1_0 z2_1_1 z2_1_2
 obtain ⟨⟨z3_0_0,z3_0_1,z3_0_2,-⟩,⟨z3_1_0,z3_1_1,-⟩,⟨z3_2_0,z3_2_1,z3_2_2,-⟩,-⟩ := hS.cells
 go_wp2_with fail
 refine wp_region_any (by kernel_rfl) ?_
 refine wpAny_det [some (41,.int .u8 1),some (42,.agg #[.bool s,.int .i64 ex,.int .u64 fr]),some (43,.pointer (some ⟨w.heap.size,1,none⟩)),some (44,.int .i64 F),some (45,.int .u64 pF),some (46,.int .i64 (1 - (B : Int) - (F : Int))),some (47,.tuple #[.agg #[.bool false,.slice none 0 0,.int .i64 0],.int .i64 0]),some (48,.agg #[.bool false,.slice none 0 0,.int .i64 0]),some (49,.int .i64 0),none,some (5,.int .i64 0)]
  (fun l9 W9 => Fs w W9 (pickBs l9 [(9,[⟨w2.heap.size,#[.bool s,.int .i64 ex,.int .u64 fr],92⟩,⟨w.heap.size,#[.int .i64 E,.int .i64 F],38⟩,⟨w.heap.size + 1,#[.bool false,.slice none 0 0,.int .i64 0],26⟩])] [⟨w2.heap.size,#[.bool s,.int .i64 ex,.int .u64 fr],92⟩,⟨w.heap.size,#[.int .i64 E,.int .i64 F],38⟩,⟨w.heap.size + 1,#[.bool false,.slice none 0 0,.int .i64 0],26⟩])) _ _ rfl (by kernel_rfl) rfl rfl ?_ ?_ (hS).drew
 ·intro l9 t9 W9 i9 hD hi9 hl9 hM
  obtain ⟨o9,ho9,hd9⟩ := (mem_ready.1 hi9).2
  have hin9 : i9 < 11 := by
   by_cases h : i9 < 11
   ·exact h
   ·rw [Array.getElem?_eq_none (by rw [hD.len]; simp; omega)] at hl9; cases hl9
  have hcase : i9 = 0 ∨ i9 = 1 ∨ i9 = 2 ∨ i9 = 3 ∨ i9 = 4 ∨ i9 = 5 ∨ i9 = 6 ∨ i9 = 7 ∨ i9 = 8 ∨ i9 = 9 ∨ i9 = 10 := by omega
  clear hin9
  rcases hcase with rfl | rfl | rfl | rfl | rfl | rfl | rfl | rfl | rfl | rfl | rfl
  ·cases ho9
   have r6 := hD.old 6 _ rfl rfl
   clear hD hd9 hi9
   refine wpOp_step rfl (fun K hK => ?_)
   go_simp
   exact hK _ _ ⟨rfl,(keepM rfl hM)⟩
  ·cases ho9
   have r8 := hD.old 8 _ rfl rfl
   have hM0 : Fs w W9 [⟨w2.heap.size,#[.bool s,.int .i64 ex,.int .u64 fr],92⟩,⟨w.heap.size,#[.int .i64 E,.int .i64 F],38⟩,⟨w.heap.size + 1,#[.bool false,.slice none 0 0,.int .i64 0],26⟩] := by
    have hM1 := hM
    simp only [pickBs] at hM1
    rw [if_neg (hD.waits 1 9 _ ⟨1,.phase⟩ hl9 rfl (by simp) rfl rfl)] at hM1
    exact hM1
   have c9_0 := hM0.cellAt (b := w2.heap.size) (cs := #[.bool s,.int .i64 ex,.int .u64 fr]) (t := 92) (by simp) 0 _ rfl
   have c9_1 := hM0.cellAt (b := w2.heap.size) (cs := #[.bool s,.int .i64 ex,.int .u64 fr]) (t := 92) (by simp) 1 _ rfl
   have c9_2 := hM0.cellAt (b := w2.heap.size) (cs := #[.bool s,.int .i64 ex,.int .u64 fr]) (t := 92) (by simp) 2 _ rfl
   clear hM0
   clear hD hd9 hi9
   refine wpOp_step rfl (fun K hK => ?_)
   go_simp
   exact hK _ _ ⟨rfl,(keepM rfl hM)⟩
  ·cases ho9
   have r2 := hD.old 2 _ rfl rfl
   clear hD hd9 hi9
   refine wpOp_step rfl (fun K hK => ?_)
   go_simp
   exact hK _ _ ⟨rfl,(keepM rfl hM)⟩
  ·cases ho9
   have r43 := hD.on 2 43 _ rfl (getD_true (hd9 ⟨2,.data⟩ (by simp) rfl))
   have hM0 : Fs w W9 [⟨w2.heap.size,#[.bool s,.int .i64 ex,.int .u64 fr],92⟩,⟨w.heap.size,#[.int .i64 E,.int .i64 F],38⟩,⟨w.heap.size + 1,#[.bool false,.slice none 0 0,.int .i64 0],26⟩] := by
    have hM1 := hM
    simp only [pickBs] at hM1
    rw [if_neg (hD.waits 3 9 _ ⟨3,.phase⟩ hl9 rfl (by simp) rfl rfl)] at hM1
    exact hM1
   have c9_0 := hM0.cellAt (b := w.heap.size) (cs := #[.int .i64 E,.int .i64 F]) (t := 38) (by simp) 1 _ rfl
   clear hM0
   clear hD hd9 hi9
   refine wpOp_step rfl (fun K hK => ?_)
   go_simp
   exact hK _ _ ⟨rfl,(keepM rfl hM)⟩
  ·cases ho9
   have r44 := hD.on 3 44 _ rfl (getD_true (hd9 ⟨3,.data⟩ (by simp) rfl))
   clear hD hd9 hi9
   refine wpOp_step rfl (fun K hK => ?_)
   go_simp
   exact hK _ _ ⟨act_eq (by (show Value.int _ _ = Value.int _ _; first | rfl | (congr 1; first | exact eF | simpa using eF))),(keepM rfl hM)⟩
  ·cases ho9
   have r9 := hD.old 9 _ rfl rfl
   clear hD hd9 hi9
   refine wpOp_step rfl (fun K hK => ?_)
   go_simp
   exact hK _ _ ⟨rfl,(keepM rfl hM)⟩
  ·cases ho9
   have r41 := hD.on 0 41 _ rfl (getD_true (hd9 ⟨0,.data⟩ (by simp) rfl))
   have r42 := hD.on 1 42 _ rfl (getD_true (hd9 ⟨1,.data⟩ (by simp) rfl))
   have r45 := hD.on 4 45 _ rfl (getD_true (hd9 ⟨4,.data⟩ (by simp) rfl))
   have r46 := hD.on 5 46 _ rfl (getD_true (hd9 ⟨5,.data⟩ (by simp) rfl))
   have hM0 : Fs w W9 [⟨w2.heap.size,#[.bool s,.int .i64 ex,.int .u64 fr],92⟩,⟨w.heap.size,#[.int .i64 E,.int .i64 F],38⟩,⟨w.heap.size + 1,#[.bool false,.slice none 0 0,.int .i64 0],26⟩] := by
    have hM1 := hM
    simp only [pickBs] at hM1
    rw [if_neg (hD.waits 6 9 _ ⟨6,.chain⟩ hl9 rfl (by simp) rfl rfl)] at hM1
    exact hM1
   clear hD hd9 hi9
   refine wpOp_step rfl (fun K hK => ?_)
   go_simp
   go_wp2_with fail
   refine (worth_1 s ex fr pF (1 - (B : Int) - (F : Int)) _).mono ?_
   rintro en w9 ⟨rfl,hb9⟩
   exact hK _ _ ⟨rfl,keepM rfl (hM.kept hb9)⟩
  ·cases ho9
   have r47 := hD.on 6 47 _ rfl (getD_true (hd9 ⟨6,.data⟩ (by simp) rfl))
   clear hD hd9 hi9
   refine wpOp_step rfl (fun K hK => ?_)
   go_simp
   exact hK _ _ ⟨rfl,(keepM rfl hM)⟩
  ·cases ho9
   have r47 := hD.on 6 47 _ rfl (getD_true (hd9 ⟨6,.data⟩ (by simp) rfl))
   clear hD hd9 hi9
   refine wpOp_step rfl (fun K hK => ?_)
   go_simp
   exact hK _ _ ⟨rfl,(keepM rfl hM)⟩
  ·cases ho9
   have r4 := hD.old 4 _ rfl rfl
   have r48 := hD.on 7 48 _ rfl (getD_true (hd9 ⟨7,.data⟩ (by simp) rfl))
   have hM0 : Fs w W9 [⟨w2.heap.size,#[.bool s,.int .i64 ex,.int .u64 fr],92⟩,⟨w.heap.size,#[.int .i64 E,.int .i64 F],38⟩,⟨w.heap.size + 1,#[.bool false,.slice none 0 0,.int .i64 0],26⟩] := by
    have hM1 := hM
    simp only [pickBs] at hM1
    rw [if_neg (by rw [hl9]; simp)] at hM1
    exact hM1
   have c9_0 := hM0.cellAt (b := w.heap.size + 1) (cs := #[.bool false,.slice none 0 0,.int .i64 0]) (t := 26) (by simp) 0 _ rfl
   have z9_0 := hM0.frozen (b := w.heap.size + 1) (cs := #[.bool false,.slice none 0 0,.int .i64 0]) (t := 26) (by simp) 0
   have c9_1 := hM0.cellAt (b := w.heap.size + 1) (cs := #[.bool false,.slice none 0 0,.int .i64 0]) (t := 26) (by simp) 1 _ rfl
   have z9_1 := hM0.frozen (b := w.heap.size + 1) (cs := #[.bool false,.slice none 0 0,.int .i64 0]) (t := 26) (by simp) 1
   have c9_2 := hM0.cellAt (b := w.heap.size + 1) (cs := #[.bool false,.slice none 0 0,.int .i64 0]) (t := 26) (by simp) 2 _ rfl
   have z9_2 := hM0.frozen (b := w.heap.size + 1) (cs := #[.bool false,.slice none 0 0,.int .i64 0]) (t := 26) (by simp) 2
   clear hD hd9 hi9
   refine wpOp_step rfl (fun K hK => ?_)
   go_simp
   exact hK _ _ ⟨rfl,putM trivial hl9 (((hM0.put (b := w.heap.size + 1) (cs := #[.bool false,.slice none 0 0,.int .i64 0]) (t := 26) (by simp) (by simp) 0 (.bool false) [⟨w2.heap.size,#[.bool s,.int .i64 ex,.int .u64 fr],92⟩,⟨w.heap.size,#[.int .i64 E,.int .i64 F],38⟩,⟨w.heap.size + 1,#[.bool false,.slice none 0 0,.int .i64 0],26⟩] (by simp <;> omega)).put (b := w.heap.size + 1) (cs := #[.bool false,.slice none 0 0,.int .i64 0]) (t := 26) (by simp) (by simp) 1 (.slice none 0 0) [⟨w2.heap.size,#[.bool s,.int .i64 ex,.int .u64 fr],92⟩,⟨w.heap.size,#[.int .i64 E,.int .i64 F],38⟩,⟨w.heap.size + 1,#[.bool false,.slice none 0 0,.int .i64 0],26⟩] (by simp <;> omega)).put (b := w.heap.size + 1) (cs := #[.bool false,.slice none 0 0,.int .i64 0]) (t := 26) (by simp) (by simp) 2 (.int .i64 0) [⟨w2.heap.size,#[.bool s,.int .i64 ex,.int .u64 fr],92⟩,⟨w.heap.size,#[.int .i64 E,.int .i64 F],38⟩,⟨w.heap.size + 1,#[.bool false,.slice none 0 0,.int .i64 0],26⟩] (by simp <;> omega))⟩
  ·cases ho9
   have r49 := hD.on 8 49 _ rfl (getD_true (hd9 ⟨8,.data⟩ (by simp) rfl))
   clear hD hd9 hi9
   refine wpOp_step rfl (fun K hK => ?_)
   go_simp
   exact hK _ _ ⟨rfl,(keepM rfl hM)⟩
 ·intro l9 W9 hl9 hM
  simp only [pickBs] at hM
  rw [if_pos (hl9 9 (by decide))] at hM
  clear hl9
  clear hS z3_0_0 z3_0_1 z3_0_2 z3_1_0 z3_1_1 z3_2_0 z3_2_1 z3_2_2
  have hS := hM
  clear hM
  simp only [Puts.lay,List.setIfInBounds_toArray,List.set_cons_zero,List.set_cons_succ]
  obtain ⟨⟨z4_0_0,z4_0_1,z4_0_2,-⟩,⟨z4_1_0,z4_1_1,-⟩,⟨z4_2_0,z4_2_1,z4_2_2,-⟩,-⟩ := hS.cells
  go_wp2
  exact bodyPost_ret (v := .tuple #[.agg #[.bool false,.slice none 0 0,.int .i64 0],.int .i64 0]) (by simp [results,Tryd.results18,go_sem,z4_2_0,z4_2_1,z4_2_2]) rfl ⟨rfl,hS.fr⟩
set_option maxHeartbeats 2000000 in
theorem Value_normal (E F B b ex fr : Nat) (s : Bool) (h0 : Fo E F) (HB : Hid (B = 2 ^ (E - 1) - 1)) (hB : Bt E F b s ex fr) (M z : Nat) (xe : Int) (hc : cls ex fr (2 ^ E - 1) = 3) (w : World) (hM0 : 0 < M) (hM64 : M < 18446744073709551616) (hT : Tb w) (hz : Tz M z) (hz2 : z < 524288) (hbd : -1073741824 ≤ xe + z ∧ xe + z ≤ 1073741824) (hor : Hid (bits BinOp.or .u64 (fr : Int) ((2 ^ F : Nat) : Int) = (M : Int))) (hxe : (1 - (B : Int) - (F : Int)) + ((ex : Int) - 1) = xe) (hex : ex ≤ 4096) :
  Calls Tryd.prog 18 #[.agg #[.int .i64 E,.int .i64 F],.int .u64 b] w fun e w' => (∃ A N C,e = .returned (.tuple #[.agg #[.bool s,.slice A N C,.int .i64 (xe + (z : Int))],.int .i64 0]) ∧ Mine w' w.heap.size A N C (M / 2 ^ z)) ∧ Below w.heap.size w w' := by
 have hF := h0.f52
 have hBl : B ≤ 1023 := B_le h0 HB
 have eF : IntKind.u64.wrap (2 ^ F) = ((2 ^ F : Nat) : Int) := by
  have h1 := pow_bound hF
  have := shl_u64 1 F (by omega)
  simpa using this
 obtain ⟨pF,hpF⟩ : ∃ pF,pF = 2 ^ F := ⟨_,rfl⟩
 rw [← hpF] at eF
 have HP := hide hpF
 clear hpF
 have H0 := hide h0
 have HBt := hide hB
 have HC := hide hc
 clear h0 hB hc
 have HT := hide hT
 have HZ := hide hz
 have HM0 := hide hM0
 clear hT hz hM0
 go_enter Tryd.func18,Tryd.ntmps18
 go_wp2_with fail
 refine (Class_3 E F b ex fr s (unhide H0) (unhide HBt) (unhide HC) _).mono ?_
 rintro e w1 ⟨rfl,hb1⟩
 have hS := (Fs.two w _ _ _ _).kept hb1
 obtain ⟨⟨z1_0_0,z1_0_1,-⟩,⟨z1_1_0,z1_1_1,z1_1_2,-⟩,-⟩ := hS.cells
 go_wp2_with fail
 refine (Split_ok E F b ex fr s (unhide H0) (unhide HBt) _).mono ?_
 rintro e w2 ⟨rfl,hb2⟩
 replace hS := hS.kept hb2
 clear z1_0_0 z1_0_1 z1_1_0 z1_1_1 z1_1_2
 obtain ⟨⟨z2_0_0,z2_0_1,-⟩,⟨z2_1_0,z2_1_1,z2_1_2,-⟩,-⟩ := hS.cells
 have hltw2_0 : w.heap.size < w2.heap.size := block_lt (hS.bx ⟨w.heap.size,#[.int .i64 E,.int .i64 F],38⟩ (by simp))
 have hltw2_1 : w.heap.size + 1 < w2.heap.size := block_lt (hS.bx ⟨w.heap.size + 1,#[.bool false,.slice none 0 0,.int .i64 0],26⟩ (by simp))
 replace hS := hS.alloc #[.bool s,.int .i64 ex,.int .u64 fr] 92
 go_wp2_with fail
 refine (Range_ok E F B (unhide H0) HB _).mono ?_
 rintro e w3 ⟨rfl,hb3⟩
 replace hS := hS.kept hb3
 clear z2_0_0 z2_0_1 z2_1_0 z2_1_1 z2_1_2
 obtain ⟨⟨z3_0_0,z3_0_1,z3_0_2,-⟩,⟨z3_1_0,z3_1_1,-⟩,⟨z3_2_0,z3_2_1,z3_2_2,-⟩,-⟩ := hS.cells
 have hxe2 := hide hxe
 clear hxe
 go_wp2_with fail
 have hS3s : w.heap.size ≤ w3.heap.size := hS.size
 have hs9 : ∀ x9 : Nat × (Pk → World → Prop),x9 ∈ ([(6,fun q W => Mine W w3.heap.size q.A q.N q.C (M / 2 ^ z))] : List (Nat × (Pk → World → Prop))) → ∀ q9 : Pk,St w3.heap.size (x9.2 q9) := by
  intro x hx q
  simp only [List.mem_cons,List.not_mem_nil,or_false] at hx
  rcases hx with rfl
  ·exact st_mine _ _ _ _ _
 refine wp_region_any (by kernel_rfl) ?_
 refine wpAny_pick (fun p9 => [some (41,.int .u8 3),some (42,.agg #[.bool s,.int .i64 ex,.int .u64 fr]),some (43,.pointer (some ⟨w.heap.size,1,none⟩)),some (44,.int .i64 F),some (45,.int .u64 pF),some (46,.int .i64 (1 - (B : Int) - (F : Int))),some (47,.tuple #[.agg #[.bool s,.slice (p9 6).A (p9 6).N (p9 6).C,.int .i64 (xe + (z : Int))],.int .i64 0]),some (48,.agg #[.bool s,.slice (p9 6).A (p9 6).N (p9 6).C,.int .i64 (xe + (z : Int))]),some (49,.int .i64 0),none,some (5,.int .i64 0)])
  (fun p9 l9 W9 => Pm w w3.heap.size [(6,fun q W => Mine W w3.heap.size q.A q.N q.C (M / 2 ^ z))] p9 l9 W9 (pickBs l9 [(9,[⟨w2.heap.size,#[.bool s,.int .i64 ex,.int .u64 fr],92⟩,⟨w.heap.size,#[.int .i64 E,.int .i64 F],38⟩,⟨w.heap.size + 1,#[.bool s,.slice (p9 6).A (p9 6).N (p9 6).C,.int .i64 (xe + (z : Int))],26⟩])] [⟨w2.heap.size,#[.bool s,.int .i64 ex,.int .u64 fr],92⟩,⟨w.heap.size,#[.int .i64 E,.int .i64 F],38⟩,⟨w.heap.size + 1,#[.bool false,.slice none 0 0,.int .i64 0],26⟩])) _ _ (fun _ => rfl) (by kernel_rfl) (fun _ => rfl) (fun _ => rfl) ?_ ?_ (fun _ => ⟨none,0,0⟩) (Pm.start hS _ _ _)
 ·intro p9 l9 t9 W9 i9 hD hi9 hl9 hM
  obtain ⟨o9,ho9,hd9⟩ := (mem_ready.1 hi9).2
  have hin9 : i9 < 11 := by
   by_cases h : i9 < 11
   ·exact h
   ·rw [Array.getElem?_eq_none (by rw [hD.len]; simp; omega)] at hl9; cases hl9
  have hcase : i9 = 0 ∨ i9 = 1 ∨ i9 = 2 ∨ i9 = 3 ∨ i9 = 4 ∨ i9 = 5 ∨ i9 = 6 ∨ i9 = 7 ∨ i9 = 8 ∨ i9 = 9 ∨ i9 = 10 := by omega
  clear hin9
  rcases hcase with rfl | rfl | rfl | rfl | rfl | rfl | rfl | rfl | rfl | rfl | rfl
  ·cases ho9
   have r6 := hD.old 6 _ rfl rfl
   clear hD hd9 hi9
   refine wpOp_step rfl (fun K hK => ?_)
   go_simp
   exact hK _ _ ⟨p9,fun _ _ => rfl,rfl,(Pm.keepM rfl (hM.val rfl))⟩
  ·cases ho9
   have r8 := hD.old 8 _ rfl rfl
   have hM0 : Fs w W9 [⟨w2.heap.size,#[.bool s,.int .i64 ex,.int .u64 fr],92⟩,⟨w.heap.size,#[.int .i64 E,.int .i64 F],38⟩,⟨w.heap.size + 1,#[.bool false,.slice none 0 0,.int .i64 0],26⟩] := by
    have hM1 := hM.st
    simp only [pickBs] at hM1
    rw [if_neg (hD.waits 1 9 _ ⟨1,.phase⟩ hl9 rfl (by simp) rfl rfl)] at hM1
    exact hM1
   have c9_0 := hM0.cellAt (b := w2.heap.size) (cs := #[.bool s,.int .i64 ex,.int .u64 fr]) (t := 92) (by simp) 0 _ rfl
   have c9_1 := hM0.cellAt (b := w2.heap.size) (cs := #[.bool s,.int .i64 ex,.int .u64 fr]) (t := 92) (by simp) 1 _ rfl
   have c9_2 := hM0.cellAt (b := w2.heap.size) (cs := #[.bool s,.int .i64 ex,.int .u64 fr]) (t := 92) (by simp) 2 _ rfl
   clear hM0
   clear hD hd9 hi9
   refine wpOp_step rfl (fun K hK => ?_)
   go_simp
   exact hK _ _ ⟨p9,fun _ _ => rfl,rfl,(Pm.keepM rfl (hM.val rfl))⟩
  ·cases ho9
   have r2 := hD.old 2 _ rfl rfl
   clear hD hd9 hi9
   refine wpOp_step rfl (fun K hK => ?_)
   go_simp
   exact hK _ _ ⟨p9,fun _ _ => rfl,rfl,(Pm.keepM rfl (hM.val rfl))⟩
  ·cases ho9
   have r43 := hD.on 2 43 _ rfl (getD_true (hd9 ⟨2,.data⟩ (by simp) rfl))
   have hM0 : Fs w W9 [⟨w2.heap.size,#[.bool s,.int .i64 ex,.int .u64 fr],92⟩,⟨w.heap.size,#[.int .i64 E,.int .i64 F],38⟩,⟨w.heap.size + 1,#[.bool false,.slice none 0 0,.int .i64 0],26⟩] := by
    have hM1 := hM.st
    simp only [pickBs] at hM1
    rw [if_neg (hD.waits 3 9 _ ⟨3,.phase⟩ hl9 rfl (by simp) rfl rfl)] at hM1
    exact hM1
   have c9_0 := hM0.cellAt (b := w.heap.size) (cs := #[.int .i64 E,.int .i64 F]) (t := 38) (by simp) 1 _ rfl
   clear hM0
   clear hD hd9 hi9
   refine wpOp_step rfl (fun K hK => ?_)
   go_simp
   exact hK _ _ ⟨p9,fun _ _ => rfl,rfl,(Pm.keepM rfl (hM.val rfl))⟩
  ·cases ho9
   have r44 := hD.on 3 44 _ rfl (getD_true (hd9 ⟨3,.data⟩ (by simp) rfl))
   clear hD hd9 hi9
   refine wpOp_step rfl (fun K hK => ?_)
   go_simp
   exact hK _ _ ⟨p9,fun _ _ => rfl,act_eq (by (show Value.int _ _ = Value.int _ _; first | rfl | (congr 1; first | exact eF | simpa using eF))),(Pm.keepM rfl (hM.val rfl))⟩
  ·cases ho9
   have r9 := hD.old 9 _ rfl rfl
   clear hD hd9 hi9
   refine wpOp_step rfl (fun K hK => ?_)
   go_simp
   exact hK _ _ ⟨p9,fun _ _ => rfl,rfl,(Pm.keepM rfl (hM.val rfl))⟩
  ·cases ho9
   have r41 := hD.on 0 41 _ rfl (getD_true (hd9 ⟨0,.data⟩ (by simp) rfl))
   have r42 := hD.on 1 42 _ rfl (getD_true (hd9 ⟨1,.data⟩ (by simp) rfl))
   have r45 := hD.on 4 45 _ rfl (getD_true (hd9 ⟨4,.data⟩ (by simp) rfl))
   have r46 := hD.on 5 46 _ rfl (getD_true (hd9 ⟨5,.data⟩ (by simp) rfl))
   have hM0 : Fs w W9 [⟨w2.heap.size,#[.bool s,.int .i64 ex,.int .u64 fr],92⟩,⟨w.heap.size,#[.int .i64 E,.int .i64 F],38⟩,⟨w.heap.size + 1,#[.bool false,.slice none 0 0,.int .i64 0],26⟩] := by
    have hM1 := hM.st
    simp only [pickBs] at hM1
    rw [if_neg (hD.waits 6 9 _ ⟨6,.chain⟩ hl9 rfl (by simp) rfl rfl)] at hM1
    exact hM1
   have HD := hide hD
   have hn9 := hD.waits 6 9 _ ⟨6,.chain⟩ hl9 rfl (by simp) rfl rfl
   clear hD hd9 hi9
   refine wpOp_step rfl (fun K hK => ?_)
   go_simp
   go_wp2_with fail
   refine (worth_normal s ex fr pF (1 - (B : Int) - (F : Int)) M z xe _ (unhide HM0) hM64 ((unhide HT).kept hM.st.fr) (unhide HZ) hz2 hbd (by rw [unhide HP]; exact unhide hor) (unhide hxe2) (by omega)).mono ?_
   rintro en w9 ⟨⟨a9,n9,c9,rfl,h9⟩,hb9⟩
   refine hK _ _ ⟨p9.set 6 ⟨a9,n9,c9⟩,?_,rfl,(Pm.keepM rfl (((hM.kept hs9 hb9).pick ⟨a9,n9,c9⟩ ?_).into (by simp only [pickBs]; rw [if_neg hn9,if_neg hn9])))⟩
   ·refine (unhide HD).agree hl9 ?_
    intro k9 hk9 hd9
    clear HD hM hK
    match k9 with
    | 0 => rfl
    | 1 => rfl
    | 2 => rfl
    | 3 => rfl
    | 4 => rfl
    | 5 => rfl
    | 6 => exact absurd rfl hk9
    | 7 => exact nomatch hd9.symm.trans (show downB _ _ _ _ = true by kernel_rfl)
    | 8 => exact nomatch hd9.symm.trans (show downB _ _ _ _ = true by kernel_rfl)
    | 9 => exact nomatch hd9.symm.trans (show downB _ _ _ _ = true by kernel_rfl)
    | 10 => exact nomatch hd9.symm.trans (show downB _ _ _ _ = true by kernel_rfl)
    | k9 + 11 => rfl
   ·intro x hx he; simp only [List.mem_cons,List.not_mem_nil,or_false] at hx; subst hx; exact h9.mono hM.bw
  ·cases ho9
   have r47 := hD.on 6 47 _ rfl (getD_true (hd9 ⟨6,.data⟩ (by simp) rfl))
   clear hD hd9 hi9
   refine wpOp_step rfl (fun K hK => ?_)
   go_simp
   exact hK _ _ ⟨p9,fun _ _ => rfl,rfl,(Pm.keepM rfl (hM.val rfl))⟩
  ·cases ho9
   have r47 := hD.on 6 47 _ rfl (getD_true (hd9 ⟨6,.data⟩ (by simp) rfl))
   clear hD hd9 hi9
   refine wpOp_step rfl (fun K hK => ?_)
   go_simp
   exact hK _ _ ⟨p9,fun _ _ => rfl,rfl,(Pm.keepM rfl (hM.val rfl))⟩
  ·cases ho9
   have r4 := hD.old 4 _ rfl rfl
   have r48 := hD.on 7 48 _ rfl (getD_true (hd9 ⟨7,.data⟩ (by simp) rfl))
   have hM0 : Fs w W9 [⟨w2.heap.size,#[.bool s,.int .i64 ex,.int .u64 fr],92⟩,⟨w.heap.size,#[.int .i64 E,.int .i64 F],38⟩,⟨w.heap.size + 1,#[.bool false,.slice none 0 0,.int .i64 0],26⟩] := by
    have hM1 := hM.st
    simp only [pickBs] at hM1
    rw [if_neg (by rw [hl9]; simp)] at hM1
    exact hM1
   have c9_0 := hM0.cellAt (b := w.heap.size + 1) (cs := #[.bool false,.slice none 0 0,.int .i64 0]) (t := 26) (by simp) 0 _ rfl
   have z9_0 := hM0.frozen (b := w.heap.size + 1) (cs := #[.bool false,.slice none 0 0,.int .i64 0]) (t := 26) (by simp) 0
   have c9_1 := hM0.cellAt (b := w.heap.size + 1) (cs := #[.bool false,.slice none 0 0,.int .i64 0]) (t := 26) (by simp) 1 _ rfl
   have z9_1 := hM0.frozen (b := w.heap.size + 1) (cs := #[.bool false,.slice none 0 0,.int .i64 0]) (t := 26) (by simp) 1
   have c9_2 := hM0.cellAt (b := w.heap.size + 1) (cs := #[.bool false,.slice none 0 0,.int .i64 0]) (t := 26) (by simp) 2 _ rfl
   have z9_2 := hM0.frozen (b := w.heap.size + 1) (cs := #[.bool false,.slice none 0 0,.int .i64 0]) (t := 26) (by simp) 2
   clear hD hd9 hi9
   refine wpOp_step rfl (fun K hK => ?_)
   go_simp
   exact hK _ _ ⟨p9,fun _ _ => rfl,rfl,Pm.putM hl9 ((((hM.val rfl).put hs9 _ _ (block_lt (hS.bx _ (List.mem_of_getElem? (i := 2) rfl))) (hM0.put (b := w.heap.size + 1) (cs := #[.bool false,.slice none 0 0,.int .i64 0]) (t := 26) (by simp) (by simp) 0 (.bool s) [⟨w2.heap.size,#[.bool s,.int .i64 ex,.int .u64 fr],92⟩,⟨w.heap.size,#[.int .i64 E,.int .i64 F],38⟩,⟨w.heap.size + 1,#[.bool s,.slice none 0 0,.int .i64 0],26⟩] (by simp <;> omega))).put hs9 _ _ (block_lt (hS.bx _ (List.mem_of_getElem? (i := 2) rfl))) ((hM0.put (b := w.heap.size + 1) (cs := #[.bool false,.slice none 0 0,.int .i64 0]) (t := 26) (by simp) (by simp) 0 (.bool s) [⟨w2.heap.size,#[.bool s,.int .i64 ex,.int .u64 fr],92⟩,⟨w.heap.size,#[.int .i64 E,.int .i64 F],38⟩,⟨w.heap.size + 1,#[.bool s,.slice none 0 0,.int .i64 0],26⟩] (by simp <;> omega)).put (b := w.heap.size + 1) (cs := #[.bool s,.slice none 0 0,.int .i64 0]) (t := 26) (by simp) (by simp) 1 (.slice (p9 6).A (p9 6).N (p9 6).C) [⟨w2.heap.size,#[.bool s,.int .i64 ex,.int .u64 fr],92⟩,⟨w.heap.size,#[.int .i64 E,.int .i64 F],38⟩,⟨w.heap.size + 1,#[.bool s,.slice (p9 6).A (p9 6).N (p9 6).C,.int .i64 0],26⟩] (by simp <;> omega))).put hs9 _ _ (block_lt (hS.bx _ (List.mem_of_getElem? (i := 2) rfl))) (((hM0.put (b := w.heap.size + 1) (cs := #[.bool false,.slice none 0 0,.int .i64 0]) (t := 26) (by simp) (by simp) 0 (.bool s) [⟨w2.heap.size,#[.bool s,.int .i64 ex,.int .u64 fr],92⟩,⟨w.heap.size,#[.int .i64 E,.int .i64 F],38⟩,⟨w.heap.size + 1,#[.bool s,.slice none 0 0,.int .i64 0],26⟩] (by simp <;> omega)).put (b := w.heap.size + 1) (cs := #[.bool s,.slice none 0 0,.int .i64 0]) (t := 26) (by simp) (by simp) 1 (.slice (p9 6).A (p9 6).N (p9 6).C) [⟨w2.heap.size,#[.bool s,.int .i64 ex,.int .u64 fr],92⟩,⟨w.heap.size,#[.int .i64 E,.int .i64 F],38⟩,⟨w.heap.size + 1,#[.bool s,.slice (p9 6).A (p9 6).N (p9 6).C,.int .i64 0],26⟩] (by simp <;> omega)).put (b := w.heap.size + 1) (cs := #[.bool s,.slice (p9 6).A (p9 6).N (p9 6).C,.int .i64 0]) (t := 26) (by simp) (by simp) 2 (.int .i64 (xe + (z : Int))) [⟨w2.heap.size,#[.bool s,.int .i64 ex,.int .u64 fr],92⟩,⟨w.heap.size,#[.int .i64 E,.int .i64 F],38⟩,⟨w.heap.size + 1,#[.bool s,.slice (p9 6).A (p9 6).N (p9 6).C,.int .i64 (xe + (z : Int))],26⟩] (by simp <;> omega)))⟩
  ·cases ho9
   have r49 := hD.on 8 49 _ rfl (getD_true (hd9 ⟨8,.data⟩ (by simp) rfl))
   clear hD hd9 hi9
   refine wpOp_step rfl (fun K hK => ?_)
   go_simp
   exact hK _ _ ⟨p9,fun _ _ => rfl,rfl,(Pm.keepM rfl (hM.val rfl))⟩
 ·intro p9 l9 W9 hl9 hM
  have fr10_6 := hM.fx _ (List.mem_of_getElem? (i := 0) rfl) (hl9 6 (by decide))
  replace hM := hM.st
  simp only [pickBs] at hM
  rw [if_pos (hl9 9 (by decide))] at hM
  clear hl9 hs9
  generalize p9 6 = q6 at *
  obtain ⟨Ar10_6,Nr10_6,Cr10_6⟩ := q6
  simp only [] at fr10_6
  clear hS z3_0_0 z3_0_1 z3_0_2 z3_1_0 z3_1_1 z3_2_0 z3_2_1 z3_2_2
  have hS := hM
  clear hM
  simp only [Puts.lay,List.setIfInBounds_toArray,List.set_cons_zero,List.set_cons_succ]
  obtain ⟨⟨z4_0_0,z4_0_1,z4_0_2,-⟩,⟨z4_1_0,z4_1_1,-⟩,⟨z4_2_0,z4_2_1,z4_2_2,-⟩,-⟩ := hS.cells
  have F6 := hide fr10_6
  clear fr10_6
  go_wp2
  exact bodyPost_ret (v := .tuple #[.agg #[.bool s,.slice Ar10_6 Nr10_6 Cr10_6,.int .i64 (xe + (z : Int))],.int .i64 0]) (by simp [results,Tryd.results18,go_sem,z4_2_0,z4_2_1,z4_2_2]) rfl ⟨⟨_,_,_,rfl,(unhide F6).mono (by have := hS3s; omega)⟩,hS.fr⟩
set_option maxHeartbeats 2000000 in
theorem Value_small (E F B b ex fr : Nat) (s : Bool) (h0 : Fo E F) (HB : Hid (B = 2 ^ (E - 1) - 1)) (hB : Bt E F b s ex fr) (M z : Nat) (xe : Int) (hc : cls ex fr (2 ^ E - 1) = 2) (w : World) (hM0 : 0 < M) (hM64 : M < 18446744073709551616) (hT : Tb w) (hz : Tz M z) (hz2 : z < 524288) (hbd : -1073741824 ≤ xe + z ∧ xe + z ≤ 1073741824) (hfr : Hid (fr = M)) (hxe : (1 - (B : Int) - (F : Int)) = xe) :
  Calls Tryd.prog 18 #[.agg #[.int .i64 E,.int .i64 F],.int .u64 b] w fun e w' => (∃ A N C,e = .returned (.tuple #[.agg #[.bool s,.slice A N C,.int .i64 (xe + (z : Int))],.int .i64 0]) ∧ Mine w' w.heap.size A N C (M / 2 ^ z)) ∧ Below w.heap.size w w' := by
 have hF := h0.f52
 have hBl : B ≤ 1023 := B_le h0 HB
 have eF : IntKind.u64.wrap (2 ^ F) = ((2 ^ F : Nat) : Int) := by
  have h1 := pow_bound hF
  have := shl_u64 1 F (by omega)
  simpa using this
 obtain ⟨pF,hpF⟩ : ∃ pF,pF = 2 ^ F := ⟨_,rfl⟩
 rw [← hpF] at eF
 have HP := hide hpF
 clear hpF
 have H0 := hide h0
 have HBt := hide hB
 have HC := hide hc
 clear h0 hB hc
 have HT := hide hT
 have HZ := hide hz
 have HM0 := hide hM0
 clear hT hz hM0
 go_enter Tryd.func18,Tryd.ntmps18
 go_wp2_with fail
 refine (Class_2 E F b ex fr s (unhide H0) (unhide HBt) (unhide HC) _).mono ?_
 rintro e w1 ⟨rfl,hb1⟩
 have hS := (Fs.two w _ _ _ _).kept hb1
 obtain ⟨⟨z1_0_0,z1_0_1,-⟩,⟨z1_1_0,z1_1_1,z1_1_2,-⟩,-⟩ := hS.cells
 go_wp2_with fail
 refine (Split_ok E F b ex fr s (unhide H0) (unhide HBt) _).mono ?_
 rintro e w2 ⟨rfl,hb2⟩
 replace hS := hS.kept hb2
 clear z1_0_0 z1_0_1 z1_1_0 z1_1_1 z1_1_2
 obtain ⟨⟨z2_0_0,z2_0_1,-⟩,⟨z2_1_0,z2_1_1,z2_1_2,-⟩,-⟩ := hS.cells
 have hltw2_0 : w.heap.size < w2.heap.size := block_lt (hS.bx ⟨w.heap.size,#[.int .i64 E,.int .i64 F],38⟩ (by simp))
 have hltw2_1 : w.heap.size + 1 < w2.heap.size := block_lt (hS.bx ⟨w.heap.size + 1,#[.bool false,.slice none 0 0,.int .i64 0],26⟩ (by simp))
 replace hS := hS.alloc #[.bool s,.int .i64 ex,.int .u64 fr] 92
 go_wp2_with fail
 refine (Range_ok E F B (unhide H0) HB _).mono ?_
 rintro e w3 ⟨rfl,hb3⟩
 replace hS := hS.kept hb3
 clear z2_0_0 z2_0_1 z2_1_0 z2_1_1 z2_1_2
 obtain ⟨⟨z3_0_0,z3_0_1,z3_0_2,-⟩,⟨z3_1_0,z3_1_1,-⟩,⟨z3_2_0,z3_2_1,z3_2_2,-⟩,-⟩ := hS.cells
 have hxe2 := hide hxe
 clear hxe
 go_wp2_with fail
 have hS3s : w.heap.size ≤ w3.heap.size := hS.size
 have hs9 : ∀ x9 : Nat × (Pk → World → Prop),x9 ∈ ([(6,fun q W => Mine W w3.heap.size q.A q.N q.C (M / 2 ^ z))] : List (Nat × (Pk → World → Prop))) → ∀ q9 : Pk,St w3.heap.size (x9.2 q9) := by
  intro x hx q
  simp only [List.mem_cons,List.not_mem_nil,or_false] at hx
  rcases hx with rfl
  ·exact st_mine _ _ _ _ _
 refine wp_region_any (by kernel_rfl) ?_
 refine wpAny_pick (fun p9 => [some (41,.int .u8 2),some (42,.agg #[.bool s,.int .i64 ex,.int .u64 fr]),some (43,.pointer (some ⟨w.heap.size,1,none⟩)),some (44,.int .i64 F),some (45,.int .u64 pF),some (46,.int .i64 (1 - (B : Int) - (F : Int))),some (47,.tuple #[.agg #[.bool s,.slice (p9 6).A (p9 6).N (p9 6).C,.int .i64 (xe + (z : Int))],.int .i64 0]),some (48,.agg #[.bool s,.slice (p9 6).A (p9 6).N (p9 6).C,.int .i64 (xe + (z : Int))]),some (49,.int .i64 0),none,some (5,.int .i64 0)])
  (fun p9 l9 W9 => Pm w w3.heap.size [(6,fun q W => Mine W w3.heap.size q.A q.N q.C (M / 2 ^ z))] p9 l9 W9 (pickBs l9 [(9,[⟨w2.heap.size,#[.bool s,.int .i64 ex,.int .u64 fr],92⟩,⟨w.heap.size,#[.int .i64 E,.int .i64 F],38⟩,⟨w.heap.size + 1,#[.bool s,.slice (p9 6).A (p9 6).N (p9 6).C,.int .i64 (xe + (z : Int))],26⟩])] [⟨w2.heap.size,#[.bool s,.int .i64 ex,.int .u64 fr],92⟩,⟨w.heap.size,#[.int .i64 E,.int .i64 F],38⟩,⟨w.heap.size + 1,#[.bool false,.slice none 0 0,.int .i64 0],26⟩])) _ _ (fun _ => rfl) (by kernel_rfl) (fun _ => rfl) (fun _ => rfl) ?_ ?_ (fun _ => ⟨none,0,0⟩) (Pm.start hS _ _ _)
 ·intro p9 l9 t9 W9 i9 hD hi9 hl9 hM
  obtain ⟨o9,ho9,hd9⟩ := (mem_ready.1 hi9).2
  have hin9 : i9 < 11 := by
   by_cases h : i9 < 11
   ·exact h
   ·rw [Array.getElem?_eq_none (by rw [hD.len]; simp; omega)] at hl9; cases hl9
  have hcase : i9 = 0 ∨ i9 = 1 ∨ i9 = 2 ∨ i9 = 3 ∨ i9 = 4 ∨ i9 = 5 ∨ i9 = 6 ∨ i9 = 7 ∨ i9 = 8 ∨ i9 = 9 ∨ i9 = 10 := by omega
  clear hin9
  rcases hcase with rfl | rfl | rfl | rfl | rfl | rfl | rfl | rfl | rfl | rfl | rfl
  ·cases ho9
   have r6 := hD.old 6 _ rfl rfl
   clear hD hd9 hi9
   refine wpOp_step rfl (fun K hK => ?_)
   go_simp
   exact hK _ _ ⟨p9,fun _ _ => rfl,rfl,(Pm.keepM rfl (hM.val rfl))⟩
  ·cases ho9
   have r8 := hD.old 8 _ rfl rfl
   have hM0 : Fs w W9 [⟨w2.heap.size,#[.bool s,.int .i64 ex,.int .u64 fr],92⟩,⟨w.heap.size,#[.int .i64 E,.int .i64 F],38⟩,⟨w.heap.size + 1,#[.bool false,.slice none 0 0,.int .i64 0],26⟩] := by
    have hM1 := hM.st
    simp only [pickBs] at hM1
    rw [if_neg (hD.waits 1 9 _ ⟨1,.phase⟩ hl9 rfl (by simp) rfl rfl)] at hM1
    exact hM1
   have c9_0 := hM0.cellAt (b := w2.heap.size) (cs := #[.bool s,.int .i64 ex,.int .u64 fr]) (t := 92) (by simp) 0 _ rfl
   have c9_1 := hM0.cellAt (b := w2.heap.size) (cs := #[.bool s,.int .i64 ex,.int .u64 fr]) (t := 92) (by simp) 1 _ rfl
   have c9_2 := hM0.cellAt (b := w2.heap.size) (cs := #[.bool s,.int .i64 ex,.int .u64 fr]) (t := 92) (by simp) 2 _ rfl
   clear hM0
   clear hD hd9 hi9
   refine wpOp_step rfl (fun K hK => ?_)
   go_simp
   exact hK _ _ ⟨p9,fun _ _ => rfl,rfl,(Pm.keepM rfl (hM.val rfl))⟩
  ·cases ho9
   have r2 := hD.old 2 _ rfl rfl
   clear hD hd9 hi9
   refine wpOp_step rfl (fun K hK => ?_)
   go_simp
   exact hK _ _ ⟨p9,fun _ _ => rfl,rfl,(Pm.keepM rfl (hM.val rfl))⟩
  ·cases ho9
   have r43 := hD.on 2 43 _ rfl (getD_true (hd9 ⟨2,.data⟩ (by simp) rfl))
   have hM0 : Fs w W9 [⟨w2.heap.size,#[.bool s,.int .i64 ex,.int .u64 fr],92⟩,⟨w.heap.size,#[.int .i64 E,.int .i64 F],38⟩,⟨w.heap.size + 1,#[.bool false,.slice none 0 0,.int .i64 0],26⟩] := by
    have hM1 := hM.st
    simp only [pickBs] at hM1
    rw [if_neg (hD.waits 3 9 _ ⟨3,.phase⟩ hl9 rfl (by simp) rfl rfl)] at hM1
    exact hM1
   have c9_0 := hM0.cellAt (b := w.heap.size) (cs := #[.int .i64 E,.int .i64 F]) (t := 38) (by simp) 1 _ rfl
   clear hM0
   clear hD hd9 hi9
   refine wpOp_step rfl (fun K hK => ?_)
   go_simp
   exact hK _ _ ⟨p9,fun _ _ => rfl,rfl,(Pm.keepM rfl (hM.val rfl))⟩
  ·cases ho9
   have r44 := hD.on 3 44 _ rfl (getD_true (hd9 ⟨3,.data⟩ (by simp) rfl))
   clear hD hd9 hi9
   refine wpOp_step rfl (fun K hK => ?_)
   go_simp
   exact hK _ _ ⟨p9,fun _ _ => rfl,act_eq (by (show Value.int _ _ = Value.int _ _; first | rfl | (congr 1; first | exact eF | simpa using eF))),(Pm.keepM rfl (hM.val rfl))⟩
  ·cases ho9
   have r9 := hD.old 9 _ rfl rfl
   clear hD hd9 hi9
   refine wpOp_step rfl (fun K hK => ?_)
   go_simp
   exact hK _ _ ⟨p9,fun _ _ => rfl,rfl,(Pm.keepM rfl (hM.val rfl))⟩
  ·cases ho9
   have r41 := hD.on 0 41 _ rfl (getD_true (hd9 ⟨0,.data⟩ (by simp) rfl))
   have r42 := hD.on 1 42 _ rfl (getD_true (hd9 ⟨1,.data⟩ (by simp) rfl))
   have r45 := hD.on 4 45 _ rfl (getD_true (hd9 ⟨4,.data⟩ (by simp) rfl))
   have r46 := hD.on 5 46 _ rfl (getD_true (hd9 ⟨5,.data⟩ (by simp) rfl))
   have hM0 : Fs w W9 [⟨w2.heap.size,#[.bool s,.int .i64 ex,.int .u64 fr],92⟩,⟨w.heap.size,#[.int .i64 E,.int .i64 F],38⟩,⟨w.heap.size + 1,#[.bool false,.slice none 0 0,.int .i64 0],26⟩] := by
    have hM1 := hM.st
    simp only [pickBs] at hM1
    rw [if_neg (hD.waits 6 9 _ ⟨6,.chain⟩ hl9 rfl (by simp) rfl rfl)] at hM1
    exact hM1
   have HD := hide hD
   have hn9 := hD.waits 6 9 _ ⟨6,.chain⟩ hl9 rfl (by simp) rfl rfl
   clear hD hd9 hi9
   refine wpOp_step rfl (fun K hK => ?_)
   go_simp
   go_wp2_with fail
   refine (worth_small s ex fr pF (1 - (B : Int) - (F : Int)) M z xe _ (unhide HM0) hM64 ((unhide HT).kept hM.st.fr) (unhide HZ) hz2 hbd (unhide hfr) (unhide hxe2)).mono ?_
   rintro en w9 ⟨⟨a9,n9,c9,rfl,h9⟩,hb9⟩
   refine hK _ _ ⟨p9.set 6 ⟨a9,n9,c9⟩,?_,rfl,(Pm.keepM rfl (((hM.kept hs9 hb9).pick ⟨a9,n9,c9⟩ ?_).into (by simp only [pickBs]; rw [if_neg hn9,if_neg hn9])))⟩
   ·refine (unhide HD).agree hl9 ?_
    intro k9 hk9 hd9
    clear HD hM hK
    match k9 with
    | 0 => rfl
    | 1 => rfl
    | 2 => rfl
    | 3 => rfl
    | 4 => rfl
    | 5 => rfl
    | 6 => exact absurd rfl hk9
    | 7 => exact nomatch hd9.symm.trans (show downB _ _ _ _ = true by kernel_rfl)
    | 8 => exact nomatch hd9.symm.trans (show downB _ _ _ _ = true by kernel_rfl)
    | 9 => exact nomatch hd9.symm.trans (show downB _ _ _ _ = true by kernel_rfl)
    | 10 => exact nomatch hd9.symm.trans (show downB _ _ _ _ = true by kernel_rfl)
    | k9 + 11 => rfl
   ·intro x hx he; simp only [List.mem_cons,List.not_mem_nil,or_false] at hx; subst hx; exact h9.mono hM.bw
  ·cases ho9
   have r47 := hD.on 6 47 _ rfl (getD_true (hd9 ⟨6,.data⟩ (by simp) rfl))
   clear hD hd9 hi9
   refine wpOp_step rfl (fun K hK => ?_)
   go_simp
   exact hK _ _ ⟨p9,fun _ _ => rfl,rfl,(Pm.keepM rfl (hM.val rfl))⟩
  ·cases ho9
   have r47 := hD.on 6 47 _ rfl (getD_true (hd9 ⟨6,.data⟩ (by simp) rfl))
   clear hD hd9 hi9
   refine wpOp_step rfl (fun K hK => ?_)
   go_simp
   exact hK _ _ ⟨p9,fun _ _ => rfl,rfl,(Pm.keepM rfl (hM.val rfl))⟩
  ·cases ho9
   have r4 := hD.old 4 _ rfl rfl
   have r48 := hD.on 7 48 _ rfl (getD_true (hd9 ⟨7,.data⟩ (by simp) rfl))
   have hM0 : Fs w W9 [⟨w2.heap.size,#[.bool s,.int .i64 ex,.int .u64 fr],92⟩,⟨w.heap.size,#[.int .i64 E,.int .i64 F],38⟩,⟨w.heap.size + 1,#[.bool false,.slice none 0 0,.int .i64 0],26⟩] := by
    have hM1 := hM.st
    simp only [pickBs] at hM1
    rw [if_neg (by rw [hl9]; simp)] at hM1
    exact hM1
   have c9_0 := hM0.cellAt (b := w.heap.size + 1) (cs := #[.bool false,.slice none 0 0,.int .i64 0]) (t := 26) (by simp) 0 _ rfl
   have z9_0 := hM0.frozen (b := w.heap.size + 1) (cs := #[.bool false,.slice none 0 0,.int .i64 0]) (t := 26) (by simp) 0
   have c9_1 := hM0.cellAt (b := w.heap.size + 1) (cs := #[.bool false,.slice none 0 0,.int .i64 0]) (t := 26) (by simp) 1 _ rfl
   have z9_1 := hM0.frozen (b := w.heap.size + 1) (cs := #[.bool false,.slice none 0 0,.int .i64 0]) (t := 26) (by simp) 1
   have c9_2 := hM0.cellAt (b := w.heap.size + 1) (cs := #[.bool false,.slice none 0 0,.int .i64 0]) (t := 26) (by simp) 2 _ rfl
   have z9_2 := hM0.frozen (b := w.heap.size + 1) (cs := #[.bool false,.slice none 0 0,.int .i64 0]) (t := 26) (by simp) 2
   clear hD hd9 hi9
   refine wpOp_step rfl (fun K hK => ?_)
   go_simp
   exact hK _ _ ⟨p9,fun _ _ => rfl,rfl,Pm.putM hl9 ((((hM.val rfl).put hs9 _ _ (block_lt (hS.bx _ (List.mem_of_getElem? (i := 2) rfl))) (hM0.put (b := w.heap.size + 1) (cs := #[.bool false,.slice none 0 0,.int .i64 0]) (t := 26) (by simp) (by simp) 0 (.bool s) [⟨w2.heap.size,#[.bool s,.int .i64 ex,.int .u64 fr],92⟩,⟨w.heap.size,#[.int .i64 E,.int .i64 F],38⟩,⟨w.heap.size + 1,#[.bool s,.slice none 0 0,.int .i64 0],26⟩] (by simp <;> omega))).put hs9 _ _ (block_lt (hS.bx _ (List.mem_of_getElem? (i := 2) rfl))) ((hM0.put (b := w.heap.size + 1) (cs := #[.bool false,.slice none 0 0,.int .i64 0]) (t := 26) (by simp) (by simp) 0 (.bool s) [⟨w2.heap.size,#[.bool s,.int .i64 ex,.int .u64 fr],92⟩,⟨w.heap.size,#[.int .i64 E,.int .i64 F],38⟩,⟨w.heap.size + 1,#[.bool s,.slice none 0 0,.int .i64 0],26⟩] (by simp <;> omega)).put (b := w.heap.size + 1) (cs := #[.bool s,.slice none 0 0,.int .i64 0]) (t := 26) (by simp) (by simp) 1 (.slice (p9 6).A (p9 6).N (p9 6).C) [⟨w2.heap.size,#[.bool s,.int .i64 ex,.int .u64 fr],92⟩,⟨w.heap.size,#[.int .i64 E,.int .i64 F],38⟩,⟨w.heap.size + 1,#[.bool s,.slice (p9 6).A (p9 6).N (p9 6).C,.int .i64 0],26⟩] (by simp <;> omega))).put hs9 _ _ (block_lt (hS.bx _ (List.mem_of_getElem? (i := 2) rfl))) (((hM0.put (b := w.heap.size + 1) (cs := #[.bool false,.slice none 0 0,.int .i64 0]) (t := 26) (by simp) (by simp) 0 (.bool s) [⟨w2.heap.size,#[.bool s,.int .i64 ex,.int .u64 fr],92⟩,⟨w.heap.size,#[.int .i64 E,.int .i64 F],38⟩,⟨w.heap.size + 1,#[.bool s,.slice none 0 0,.int .i64 0],26⟩] (by simp <;> omega)).put (b := w.heap.size + 1) (cs := #[.bool s,.slice none 0 0,.int .i64 0]) (t := 26) (by simp) (by simp) 1 (.slice (p9 6).A (p9 6).N (p9 6).C) [⟨w2.heap.size,#[.bool s,.int .i64 ex,.int .u64 fr],92⟩,⟨w.heap.size,#[.int .i64 E,.int .i64 F],38⟩,⟨w.heap.size + 1,#[.bool s,.slice (p9 6).A (p9 6).N (p9 6).C,.int .i64 0],26⟩] (by simp <;> omega)).put (b := w.heap.size + 1) (cs := #[.bool s,.slice (p9 6).A (p9 6).N (p9 6).C,.int .i64 0]) (t := 26) (by simp) (by simp) 2 (.int .i64 (xe + (z : Int))) [⟨w2.heap.size,#[.bool s,.int .i64 ex,.int .u64 fr],92⟩,⟨w.heap.size,#[.int .i64 E,.int .i64 F],38⟩,⟨w.heap.size + 1,#[.bool s,.slice (p9 6).A (p9 6).N (p9 6).C,.int .i64 (xe + (z : Int))],26⟩] (by simp <;> omega)))⟩
  ·cases ho9
   have r49 := hD.on 8 49 _ rfl (getD_true (hd9 ⟨8,.data⟩ (by simp) rfl))
   clear hD hd9 hi9
   refine wpOp_step rfl (fun K hK => ?_)
   go_simp
   exact hK _ _ ⟨p9,fun _ _ => rfl,rfl,(Pm.keepM rfl (hM.val rfl))⟩
 ·intro p9 l9 W9 hl9 hM
  have fr10_6 := hM.fx _ (List.mem_of_getElem? (i := 0) rfl) (hl9 6 (by decide))
  replace hM := hM.st
  simp only [pickBs] at hM
  rw [if_pos (hl9 9 (by decide))] at hM
  clear hl9 hs9
  generalize p9 6 = q6 at *
  obtain ⟨Ar10_6,Nr10_6,Cr10_6⟩ := q6
  simp only [] at fr10_6
  clear hS z3_0_0 z3_0_1 z3_0_2 z3_1_0 z3_1_1 z3_2_0 z3_2_1 z3_2_2
  have hS := hM
  clear hM
  simp only [Puts.lay,List.setIfInBounds_toArray,List.set_cons_zero,List.set_cons_succ]
  obtain ⟨⟨z4_0_0,z4_0_1,z4_0_2,-⟩,⟨z4_1_0,z4_1_1,-⟩,⟨z4_2_0,z4_2_1,z4_2_2,-⟩,-⟩ := hS.cells
  have F6 := hide fr10_6
  clear fr10_6
  go_wp2
  exact bodyPost_ret (v := .tuple #[.agg #[.bool s,.slice Ar10_6 Nr10_6 Cr10_6,.int .i64 (xe + (z : Int))],.int .i64 0]) (by simp [results,Tryd.results18,go_sem,z4_2_0,z4_2_1,z4_2_2]) rfl ⟨⟨_,_,_,rfl,(unhide F6).mono (by have := hS3s; omega)⟩,hS.fr⟩
end Go.Proofs.YtjemjhaphannaaaDoor
namespace Go.Proofs.YtjemjhaphannaaaDoor
open Go.RowKit
structure Wo (E F B ex fr M z : Nat) (xe : Int) : Prop where
 tz : Tz M z
 part : (ex = 0 ∧ M = fr ∧ 0 < fr ∧ xe = 1 - (B : Int) - (F : Int)) ∨ (0 < ex ∧ M = fr + 2 ^ F ∧ xe = 1 - (B : Int) - (F : Int) + ((ex : Int) - 1))
 fin : ex + 1 < 2 ^ E
 frl : fr < 2 ^ F
theorem or_hidden (fr F : Nat) (hF : F ≤ 52) (hfr : fr < 2 ^ F) : bits BinOp.or .u64 (fr : Int) ((2 ^ F : Nat) : Int) = ((fr + 2 ^ F : Nat) : Int) := by
 have h1 := pow_bound hF
 have h2 := or_u64 (2 ^ F) fr F 1 (by rw [Nat.one_mul]) hfr (by omega)
 have h3 : bits BinOp.or .u64 (fr : Int) ((2 ^ F : Nat) : Int) = bits BinOp.or .u64 ((2 ^ F : Nat) : Int) (fr : Int) := by
  show IntKind.u64.wrap ((BitVec.ofInt 64 (fr : Int) ||| BitVec.ofInt 64 ((2 ^ F : Nat) : Int)).toNat : Int) = IntKind.u64.wrap ((BitVec.ofInt 64 ((2 ^ F : Nat) : Int) ||| BitVec.ofInt 64 (fr : Int)).toNat : Int)
  rw [BitVec.or_comm]
 rw [h3,h2,Nat.add_comm]
theorem tz_ex {M f : Nat} (h0 : 0 < M) (h : M < 2 ^ f) : ∃ z,Tz M z ∧ z < f := by
 obtain ⟨q,hq,hz⟩ := Lib.ctzFrom_spec f M h0 h
 exact ⟨_,⟨q,hq⟩,hz⟩
theorem Wo.ex {E F B ex fr : Nat} (hfin : ex + 1 < 2 ^ E) (hfr : fr < 2 ^ F) (hne : ¬ (ex = 0 ∧ fr = 0)) : ∃ M z xe,Wo E F B ex fr M z xe := by
 by_cases h : ex = 0
 ·obtain ⟨z,hz,_⟩ := tz_ex (M := fr) (by omega) hfr
  exact ⟨fr,z,_,hz,Or.inl ⟨h,rfl,by omega,rfl⟩,hfin,hfr⟩
 ·obtain ⟨z,hz,_⟩ := tz_ex (M := fr + 2 ^ F) (f := F + 1) (by omega) (by rw [Nat.pow_succ]; omega)
  exact ⟨fr + 2 ^ F,z,_,hz,Or.inr ⟨by omega,rfl,rfl⟩,hfin,hfr⟩
theorem Wo.pos {E F B ex fr M z : Nat} {xe : Int} (h : Wo E F B ex fr M z xe) : 0 < M := by
 have := pow_pos2 F
 rcases h.part with ⟨_,h1,h2,_⟩ | ⟨_,h1,_⟩ <;> omega
theorem Wo.lt {E F B ex fr M z : Nat} {xe : Int} (h : Wo E F B ex fr M z xe) : M < 2 ^ (F + 1) := by
 have := h.frl
 rw [Nat.pow_succ]
 rcases h.part with ⟨_,h1,h2,_⟩ | ⟨_,h1,_⟩ <;> omega
theorem Wo.zle {E F B ex fr M z : Nat} {xe : Int} (h : Wo E F B ex fr M z xe) : z ≤ F := by
 obtain ⟨q,hq⟩ := h.tz
 have h1 : 2 ^ z ≤ M := by rw [hq]; exact Nat.le_mul_of_pos_right _ (by omega)
 have h2 : 2 ^ z < 2 ^ (F + 1) := Nat.lt_of_le_of_lt h1 h.lt
 have := (Nat.pow_lt_pow_iff_right (by decide : 1 < 2)).1 h2
 omega
theorem Wo.odd {E F B ex fr M z : Nat} {xe : Int} (h : Wo E F B ex fr M z xe) : (M / 2 ^ z) % 2 = 1 ∧ M / 2 ^ z * 2 ^ z = M := h.tz.down
theorem Wo.range {E F B ex fr M z : Nat} {xe : Int} (h : Wo E F B ex fr M z xe) (h0 : Fo E F) (HB : Hid (B = 2 ^ (E - 1) - 1)) : -2048 ≤ xe ∧ xe + (F : Int) ≤ (B : Int) ∧ B ≤ 1023 := by
 have h1 := B_le h0 HB
 have h2 := (B_two h0 HB).1
 have h3 := (B_two h0 HB).2
 have h4 := h.fin
 have h5 := h0.f52
 rcases h.part with ⟨_,_,_,h6⟩ | ⟨_,_,h6⟩ <;> omega
theorem pow_limbs {xs : List Nat} (hw : Pl.Wf xs) (hN : Pl.Norm xs) (h : Pl.val xs < 2 ^ 53) : xs.length ≤ 2 :=
 (Pl.val_le_len hw hN 2).2 (Nat.lt_of_lt_of_le h (by decide))
theorem Value_wo (E F B b ex fr : Nat) (s : Bool) (M z : Nat) (xe : Int) (w : World) (h0 : Fo E F) (HB : Hid (B = 2 ^ (E - 1) - 1)) (hB : Bt E F b s ex fr) (hW : Wo E F B ex fr M z xe) (hT : Tb w) :
  Calls Tryd.prog 18 #[.agg #[.int .i64 E,.int .i64 F],.int .u64 b] w fun e w' => (∃ A N C,e = .returned (.tuple #[.agg #[.bool s,.slice A N C,.int .i64 (xe + (z : Int))],.int .i64 0]) ∧ Mine w' w.heap.size A N C (M / 2 ^ z)) ∧ Below w.heap.size w w' := by
 have hr := hW.range h0 HB
 have hz := hW.zle
 have hF := h0.f52
 have hp := pow_bound (show F + 1 ≤ 53 by omega)
 have hlt := hW.lt
 have hfin := hW.fin
 have hE := pow_bound h0.e11
 rcases hW.part with ⟨h1,h2,h3,h4⟩ | ⟨h1,h2,h3⟩
 ·exact Value_small E F B b ex fr s h0 HB hB M z xe (by unfold cls; rw [if_neg (by omega),if_pos h1]) w hW.pos (by omega) hT hW.tz (by omega) (by omega) (hide h2.symm) h4.symm
 ·exact Value_normal E F B b ex fr s h0 HB hB M z xe (by unfold cls; rw [if_neg (by omega),if_neg (by omega),if_pos (by omega)]) w hW.pos (by omega) hT hW.tz (by omega) (by omega) (hide (by rw [h2]; exact or_hidden fr F hF hW.frl)) h3.symm (by omega)
theorem Value_zero (E F B b : Nat) (s : Bool) (w : World) (h0 : Fo E F) (HB : Hid (B = 2 ^ (E - 1) - 1)) (hB : Bt E F b s 0 0) :
  Calls Tryd.prog 18 #[.agg #[.int .i64 E,.int .i64 F],.int .u64 b] w fun e w' => e = .returned (.tuple #[.agg #[.bool false,.slice none 0 0,.int .i64 0],.int .i64 0]) ∧ Below w.heap.size w w' :=
 Value_1 E F B b 0 0 s h0 HB hB (by unfold cls; rw [if_pos ⟨rfl,rfl⟩]) w
theorem Wo.bits {E F B ex fr M z : Nat} {xe : Int} (h : Wo E F B ex fr M z xe) {k : Nat} (hk : Bl (M / 2 ^ z) k) : 0 < k ∧ (ex = 0 → k + z ≤ F) ∧ (0 < ex → k + z = F + 1) := by
 obtain ⟨ho,hm⟩ := h.odd
 have hM0 := h.pos
 have hfr := h.frl
 have hk0 : 0 < k := by
  rcases Nat.eq_zero_or_pos k with h3 | h3
  ·subst h3; have := hk.1; rw [Nat.pow_zero] at this; exact absurd ho (by rw [Nat.lt_one_iff.1 this]; decide)
  ·exact h3
 have h1 : M < 2 ^ (k + z) := by
  rw [← hm,Nat.pow_add]; exact Nat.mul_lt_mul_of_pos_right hk.1 (pow_pos2 z)
 have h2 : 2 ^ (k - 1 + z) ≤ M := by
  rcases hk.2 with h3 | h3
  ·omega
  ·rw [← hm,Nat.pow_add]; exact Nat.mul_le_mul_right _ h3
 refine ⟨hk0,fun he => ?_,fun he => ?_⟩
 ·rcases h.part with ⟨_,h4,_,_⟩ | ⟨h4,_⟩
  ·have h5 : 2 ^ (k - 1 + z) < 2 ^ F := by omega
   have := (Nat.pow_lt_pow_iff_right (by decide : 1 < 2)).1 h5
   omega
  ·omega
 ·rcases h.part with ⟨h4,_⟩ | ⟨_,h4,_⟩
  ·omega
  ·have h5 : 2 ^ (k - 1 + z) < 2 ^ (F + 1) := by rw [Nat.pow_succ]; omega
   have h6 : 2 ^ F < 2 ^ (k + z) := by omega
   have h7 := (Nat.pow_lt_pow_iff_right (by decide : 1 < 2)).1 h5
   have h8 := (Nat.pow_lt_pow_iff_right (by decide : 1 < 2)).1 h6
   omega
theorem Bits_wo (E F B b ex fr : Nat) (s : Bool) (M z : Nat) (xe : Int) (a : Option Addr) (n cap : Nat) (w : World) (h0 : Fo E F) (HB : Hid (B = 2 ^ (E - 1) - 1)) (hB : Bt E F b s ex fr) (hW : Wo E F B ex fr M z xe) (h : Num w a n (M / 2 ^ z)) :
  Calls Tryd.prog 39 #[.agg #[.int .i64 E,.int .i64 F],.agg #[.bool s,.slice a n cap,.int .i64 (xe + (z : Int))]] w fun e w' => e = .returned (.tuple #[.int .u64 b,.bool true,.int .i64 0]) ∧ Below w.heap.size w w' := by
 have hr := hW.range h0 HB
 have hz := hW.zle
 have hF := h0.f52
 have hlt := hW.lt
 have hp := pow_bound (show F + 1 ≤ 53 by omega)
 obtain ⟨ho,hm⟩ := hW.odd
 obtain ⟨k,hk⟩ := bl_ex (M / 2 ^ z)
 obtain ⟨hk0,hka,hkb⟩ := hW.bits hk
 have hn0 : 0 < n := by have := h.zero; omega
 have hn2 : n ≤ 2 := by
  obtain ⟨xs,hl,_,hw,hN,hv,_⟩ := h
  rw [← hl]
  refine pow_limbs hw hN ?_
  rw [hv]
  exact Nat.lt_of_le_of_lt (Nat.div_le_self _ _) (by omega)
 have eN : IntKind.u64.wrap (((M / 2 ^ z : Nat) : Int) * 2 ^ z) = (M : Int) := by
  have := shl_u64 (M / 2 ^ z) z (by rw [hm]; omega)
  rw [hm] at this
  exact this
 have hfr := hW.frl
 have hE := pow_bound h0.e11
 have hfin := hW.fin
 rcases hW.part with ⟨h1,h2,h3,h4⟩ | ⟨h1,h2,h3⟩
 ·have := hka h1
  exact Bits_some E F B h0 HB s a n cap _ k (xe + (z : Int)) xe z M 0 0 fr ex b w h hn0 ho (by omega) hk (by omega) hk0 (by omega) (by omega) (by omega) (by omega) (by omega) (by omega) eN hn2 (by omega) (by omega) (by omega) (hide (Nat.div_eq_of_lt (by omega)).symm) (hide (by omega)) (hide (by omega)) (hide hB)
 ·have := hkb h1
  exact Bits_some E F B h0 HB s a n cap _ k (xe + (z : Int)) xe z M (ex - 1) 1 fr ex b w h hn0 ho (by omega) hk (by omega) hk0 (by omega) (by omega) (by omega) (by omega) (by omega) (by omega) eN hn2 (by omega) (by omega) (by omega) (hide (Nat.div_eq_of_lt_le (by omega) (by omega)).symm) (hide (by omega)) (hide (by omega)) (hide hB)
theorem Wo.inj {E F B ex fr M z ex' fr' M' z' : Nat} {xe xe' : Int} (h : Wo E F B ex fr M z xe) (h' : Wo E F B ex' fr' M' z' xe') (hm : M / 2 ^ z = M' / 2 ^ z') (hx : xe + (z : Int) = xe' + (z' : Int)) : ex = ex' ∧ fr = fr' := by
 obtain ⟨k,hk⟩ := bl_ex (M / 2 ^ z)
 have hk' := hk
 rw [hm] at hk'
 obtain ⟨_,h1,h2⟩ := h.bits hk
 obtain ⟨_,h1',h2'⟩ := h'.bits hk'
 have hxe : xe = xe' := by
  rcases h.part with ⟨a1,_,_,a2⟩ | ⟨a1,_,a2⟩ <;> rcases h'.part with ⟨b1,_,_,b2⟩ | ⟨b1,_,b2⟩
  ·omega
  ·have := h1 a1; have := h2' b1; omega
  ·have := h2 a1; have := h1' b1; omega
  ·have := h2 a1; have := h2' b1; omega
 have hzz : z = z' := by omega
 have hMM : M = M' := by
  have e1 := h.odd.2
  have e2 := h'.odd.2
  rw [← e1,← e2,hm,hzz]
 have hfr := h.frl
 have hfr' := h'.frl
 rcases h.part with ⟨a1,a3,_,a2⟩ | ⟨a1,a3,a2⟩ <;> rcases h'.part with ⟨b1,b3,_,b2⟩ | ⟨b1,b3,b2⟩ <;> omega
theorem odd_tz {m j : Nat} (h : m % 2 = 1) : Tz (m * 2 ^ j) j := ⟨m / 2,by rw [Nat.mul_comm,show 2 * (m / 2) + 1 = m from by omega]⟩
theorem sv_same {s s' : Bool} {m m' j j' : Nat} (h : m % 2 = 1) (h' : m' % 2 = 1) (he : sv s (m * 2 ^ j) = sv s' (m' * 2 ^ j')) : s = s' ∧ m = m' ∧ j = j' := by
 have hp : 0 < m * 2 ^ j := Nat.mul_pos (by omega) (pow_pos2 j)
 have hp' : 0 < m' * 2 ^ j' := Nat.mul_pos (by omega) (pow_pos2 j')
 have h1 : s = s' ∧ m * 2 ^ j = m' * 2 ^ j' := by
  unfold sv at he
  cases s <;> cases s' <;> simp only [if_true,if_false,Bool.false_eq_true] at he
  ·exact ⟨rfl,by omega⟩
  ·omega
  ·omega
  ·exact ⟨rfl,by omega⟩
 have h2 : j = j' := (odd_tz h).uniq (by rw [h1.2]; exact odd_tz h')
 refine ⟨h1.1,?_,h2⟩
 have := h1.2
 rw [h2] at this
 exact Nat.eq_of_mul_eq_mul_right (pow_pos2 j') this
theorem cmp3_zero {x y : Int} : cmp3 x y = 0 ↔ x = y := by
 constructor
 ·intro h
  unfold cmp3 at h
  split at h
  ·cases h
  ·split at h
   ·cases h
   ·omega
 ·exact cmp3_eq
end Go.Proofs.YtjemjhaphannaaaDoor
namespace Go.Proofs.YtjemjhaphannaaaDoor
open Go.RowKit
theorem one_tz : Tz 6755399441055744 51 := ⟨1,by decide⟩
theorem mine_one {w : World} {base : Nat} {A : Option Addr} {N C v : Nat} (h : Mine w base A N C v) (h0 : 0 < v) (h1 : v < 4294967296) : N = 1 ∧ ∃ g off,A = some ⟨g,off,none⟩ ∧ g < w.heap.size ∧ w.cell? ⟨g,off,none⟩ = some (.int .u32 (v : Int)) := by
 obtain ⟨xs,hl,hL,hw,hN,hv,_⟩ := h.num
 have h2 : xs.length ≤ 1 := (Pl.val_le_len hw hN 1).2 (by rw [hv,Nat.pow_one]; exact h1)
 rcases hL.parts with rfl | ⟨hp,g,off,rfl,hlt,hc⟩
 ·simp [Pl.val] at hv; omega
 ·refine ⟨by omega,g,off,rfl,hlt,?_⟩
  have := hc 0 hp
  match xs,h2,hp with
  | [x],_,_ =>
   simp [Pl.val] at hv
   subst hv
   simpa using this
theorem one_bt : Bt 11 52 4609434218613702656 false 1023 2251799813685248 := ⟨by decide,by decide,by decide⟩
theorem one_wo : Wo 11 52 1023 1023 2251799813685248 6755399441055744 51 (-52) := ⟨one_tz,Or.inr ⟨by decide,by decide,by decide⟩,by decide,by decide⟩
theorem one_val (w : World) (hT : Tb w) :
  Calls Tryd.prog 18 #[.agg #[.int .i64 11,.int .i64 52],.int .u64 4609434218613702656] w fun e w' => (∃ g off C,e = .returned (.tuple #[.agg #[.bool false,.slice (some ⟨g,off,none⟩) 1 C,.int .i64 (-1)],.int .i64 0]) ∧ g < w'.heap.size ∧ w'.cell? ⟨g,off,none⟩ = some (.int .u32 3)) ∧ Below w.heap.size w w' := by
 refine (Value_wo 11 52 1023 4609434218613702656 1023 2251799813685248 false 6755399441055744 51 (-52) w ⟨by decide,by decide,by decide,by decide⟩ (hide (by decide)) one_bt one_wo hT).mono ?_
 rintro e w' ⟨⟨A,N,C,rfl,hm⟩,hb⟩
 obtain ⟨rfl,g,off,rfl,hg,hc⟩ := mine_one hm (by decide) (by decide)
 exact ⟨⟨g,off,C,rfl,hg,hc⟩,hb⟩
set_option maxRecDepth 20000 in
set_option maxHeartbeats 4000000 in
theorem topW_a (E F : Int) (a b : Nat)  (w : World) (hT : Tb w) (hfa0 : Hid (∀ W : World,Calls Tryd.prog 47 #[.agg #[.int .i64 E,.int .i64 F],.int .u64 a] W fun e w' => e = .returned (.bool false) ∧ Below W.heap.size W w')) :
  Calls Tryd.prog 12 #[.agg #[.int .i64 E,.int .i64 F],.int .u64 a,.int .u64 b] w fun e w' => e = .returned (.bool true) ∧ Below w.heap.size w w' := by
 have HT := hide hT
 clear hT
 go_enter Tryd.func12,Tryd.ntmps12
 go_wp2_with fail
 refine (tdouble _).mono ?_
 rintro e w1 ⟨rfl,hb1⟩
 have hS := (Fs.one w _ _).kept hb1
 obtain ⟨⟨z1_0_0,z1_0_1,-⟩,-⟩ := hS.cells
 go_wp2_with fail
 refine (one_val _ ((unhide HT).kept hS.fr)).mono ?_
 rintro e w2 ⟨⟨g,off,C2,rfl,hg2,hc2⟩,hb2⟩
 replace hS := hS.kept hb2
 clear z1_0_0 z1_0_1
 obtain ⟨⟨z2_0_0,z2_0_1,-⟩,-⟩ := hS.cells
 have hltw2_0 : w.heap.size < w2.heap.size := block_lt (hS.bx ⟨w.heap.size,#[.int .i64 E,.int .i64 F],38⟩ (by simp))
 replace hS := hS.alloc #[.bool false,.slice (some ⟨g,off,none⟩) 1 C2,.int .i64 (-1)] 26
 go_wp2_with fail
 refine (unhide hfa0 _).mono ?_
 rintro e w3 ⟨rfl,hb3⟩
 replace hS := hS.kept hb3
 clear z2_0_0 z2_0_1
 obtain ⟨⟨z3_0_0,z3_0_1,z3_0_2,-⟩,⟨z3_1_0,z3_1_1,-⟩,-⟩ := hS.cells
 clear hg2 hc2
 go_wp2
 go_ret
 exact ⟨rfl,hS.fr⟩
set_option maxRecDepth 20000 in
set_option maxHeartbeats 4000000 in
theorem topW_b (E F : Int) (a b : Nat)  (w : World) (hT : Tb w) (hfa1 : Hid (∀ W : World,Calls Tryd.prog 47 #[.agg #[.int .i64 E,.int .i64 F],.int .u64 a] W fun e w' => e = .returned (.bool true) ∧ Below W.heap.size W w')) (hfb0 : Hid (∀ W : World,Calls Tryd.prog 47 #[.agg #[.int .i64 E,.int .i64 F],.int .u64 b] W fun e w' => e = .returned (.bool false) ∧ Below W.heap.size W w')) :
  Calls Tryd.prog 12 #[.agg #[.int .i64 E,.int .i64 F],.int .u64 a,.int .u64 b] w fun e w' => e = .returned (.bool true) ∧ Below w.heap.size w w' := by
 have HT := hide hT
 clear hT
 go_enter Tryd.func12,Tryd.ntmps12
 go_wp2_with fail
 refine (tdouble _).mono ?_
 rintro e w1 ⟨rfl,hb1⟩
 have hS := (Fs.one w _ _).kept hb1
 obtain ⟨⟨z1_0_0,z1_0_1,-⟩,-⟩ := hS.cells
 go_wp2_with fail
 refine (one_val _ ((unhide HT).kept hS.fr)).mono ?_
 rintro e w2 ⟨⟨g,off,C2,rfl,hg2,hc2⟩,hb2⟩
 replace hS := hS.kept hb2
 clear z1_0_0 z1_0_1
 obtain ⟨⟨z2_0_0,z2_0_1,-⟩,-⟩ := hS.cells
 have hltw2_0 : w.heap.size < w2.heap.size := block_lt (hS.bx ⟨w.heap.size,#[.int .i64 E,.int .i64 F],38⟩ (by simp))
 replace hS := hS.alloc #[.bool false,.slice (some ⟨g,off,none⟩) 1 C2,.int .i64 (-1)] 26
 go_wp2_with fail
 refine (unhide hfa1 _).mono ?_
 rintro e w3 ⟨rfl,hb3⟩
 replace hS := hS.kept hb3
 clear z2_0_0 z2_0_1
 obtain ⟨⟨z3_0_0,z3_0_1,z3_0_2,-⟩,⟨z3_1_0,z3_1_1,-⟩,-⟩ := hS.cells
 clear hg2 hc2
 go_wp2_with fail
 refine (unhide hfb0 _).mono ?_
 rintro e w4 ⟨rfl,hb4⟩
 replace hS := hS.kept hb4
 clear z3_0_0 z3_0_1 z3_0_2 z3_1_0 z3_1_1
 obtain ⟨⟨z4_0_0,z4_0_1,z4_0_2,-⟩,⟨z4_1_0,z4_1_1,-⟩,-⟩ := hS.cells
 go_wp2
 go_ret
 exact ⟨rfl,hS.fr⟩
set_option maxRecDepth 20000 in
set_option maxHeartbeats 4000000 in
theorem topW_same_eq (E F : Int) (a b : Nat) (sa sb : Bool) (ma mb bk : Nat) (xa xb c : Int) (w : World) (hT : Tb w) (hfa1 : Hid (∀ W : World,Calls Tryd.prog 47 #[.agg #[.int .i64 E,.int .i64 F],.int .u64 a] W fun e w' => e = .returned (.bool true) ∧ Below W.heap.size W w')) (hfb1 : Hid (∀ W : World,Calls Tryd.prog 47 #[.agg #[.int .i64 E,.int .i64 F],.int .u64 b] W fun e w' => e = .returned (.bool true) ∧ Below W.heap.size W w')) (hva : Hid (∀ W : World,Tb W → Calls Tryd.prog 18 #[.agg #[.int .i64 E,.int .i64 F],.int .u64 a] W fun e w' => (∃ A N C,e = .returned (.tuple #[.agg #[.bool sa,.slice A N C,.int .i64 xa],.int .i64 0]) ∧ Num w' A N ma) ∧ Below W.heap.size W w')) (hvb : Hid (∀ W : World,Tb W → Calls Tryd.prog 18 #[.agg #[.int .i64 E,.int .i64 F],.int .u64 b] W fun e w' => (∃ A N C,e = .returned (.tuple #[.agg #[.bool sb,.slice A N C,.int .i64 xb],.int .i64 0]) ∧ Num w' A N mb) ∧ Below W.heap.size W w')) (hbi : Hid (∀ (W : World) (A : Option Addr) (N C : Nat),Num W A N ma → Calls Tryd.prog 39 #[.agg #[.int .i64 E,.int .i64 F],.agg #[.bool sa,.slice A N C,.int .i64 xa]] W fun e w' => e = .returned (.tuple #[.int .u64 bk,.bool true,.int .i64 0]) ∧ Below W.heap.size W w')) (hcm : Hid (∀ (W : World) (A : Option Addr) (N C : Nat) (A' : Option Addr) (N' C' : Nat),Num W A N ma → Num W A' N' mb → Calls Tryd.prog 17 #[.agg #[.bool sa,.slice A N C,.int .i64 xa],.agg #[.bool sb,.slice A' N' C',.int .i64 xb]] W fun e w' => e = .returned (.tuple #[.int .i64 c,.int .i64 0]) ∧ Below W.heap.size W w')) (hc0 : (c == 0) = true) (hab : ((a : Int) == (b : Int)) = true) (hba : ((bk : Int) != (a : Int)) = false) :
  Calls Tryd.prog 12 #[.agg #[.int .i64 E,.int .i64 F],.int .u64 a,.int .u64 b] w fun e w' => e = .returned (.bool true) ∧ Below w.heap.size w w' := by
 have HT := hide hT
 clear hT
 go_enter Tryd.func12,Tryd.ntmps12
 go_wp2_with fail
 refine (tdouble _).mono ?_
 rintro e w1 ⟨rfl,hb1⟩
 have hS := (Fs.one w _ _).kept hb1
 obtain ⟨⟨z1_0_0,z1_0_1,-⟩,-⟩ := hS.cells
 go_wp2_with fail
 refine (one_val _ ((unhide HT).kept hS.fr)).mono ?_
 rintro e w2 ⟨⟨g,off,C2,rfl,hg2,hc2⟩,hb2⟩
 replace hS := hS.kept hb2
 clear z1_0_0 z1_0_1
 obtain ⟨⟨z2_0_0,z2_0_1,-⟩,-⟩ := hS.cells
 have hltw2_0 : w.heap.size < w2.heap.size := block_lt (hS.bx ⟨w.heap.size,#[.int .i64 E,.int .i64 F],38⟩ (by simp))
 replace hS := hS.alloc #[.bool false,.slice (some ⟨g,off,none⟩) 1 C2,.int .i64 (-1)] 26
 go_wp2_with fail
 refine (unhide hfa1 _).mono ?_
 rintro e w3 ⟨rfl,hb3⟩
 replace hS := hS.kept hb3
 clear z2_0_0 z2_0_1
 obtain ⟨⟨z3_0_0,z3_0_1,z3_0_2,-⟩,⟨z3_1_0,z3_1_1,-⟩,-⟩ := hS.cells
 clear hg2 hc2
 go_wp2_with fail
 refine (unhide hfb1 _).mono ?_
 rintro e w4 ⟨rfl,hb4⟩
 replace hS := hS.kept hb4
 clear z3_0_0 z3_0_1 z3_0_2 z3_1_0 z3_1_1
 obtain ⟨⟨z4_0_0,z4_0_1,z4_0_2,-⟩,⟨z4_1_0,z4_1_1,-⟩,-⟩ := hS.cells
 go_wp2_with fail
 refine (unhide hva _ ((unhide HT).kept hS.fr)).mono ?_
 rintro e w5 ⟨⟨A5,N5,C5,rfl,g5⟩,hb5⟩
 replace hS := hS.kept hb5
 clear z4_0_0 z4_0_1 z4_0_2 z4_1_0 z4_1_1
 obtain ⟨⟨z5_0_0,z5_0_1,z5_0_2,-⟩,⟨z5_1_0,z5_1_1,-⟩,-⟩ := hS.cells
 have G5 := hide g5
 clear g5
 have hltw5_0 : w2.heap.size < w5.heap.size := block_lt (hS.bx ⟨w2.heap.size,#[.bool false,.slice (some ⟨g,off,none⟩) 1 C2,.int .i64 (-1)],26⟩ (by simp))
 have hltw5_1 : w.heap.size < w5.heap.size := block_lt (hS.bx ⟨w.heap.size,#[.int .i64 E,.int .i64 F],38⟩ (by simp))
 replace hS := hS.alloc #[.bool sa,.slice A5 N5 C5,.int .i64 xa] 26
 replace G5 := hide ((unhide G5).alloc (.cells #[.bool sa,.slice A5 N5 C5,.int .i64 xa] 26))
 go_wp2_with fail
 refine (unhide hvb _ ((unhide HT).kept hS.fr)).mono ?_
 rintro e w6 ⟨⟨A6,N6,C6,rfl,g6⟩,hb6⟩
 replace hS := hS.kept hb6
 clear z5_0_0 z5_0_1 z5_0_2 z5_1_0 z5_1_1
 obtain ⟨⟨z6_0_0,z6_0_1,z6_0_2,-⟩,⟨z6_1_0,z6_1_1,z6_1_2,-⟩,⟨z6_2_0,z6_2_1,-⟩,-⟩ := hS.cells
 replace G5 := hide ((unhide G5).kept hb6)
 have G6 := hide g6
 clear g6
 have hltw6_0 : w5.heap.size < w6.heap.size := block_lt (hS.bx ⟨w5.heap.size,#[.bool sa,.slice A5 N5 C5,.int .i64 xa],26⟩ (by simp))
 have hltw6_1 : w2.heap.size < w6.heap.size := block_lt (hS.bx ⟨w2.heap.size,#[.bool false,.slice (some ⟨g,off,none⟩) 1 C2,.int .i64 (-1)],26⟩ (by simp))
 have hltw6_2 : w.heap.size < w6.heap.size := block_lt (hS.bx ⟨w.heap.size,#[.int .i64 E,.int .i64 F],38⟩ (by simp))
 replace hS := hS.alloc #[.bool sb,.slice A6 N6 C6,.int .i64 xb] 26
 replace G5 := hide ((unhide G5).alloc (.cells #[.bool sb,.slice A6 N6 C6,.int .i64 xb] 26))
 replace G6 := hide ((unhide G6).alloc (.cells #[.bool sb,.slice A6 N6 C6,.int .i64 xb] 26))
 go_wp2_with fail
 refine (unhide hbi _ A5 N5 C5 (unhide G5)).mono ?_
 rintro e w7 ⟨rfl,hb7⟩
 replace hS := hS.kept hb7
 clear z6_0_0 z6_0_1 z6_0_2 z6_1_0 z6_1_1 z6_1_2 z6_2_0 z6_2_1
 obtain ⟨⟨z7_0_0,z7_0_1,z7_0_2,-⟩,⟨z7_1_0,z7_1_1,z7_1_2,-⟩,⟨z7_2_0,z7_2_1,z7_2_2,-⟩,⟨z7_3_0,z7_3_1,-⟩,-⟩ := hS.cells
 replace G5 := hide ((unhide G5).kept hb7)
 replace G6 := hide ((unhide G6).kept hb7)
 go_wp2_with fail
 refine (unhide hcm _ A5 N5 C5 A6 N6 C6 (unhide G5) (unhide G6)).mono ?_
 rintro e w8 ⟨rfl,hb8⟩
 replace hS := hS.kept hb8
 clear z7_0_0 z7_0_1 z7_0_2 z7_1_0 z7_1_1 z7_1_2 z7_2_0 z7_2_1 z7_2_2 z7_3_0 z7_3_1
 obtain ⟨⟨z8_0_0,z8_0_1,z8_0_2,-⟩,⟨z8_1_0,z8_1_1,z8_1_2,-⟩,⟨z8_2_0,z8_2_1,z8_2_2,-⟩,⟨z8_3_0,z8_3_1,-⟩,-⟩ := hS.cells
 replace G5 := hide ((unhide G5).kept hb8)
 replace G6 := hide ((unhide G6).kept hb8)
 go_wp2
 go_ret
 exact ⟨rfl,hS.fr⟩
set_option maxRecDepth 20000 in
set_option maxHeartbeats 4000000 in
theorem topW_same_f (E F : Int) (a b : Nat) (sa sb : Bool) (ma mb bk : Nat) (xa xb c : Int) (w : World) (hT : Tb w) (hfa1 : Hid (∀ W : World,Calls Tryd.prog 47 #[.agg #[.int .i64 E,.int .i64 F],.int .u64 a] W fun e w' => e = .returned (.bool true) ∧ Below W.heap.size W w')) (hfb1 : Hid (∀ W : World,Calls Tryd.prog 47 #[.agg #[.int .i64 E,.int .i64 F],.int .u64 b] W fun e w' => e = .returned (.bool true) ∧ Below W.heap.size W w')) (hva : Hid (∀ W : World,Tb W → Calls Tryd.prog 18 #[.agg #[.int .i64 E,.int .i64 F],.int .u64 a] W fun e w' => (∃ A N C,e = .returned (.tuple #[.agg #[.bool sa,.slice A N C,.int .i64 xa],.int .i64 0]) ∧ Num w' A N ma) ∧ Below W.heap.size W w')) (hvb : Hid (∀ W : World,Tb W → Calls Tryd.prog 18 #[.agg #[.int .i64 E,.int .i64 F],.int .u64 b] W fun e w' => (∃ A N C,e = .returned (.tuple #[.agg #[.bool sb,.slice A N C,.int .i64 xb],.int .i64 0]) ∧ Num w' A N mb) ∧ Below W.heap.size W w')) (hbi : Hid (∀ (W : World) (A : Option Addr) (N C : Nat),Num W A N ma → Calls Tryd.prog 39 #[.agg #[.int .i64 E,.int .i64 F],.agg #[.bool sa,.slice A N C,.int .i64 xa]] W fun e w' => e = .returned (.tuple #[.int .u64 bk,.bool true,.int .i64 0]) ∧ Below W.heap.size W w')) (hcm : Hid (∀ (W : World) (A : Option Addr) (N C : Nat) (A' : Option Addr) (N' C' : Nat),Num W A N ma → Num W A' N' mb → Calls Tryd.prog 17 #[.agg #[.bool sa,.slice A N C,.int .i64 xa],.agg #[.bool sb,.slice A' N' C',.int .i64 xb]] W fun e w' => e = .returned (.tuple #[.int .i64 c,.int .i64 0]) ∧ Below W.heap.size W w')) (hc0 : (c == 0) = false) (hab : ((a : Int) == (b : Int)) = false) (hba : ((bk : Int) != (a : Int)) = false) (hna : Hid (∀ W : World,Calls Tryd.prog 48 #[.agg #[.int .i64 E,.int .i64 F],.int .u64 a] W fun e w' => e = .returned (.bool false) ∧ Below W.heap.size W w')) :
  Calls Tryd.prog 12 #[.agg #[.int .i64 E,.int .i64 F],.int .u64 a,.int .u64 b] w fun e w' => e = .returned (.bool true) ∧ Below w.heap.size w w' := by
 have HT := hide hT
 clear hT
 go_enter Tryd.func12,Tryd.ntmps12
 go_wp2_with fail
 refine (tdouble _).mono ?_
 rintro e w1 ⟨rfl,hb1⟩
 have hS := (Fs.one w _ _).kept hb1
 obtain ⟨⟨z1_0_0,z1_0_1,-⟩,-⟩ := hS.cells
 go_wp2_with fail
 refine (one_val _ ((unhide HT).kept hS.fr)).mono ?_
 rintro e w2 ⟨⟨g,off,C2,rfl,hg2,hc2⟩,hb2⟩
 replace hS := hS.kept hb2
 clear z1_0_0 z1_0_1
 obtain ⟨⟨z2_0_0,z2_0_1,-⟩,-⟩ := hS.cells
 have hltw2_0 : w.heap.size < w2.heap.size := block_lt (hS.bx ⟨w.heap.size,#[.int .i64 E,.int .i64 F],38⟩ (by simp))
 replace hS := hS.alloc #[.bool false,.slice (some ⟨g,off,none⟩) 1 C2,.int .i64 (-1)] 26
 go_wp2_with fail
 refine (unhide hfa1 _).mono ?_
 rintro e w3 ⟨rfl,hb3⟩
 replace hS := hS.kept hb3
 clear z2_0_0 z2_0_1
 obtain ⟨⟨z3_0_0,z3_0_1,z3_0_2,-⟩,⟨z3_1_0,z3_1_1,-⟩,-⟩ := hS.cells
 clear hg2 hc2
 go_wp2_with fail
 refine (unhide hfb1 _).mono ?_
 rintro e w4 ⟨rfl,hb4⟩
 replace hS := hS.kept hb4
 clear z3_0_0 z3_0_1 z3_0_2 z3_1_0 z3_1_1
 obtain ⟨⟨z4_0_0,z4_0_1,z4_0_2,-⟩,⟨z4_1_0,z4_1_1,-⟩,-⟩ := hS.cells
 go_wp2_with fail
 refine (unhide hva _ ((unhide HT).kept hS.fr)).mono ?_
 rintro e w5 ⟨⟨A5,N5,C5,rfl,g5⟩,hb5⟩
 replace hS := hS.kept hb5
 clear z4_0_0 z4_0_1 z4_0_2 z4_1_0 z4_1_1
 obtain ⟨⟨z5_0_0,z5_0_1,z5_0_2,-⟩,⟨z5_1_0,z5_1_1,-⟩,-⟩ := hS.cells
 have G5 := hide g5
 clear g5
 have hltw5_0 : w2.heap.size < w5.heap.size := block_lt (hS.bx ⟨w2.heap.size,#[.bool false,.slice (some ⟨g,off,none⟩) 1 C2,.int .i64 (-1)],26⟩ (by simp))
 have hltw5_1 : w.heap.size < w5.heap.size := block_lt (hS.bx ⟨w.heap.size,#[.int .i64 E,.int .i64 F],38⟩ (by simp))
 replace hS := hS.alloc #[.bool sa,.slice A5 N5 C5,.int .i64 xa] 26
 replace G5 := hide ((unhide G5).alloc (.cells #[.bool sa,.slice A5 N5 C5,.int .i64 xa] 26))
 go_wp2_with fail
 refine (unhide hvb _ ((unhide HT).kept hS.fr)).mono ?_
 rintro e w6 ⟨⟨A6,N6,C6,rfl,g6⟩,hb6⟩
 replace hS := hS.kept hb6
 clear z5_0_0 z5_0_1 z5_0_2 z5_1_0 z5_1_1
 obtain ⟨⟨z6_0_0,z6_0_1,z6_0_2,-⟩,⟨z6_1_0,z6_1_1,z6_1_2,-⟩,⟨z6_2_0,z6_2_1,-⟩,-⟩ := hS.cells
 replace G5 := hide ((unhide G5).kept hb6)
 have G6 := hide g6
 clear g6
 have hltw6_0 : w5.heap.size < w6.heap.size := block_lt (hS.bx ⟨w5.heap.size,#[.bool sa,.slice A5 N5 C5,.int .i64 xa],26⟩ (by simp))
 have hltw6_1 : w2.heap.size < w6.heap.size := block_lt (hS.bx ⟨w2.heap.size,#[.bool false,.slice (some ⟨g,off,none⟩) 1 C2,.int .i64 (-1)],26⟩ (by simp))
 have hltw6_2 : w.heap.size < w6.heap.size := block_lt (hS.bx ⟨w.heap.size,#[.int .i64 E,.int .i64 F],38⟩ (by simp))
 replace hS := hS.alloc #[.bool sb,.slice A6 N6 C6,.int .i64 xb] 26
 replace G5 := hide ((unhide G5).alloc (.cells #[.bool sb,.slice A6 N6 C6,.int .i64 xb] 26))
 replace G6 := hide ((unhide G6).alloc (.cells #[.bool sb,.slice A6 N6 C6,.int .i64 xb] 26))
 go_wp2_with fail
 refine (unhide hbi _ A5 N5 C5 (unhide G5)).mono ?_
 rintro e w7 ⟨rfl,hb7⟩
 replace hS := hS.kept hb7
 clear z6_0_0 z6_0_1 z6_0_2 z6_1_0 z6_1_1 z6_1_2 z6_2_0 z6_2_1
 obtain ⟨⟨z7_0_0,z7_0_1,z7_0_2,-⟩,⟨z7_1_0,z7_1_1,z7_1_2,-⟩,⟨z7_2_0,z7_2_1,z7_2_2,-⟩,⟨z7_3_0,z7_3_1,-⟩,-⟩ := hS.cells
 replace G5 := hide ((unhide G5).kept hb7)
 replace G6 := hide ((unhide G6).kept hb7)
 go_wp2_with fail
 refine (unhide hcm _ A5 N5 C5 A6 N6 C6 (unhide G5) (unhide G6)).mono ?_
 rintro e w8 ⟨rfl,hb8⟩
 replace hS := hS.kept hb8
 clear z7_0_0 z7_0_1 z7_0_2 z7_1_0 z7_1_1 z7_1_2 z7_2_0 z7_2_1 z7_2_2 z7_3_0 z7_3_1
 obtain ⟨⟨z8_0_0,z8_0_1,z8_0_2,-⟩,⟨z8_1_0,z8_1_1,z8_1_2,-⟩,⟨z8_2_0,z8_2_1,z8_2_2,-⟩,⟨z8_3_0,z8_3_1,-⟩,-⟩ := hS.cells
 replace G5 := hide ((unhide G5).kept hb8)
 replace G6 := hide ((unhide G6).kept hb8)
 go_wp2_with fail
 refine (unhide hna _).mono ?_
 rintro e w9 ⟨rfl,hb9⟩
 replace hS := hS.kept hb9
 clear z8_0_0 z8_0_1 z8_0_2 z8_1_0 z8_1_1 z8_1_2 z8_2_0 z8_2_1 z8_2_2 z8_3_0 z8_3_1
 obtain ⟨⟨z9_0_0,z9_0_1,z9_0_2,-⟩,⟨z9_1_0,z9_1_1,z9_1_2,-⟩,⟨z9_2_0,z9_2_1,z9_2_2,-⟩,⟨z9_3_0,z9_3_1,-⟩,-⟩ := hS.cells
 replace G5 := hide ((unhide G5).kept hb9)
 replace G6 := hide ((unhide G6).kept hb9)
 go_wp2
 go_ret
 exact ⟨rfl,hS.fr⟩
set_option maxRecDepth 20000 in
set_option maxHeartbeats 4000000 in
theorem topW_same_tf (E F : Int) (a b : Nat) (sa sb : Bool) (ma mb bk : Nat) (xa xb c : Int) (w : World) (hT : Tb w) (hfa1 : Hid (∀ W : World,Calls Tryd.prog 47 #[.agg #[.int .i64 E,.int .i64 F],.int .u64 a] W fun e w' => e = .returned (.bool true) ∧ Below W.heap.size W w')) (hfb1 : Hid (∀ W : World,Calls Tryd.prog 47 #[.agg #[.int .i64 E,.int .i64 F],.int .u64 b] W fun e w' => e = .returned (.bool true) ∧ Below W.heap.size W w')) (hva : Hid (∀ W : World,Tb W → Calls Tryd.prog 18 #[.agg #[.int .i64 E,.int .i64 F],.int .u64 a] W fun e w' => (∃ A N C,e = .returned (.tuple #[.agg #[.bool sa,.slice A N C,.int .i64 xa],.int .i64 0]) ∧ Num w' A N ma) ∧ Below W.heap.size W w')) (hvb : Hid (∀ W : World,Tb W → Calls Tryd.prog 18 #[.agg #[.int .i64 E,.int .i64 F],.int .u64 b] W fun e w' => (∃ A N C,e = .returned (.tuple #[.agg #[.bool sb,.slice A N C,.int .i64 xb],.int .i64 0]) ∧ Num w' A N mb) ∧ Below W.heap.size W w')) (hbi : Hid (∀ (W : World) (A : Option Addr) (N C : Nat),Num W A N ma → Calls Tryd.prog 39 #[.agg #[.int .i64 E,.int .i64 F],.agg #[.bool sa,.slice A N C,.int .i64 xa]] W fun e w' => e = .returned (.tuple #[.int .u64 bk,.bool true,.int .i64 0]) ∧ Below W.heap.size W w')) (hcm : Hid (∀ (W : World) (A : Option Addr) (N C : Nat) (A' : Option Addr) (N' C' : Nat),Num W A N ma → Num W A' N' mb → Calls Tryd.prog 17 #[.agg #[.bool sa,.slice A N C,.int .i64 xa],.agg #[.bool sb,.slice A' N' C',.int .i64 xb]] W fun e w' => e = .returned (.tuple #[.int .i64 c,.int .i64 0]) ∧ Below W.heap.size W w')) (hc0 : (c == 0) = false) (hab : ((a : Int) == (b : Int)) = false) (hba : ((bk : Int) != (a : Int)) = false) (hna : Hid (∀ W : World,Calls Tryd.prog 48 #[.agg #[.int .i64 E,.int .i64 F],.int .u64 a] W fun e w' => e = .returned (.bool true) ∧ Below W.heap.size W w')) (hnb : Hid (∀ W : World,Calls Tryd.prog 48 #[.agg #[.int .i64 E,.int .i64 F],.int .u64 b] W fun e w' => e = .returned (.bool false) ∧ Below W.heap.size W w')) :
  Calls Tryd.prog 12 #[.agg #[.int .i64 E,.int .i64 F],.int .u64 a,.int .u64 b] w fun e w' => e = .returned (.bool true) ∧ Below w.heap.size w w' := by
 have HT := hide hT
 clear hT
 go_enter Tryd.func12,Tryd.ntmps12
 go_wp2_with fail
 refine (tdouble _).mono ?_
 rintro e w1 ⟨rfl,hb1⟩
 have hS := (Fs.one w _ _).kept hb1
 obtain ⟨⟨z1_0_0,z1_0_1,-⟩,-⟩ := hS.cells
 go_wp2_with fail
 refine (one_val _ ((unhide HT).kept hS.fr)).mono ?_
 rintro e w2 ⟨⟨g,off,C2,rfl,hg2,hc2⟩,hb2⟩
 replace hS := hS.kept hb2
 clear z1_0_0 z1_0_1
 obtain ⟨⟨z2_0_0,z2_0_1,-⟩,-⟩ := hS.cells
 have hltw2_0 : w.heap.size < w2.heap.size := block_lt (hS.bx ⟨w.heap.size,#[.int .i64 E,.int .i64 F],38⟩ (by simp))
 replace hS := hS.alloc #[.bool false,.slice (some ⟨g,off,none⟩) 1 C2,.int .i64 (-1)] 26
 go_wp2_with fail
 refine (unhide hfa1 _).mono ?_
 rintro e w3 ⟨rfl,hb3⟩
 replace hS := hS.kept hb3
 clear z2_0_0 z2_0_1
 obtain ⟨⟨z3_0_0,z3_0_1,z3_0_2,-⟩,⟨z3_1_0,z3_1_1,-⟩,-⟩ := hS.cells
 clear hg2 hc2
 go_wp2_with fail
 refine (unhide hfb1 _).mono ?_
 rintro e w4 ⟨rfl,hb4⟩
 replace hS := hS.kept hb4
 clear z3_0_0 z3_0_1 z3_0_2 z3_1_0 z3_1_1
 obtain ⟨⟨z4_0_0,z4_0_1,z4_0_2,-⟩,⟨z4_1_0,z4_1_1,-⟩,-⟩ := hS.cells
 go_wp2_with fail
 refine (unhide hva _ ((unhide HT).kept hS.fr)).mono ?_
 rintro e w5 ⟨⟨A5,N5,C5,rfl,g5⟩,hb5⟩
 replace hS := hS.kept hb5
 clear z4_0_0 z4_0_1 z4_0_2 z4_1_0 z4_1_1
 obtain ⟨⟨z5_0_0,z5_0_1,z5_0_2,-⟩,⟨z5_1_0,z5_1_1,-⟩,-⟩ := hS.cells
 have G5 := hide g5
 clear g5
 have hltw5_0 : w2.heap.size < w5.heap.size := block_lt (hS.bx ⟨w2.heap.size,#[.bool false,.slice (some ⟨g,off,none⟩) 1 C2,.int .i64 (-1)],26⟩ (by simp))
 have hltw5_1 : w.heap.size < w5.heap.size := block_lt (hS.bx ⟨w.heap.size,#[.int .i64 E,.int .i64 F],38⟩ (by simp))
 replace hS := hS.alloc #[.bool sa,.slice A5 N5 C5,.int .i64 xa] 26
 replace G5 := hide ((unhide G5).alloc (.cells #[.bool sa,.slice A5 N5 C5,.int .i64 xa] 26))
 go_wp2_with fail
 refine (unhide hvb _ ((unhide HT).kept hS.fr)).mono ?_
 rintro e w6 ⟨⟨A6,N6,C6,rfl,g6⟩,hb6⟩
 replace hS := hS.kept hb6
 clear z5_0_0 z5_0_1 z5_0_2 z5_1_0 z5_1_1
 obtain ⟨⟨z6_0_0,z6_0_1,z6_0_2,-⟩,⟨z6_1_0,z6_1_1,z6_1_2,-⟩,⟨z6_2_0,z6_2_1,-⟩,-⟩ := hS.cells
 replace G5 := hide ((unhide G5).kept hb6)
 have G6 := hide g6
 clear g6
 have hltw6_0 : w5.heap.size < w6.heap.size := block_lt (hS.bx ⟨w5.heap.size,#[.bool sa,.slice A5 N5 C5,.int .i64 xa],26⟩ (by simp))
 have hltw6_1 : w2.heap.size < w6.heap.size := block_lt (hS.bx ⟨w2.heap.size,#[.bool false,.slice (some ⟨g,off,none⟩) 1 C2,.int .i64 (-1)],26⟩ (by simp))
 have hltw6_2 : w.heap.size < w6.heap.size := block_lt (hS.bx ⟨w.heap.size,#[.int .i64 E,.int .i64 F],38⟩ (by simp))
 replace hS := hS.alloc #[.bool sb,.slice A6 N6 C6,.int .i64 xb] 26
 replace G5 := hide ((unhide G5).alloc (.cells #[.bool sb,.slice A6 N6 C6,.int .i64 xb] 26))
 replace G6 := hide ((unhide G6).alloc (.cells #[.bool sb,.slice A6 N6 C6,.int .i64 xb] 26))
 go_wp2_with fail
 refine (unhide hbi _ A5 N5 C5 (unhide G5)).mono ?_
 rintro e w7 ⟨rfl,hb7⟩
 replace hS := hS.kept hb7
 clear z6_0_0 z6_0_1 z6_0_2 z6_1_0 z6_1_1 z6_1_2 z6_2_0 z6_2_1
 obtain ⟨⟨z7_0_0,z7_0_1,z7_0_2,-⟩,⟨z7_1_0,z7_1_1,z7_1_2,-⟩,⟨z7_2_0,z7_2_1,z7_2_2,-⟩,⟨z7_3_0,z7_3_1,-⟩,-⟩ := hS.cells
 replace G5 := hide ((unhide G5).kept hb7)
 replace G6 := hide ((unhide G6).kept hb7)
 go_wp2_with fail
 refine (unhide hcm _ A5 N5 C5 A6 N6 C6 (unhide G5) (unhide G6)).mono ?_
 rintro e w8 ⟨rfl,hb8⟩
 replace hS := hS.kept hb8
 clear z7_0_0 z7_0_1 z7_0_2 z7_1_0 z7_1_1 z7_1_2 z7_2_0 z7_2_1 z7_2_2 z7_3_0 z7_3_1
 obtain ⟨⟨z8_0_0,z8_0_1,z8_0_2,-⟩,⟨z8_1_0,z8_1_1,z8_1_2,-⟩,⟨z8_2_0,z8_2_1,z8_2_2,-⟩,⟨z8_3_0,z8_3_1,-⟩,-⟩ := hS.cells
 replace G5 := hide ((unhide G5).kept hb8)
 replace G6 := hide ((unhide G6).kept hb8)
 go_wp2_with fail
 refine (unhide hna _).mono ?_
 rintro e w9 ⟨rfl,hb9⟩
 replace hS := hS.kept hb9
 clear z8_0_0 z8_0_1 z8_0_2 z8_1_0 z8_1_1 z8_1_2 z8_2_0 z8_2_1 z8_2_2 z8_3_0 z8_3_1
 obtain ⟨⟨z9_0_0,z9_0_1,z9_0_2,-⟩,⟨z9_1_0,z9_1_1,z9_1_2,-⟩,⟨z9_2_0,z9_2_1,z9_2_2,-⟩,⟨z9_3_0,z9_3_1,-⟩,-⟩ := hS.cells
 replace G5 := hide ((unhide G5).kept hb9)
 replace G6 := hide ((unhide G6).kept hb9)
 go_wp2_with fail
 refine (unhide hnb _).mono ?_
 rintro e w10 ⟨rfl,hb10⟩
 replace hS := hS.kept hb10
 clear z9_0_0 z9_0_1 z9_0_2 z9_1_0 z9_1_1 z9_1_2 z9_2_0 z9_2_1 z9_2_2 z9_3_0 z9_3_1
 obtain ⟨⟨z10_0_0,z10_0_1,z10_0_2,-⟩,⟨z10_1_0,z10_1_1,z10_1_2,-⟩,⟨z10_2_0,z10_2_1,z10_2_2,-⟩,⟨z10_3_0,z10_3_1,-⟩,-⟩ := hS.cells
 replace G5 := hide ((unhide G5).kept hb10)
 replace G6 := hide ((unhide G6).kept hb10)
 go_wp2
 go_ret
 exact ⟨rfl,hS.fr⟩
set_option maxRecDepth 20000 in
set_option maxHeartbeats 4000000 in
theorem topW_same_tt (E F : Int) (a b : Nat) (sa sb : Bool) (ma mb bk : Nat) (xa xb c : Int) (w : World) (hT : Tb w) (hfa1 : Hid (∀ W : World,Calls Tryd.prog 47 #[.agg #[.int .i64 E,.int .i64 F],.int .u64 a] W fun e w' => e = .returned (.bool true) ∧ Below W.heap.size W w')) (hfb1 : Hid (∀ W : World,Calls Tryd.prog 47 #[.agg #[.int .i64 E,.int .i64 F],.int .u64 b] W fun e w' => e = .returned (.bool true) ∧ Below W.heap.size W w')) (hva : Hid (∀ W : World,Tb W → Calls Tryd.prog 18 #[.agg #[.int .i64 E,.int .i64 F],.int .u64 a] W fun e w' => (∃ A N C,e = .returned (.tuple #[.agg #[.bool sa,.slice A N C,.int .i64 xa],.int .i64 0]) ∧ Num w' A N ma) ∧ Below W.heap.size W w')) (hvb : Hid (∀ W : World,Tb W → Calls Tryd.prog 18 #[.agg #[.int .i64 E,.int .i64 F],.int .u64 b] W fun e w' => (∃ A N C,e = .returned (.tuple #[.agg #[.bool sb,.slice A N C,.int .i64 xb],.int .i64 0]) ∧ Num w' A N mb) ∧ Below W.heap.size W w')) (hbi : Hid (∀ (W : World) (A : Option Addr) (N C : Nat),Num W A N ma → Calls Tryd.prog 39 #[.agg #[.int .i64 E,.int .i64 F],.agg #[.bool sa,.slice A N C,.int .i64 xa]] W fun e w' => e = .returned (.tuple #[.int .u64 bk,.bool true,.int .i64 0]) ∧ Below W.heap.size W w')) (hcm : Hid (∀ (W : World) (A : Option Addr) (N C : Nat) (A' : Option Addr) (N' C' : Nat),Num W A N ma → Num W A' N' mb → Calls Tryd.prog 17 #[.agg #[.bool sa,.slice A N C,.int .i64 xa],.agg #[.bool sb,.slice A' N' C',.int .i64 xb]] W fun e w' => e = .returned (.tuple #[.int .i64 c,.int .i64 0]) ∧ Below W.heap.size W w')) (hc0 : (c == 0) = true) (hab : ((a : Int) == (b : Int)) = false) (hba : ((bk : Int) != (a : Int)) = false) (hna : Hid (∀ W : World,Calls Tryd.prog 48 #[.agg #[.int .i64 E,.int .i64 F],.int .u64 a] W fun e w' => e = .returned (.bool true) ∧ Below W.heap.size W w')) (hnb : Hid (∀ W : World,Calls Tryd.prog 48 #[.agg #[.int .i64 E,.int .i64 F],.int .u64 b] W fun e w' => e = .returned (.bool true) ∧ Below W.heap.size W w')) :
  Calls Tryd.prog 12 #[.agg #[.int .i64 E,.int .i64 F],.int .u64 a,.int .u64 b] w fun e w' => e = .returned (.bool true) ∧ Below w.heap.size w w' := by
 have HT := hide hT
 clear hT
 go_enter Tryd.func12,Tryd.ntmps12
 go_wp2_with fail
 refine (tdouble _).mono ?_
 rintro e w1 ⟨rfl,hb1⟩
 have hS := (Fs.one w _ _).kept hb1
 obtain ⟨⟨z1_0_0,z1_0_1,-⟩,-⟩ := hS.cells
 go_wp2_with fail
 refine (one_val _ ((unhide HT).kept hS.fr)).mono ?_
 rintro e w2 ⟨⟨g,off,C2,rfl,hg2,hc2⟩,hb2⟩
 replace hS := hS.kept hb2
 clear z1_0_0 z1_0_1
 obtain ⟨⟨z2_0_0,z2_0_1,-⟩,-⟩ := hS.cells
 have hltw2_0 : w.heap.size < w2.heap.size := block_lt (hS.bx ⟨w.heap.size,#[.int .i64 E,.int .i64 F],38⟩ (by simp))
 replace hS := hS.alloc #[.bool false,.slice (some ⟨g,off,none⟩) 1 C2,.int .i64 (-1)] 26
 go_wp2_with fail
 refine (unhide hfa1 _).mono ?_
 rintro e w3 ⟨rfl,hb3⟩
 replace hS := hS.kept hb3
 clear z2_0_0 z2_0_1
 obtain ⟨⟨z3_0_0,z3_0_1,z3_0_2,-⟩,⟨z3_1_0,z3_1_1,-⟩,-⟩ := hS.cells
 clear hg2 hc2
 go_wp2_with fail
 refine (unhide hfb1 _).mono ?_
 rintro e w4 ⟨rfl,hb4⟩
 replace hS := hS.kept hb4
 clear z3_0_0 z3_0_1 z3_0_2 z3_1_0 z3_1_1
 obtain ⟨⟨z4_0_0,z4_0_1,z4_0_2,-⟩,⟨z4_1_0,z4_1_1,-⟩,-⟩ := hS.cells
 go_wp2_with fail
 refine (unhide hva _ ((unhide HT).kept hS.fr)).mono ?_
 rintro e w5 ⟨⟨A5,N5,C5,rfl,g5⟩,hb5⟩
 replace hS := hS.kept hb5
 clear z4_0_0 z4_0_1 z4_0_2 z4_1_0 z4_1_1
 obtain ⟨⟨z5_0_0,z5_0_1,z5_0_2,-⟩,⟨z5_1_0,z5_1_1,-⟩,-⟩ := hS.cells
 have G5 := hide g5
 clear g5
 have hltw5_0 : w2.heap.size < w5.heap.size := block_lt (hS.bx ⟨w2.heap.size,#[.bool false,.slice (some ⟨g,off,none⟩) 1 C2,.int .i64 (-1)],26⟩ (by simp))
 have hltw5_1 : w.heap.size < w5.heap.size := block_lt (hS.bx ⟨w.heap.size,#[.int .i64 E,.int .i64 F],38⟩ (by simp))
 replace hS := hS.alloc #[.bool sa,.slice A5 N5 C5,.int .i64 xa] 26
 replace G5 := hide ((unhide G5).alloc (.cells #[.bool sa,.slice A5 N5 C5,.int .i64 xa] 26))
 go_wp2_with fail
 refine (unhide hvb _ ((unhide HT).kept hS.fr)).mono ?_
 rintro e w6 ⟨⟨A6,N6,C6,rfl,g6⟩,hb6⟩
 replace hS := hS.kept hb6
 clear z5_0_0 z5_0_1 z5_0_2 z5_1_0 z5_1_1
 obtain ⟨⟨z6_0_0,z6_0_1,z6_0_2,-⟩,⟨z6_1_0,z6_1_1,z6_1_2,-⟩,⟨z6_2_0,z6_2_1,-⟩,-⟩ := hS.cells
 replace G5 := hide ((unhide G5).kept hb6)
 have G6 := hide g6
 clear g6
 have hltw6_0 : w5.heap.size < w6.heap.size := block_lt (hS.bx ⟨w5.heap.size,#[.bool sa,.slice A5 N5 C5,.int .i64 xa],26⟩ (by simp))
 have hltw6_1 : w2.heap.size < w6.heap.size := block_lt (hS.bx ⟨w2.heap.size,#[.bool false,.slice (some ⟨g,off,none⟩) 1 C2,.int .i64 (-1)],26⟩ (by simp))
 have hltw6_2 : w.heap.size < w6.heap.size := block_lt (hS.bx ⟨w.heap.size,#[.int .i64 E,.int .i64 F],38⟩ (by simp))
 replace hS := hS.alloc #[.bool sb,.slice A6 N6 C6,.int .i64 xb] 26
 replace G5 := hide ((unhide G5).alloc (.cells #[.bool sb,.slice A6 N6 C6,.int .i64 xb] 26))
 replace G6 := hide ((unhide G6).alloc (.cells #[.bool sb,.slice A6 N6 C6,.int .i64 xb] 26))
 go_wp2_with fail
 refine (unhide hbi _ A5 N5 C5 (unhide G5)).mono ?_
 rintro e w7 ⟨rfl,hb7⟩
 replace hS := hS.kept hb7
 clear z6_0_0 z6_0_1 z6_0_2 z6_1_0 z6_1_1 z6_1_2 z6_2_0 z6_2_1
 obtain ⟨⟨z7_0_0,z7_0_1,z7_0_2,-⟩,⟨z7_1_0,z7_1_1,z7_1_2,-⟩,⟨z7_2_0,z7_2_1,z7_2_2,-⟩,⟨z7_3_0,z7_3_1,-⟩,-⟩ := hS.cells
 replace G5 := hide ((unhide G5).kept hb7)
 replace G6 := hide ((unhide G6).kept hb7)
 go_wp2_with fail
 refine (unhide hcm _ A5 N5 C5 A6 N6 C6 (unhide G5) (unhide G6)).mono ?_
 rintro e w8 ⟨rfl,hb8⟩
 replace hS := hS.kept hb8
 clear z7_0_0 z7_0_1 z7_0_2 z7_1_0 z7_1_1 z7_1_2 z7_2_0 z7_2_1 z7_2_2 z7_3_0 z7_3_1
 obtain ⟨⟨z8_0_0,z8_0_1,z8_0_2,-⟩,⟨z8_1_0,z8_1_1,z8_1_2,-⟩,⟨z8_2_0,z8_2_1,z8_2_2,-⟩,⟨z8_3_0,z8_3_1,-⟩,-⟩ := hS.cells
 replace G5 := hide ((unhide G5).kept hb8)
 replace G6 := hide ((unhide G6).kept hb8)
 go_wp2_with fail
 refine (unhide hna _).mono ?_
 rintro e w9 ⟨rfl,hb9⟩
 replace hS := hS.kept hb9
 clear z8_0_0 z8_0_1 z8_0_2 z8_1_0 z8_1_1 z8_1_2 z8_2_0 z8_2_1 z8_2_2 z8_3_0 z8_3_1
 obtain ⟨⟨z9_0_0,z9_0_1,z9_0_2,-⟩,⟨z9_1_0,z9_1_1,z9_1_2,-⟩,⟨z9_2_0,z9_2_1,z9_2_2,-⟩,⟨z9_3_0,z9_3_1,-⟩,-⟩ := hS.cells
 replace G5 := hide ((unhide G5).kept hb9)
 replace G6 := hide ((unhide G6).kept hb9)
 go_wp2_with fail
 refine (unhide hnb _).mono ?_
 rintro e w10 ⟨rfl,hb10⟩
 replace hS := hS.kept hb10
 clear z9_0_0 z9_0_1 z9_0_2 z9_1_0 z9_1_1 z9_1_2 z9_2_0 z9_2_1 z9_2_2 z9_3_0 z9_3_1
 obtain ⟨⟨z10_0_0,z10_0_1,z10_0_2,-⟩,⟨z10_1_0,z10_1_1,z10_1_2,-⟩,⟨z10_2_0,z10_2_1,z10_2_2,-⟩,⟨z10_3_0,z10_3_1,-⟩,-⟩ := hS.cells
 replace G5 := hide ((unhide G5).kept hb10)
 replace G6 := hide ((unhide G6).kept hb10)
 go_wp2
 go_ret
 exact ⟨rfl,hS.fr⟩
set_option maxRecDepth 20000 in
set_option maxHeartbeats 4000000 in
theorem topW_zero_eq (E F : Int) (a b : Nat) (sa sb : Bool) (ma mb bk : Nat) (xa xb c : Int) (w : World) (hT : Tb w) (hfa1 : Hid (∀ W : World,Calls Tryd.prog 47 #[.agg #[.int .i64 E,.int .i64 F],.int .u64 a] W fun e w' => e = .returned (.bool true) ∧ Below W.heap.size W w')) (hfb1 : Hid (∀ W : World,Calls Tryd.prog 47 #[.agg #[.int .i64 E,.int .i64 F],.int .u64 b] W fun e w' => e = .returned (.bool true) ∧ Below W.heap.size W w')) (hva : Hid (∀ W : World,Tb W → Calls Tryd.prog 18 #[.agg #[.int .i64 E,.int .i64 F],.int .u64 a] W fun e w' => (∃ A N C,e = .returned (.tuple #[.agg #[.bool sa,.slice A N C,.int .i64 xa],.int .i64 0]) ∧ Num w' A N ma) ∧ Below W.heap.size W w')) (hvb : Hid (∀ W : World,Tb W → Calls Tryd.prog 18 #[.agg #[.int .i64 E,.int .i64 F],.int .u64 b] W fun e w' => (∃ A N C,e = .returned (.tuple #[.agg #[.bool sb,.slice A N C,.int .i64 xb],.int .i64 0]) ∧ Num w' A N mb) ∧ Below W.heap.size W w')) (hbi : Hid (∀ (W : World) (A : Option Addr) (N C : Nat),Num W A N ma → Calls Tryd.prog 39 #[.agg #[.int .i64 E,.int .i64 F],.agg #[.bool sa,.slice A N C,.int .i64 xa]] W fun e w' => e = .returned (.tuple #[.int .u64 bk,.bool true,.int .i64 0]) ∧ Below W.heap.size W w')) (hcm : Hid (∀ (W : World) (A : Option Addr) (N C : Nat) (A' : Option Addr) (N' C' : Nat),Num W A N ma → Num W A' N' mb → Calls Tryd.prog 17 #[.agg #[.bool sa,.slice A N C,.int .i64 xa],.agg #[.bool sb,.slice A' N' C',.int .i64 xb]] W fun e w' => e = .returned (.tuple #[.int .i64 c,.int .i64 0]) ∧ Below W.heap.size W w')) (hc0 : (c == 0) = true) (hab : ((a : Int) == (b : Int)) = true) (hba : ((bk : Int) != (a : Int)) = true) (hb0 : ((bk : Int) != 0) = false) (hna : Hid (∀ W : World,Calls Tryd.prog 48 #[.agg #[.int .i64 E,.int .i64 F],.int .u64 a] W fun e w' => e = .returned (.bool true) ∧ Below W.heap.size W w')) :
  Calls Tryd.prog 12 #[.agg #[.int .i64 E,.int .i64 F],.int .u64 a,.int .u64 b] w fun e w' => e = .returned (.bool true) ∧ Below w.heap.size w w' := by
 have HT := hide hT
 clear hT
 go_enter Tryd.func12,Tryd.ntmps12
 go_wp2_with fail
 refine (tdouble _).mono ?_
 rintro e w1 ⟨rfl,hb1⟩
 have hS := (Fs.one w _ _).kept hb1
 obtain ⟨⟨z1_0_0,z1_0_1,-⟩,-⟩ := hS.cells
 go_wp2_with fail
 refine (one_val _ ((unhide HT).kept hS.fr)).mono ?_
 rintro e w2 ⟨⟨g,off,C2,rfl,hg2,hc2⟩,hb2⟩
 replace hS := hS.kept hb2
 clear z1_0_0 z1_0_1
 obtain ⟨⟨z2_0_0,z2_0_1,-⟩,-⟩ := hS.cells
 have hltw2_0 : w.heap.size < w2.heap.size := block_lt (hS.bx ⟨w.heap.size,#[.int .i64 E,.int .i64 F],38⟩ (by simp))
 replace hS := hS.alloc #[.bool false,.slice (some ⟨g,off,none⟩) 1 C2,.int .i64 (-1)] 26
 go_wp2_with fail
 refine (unhide hfa1 _).mono ?_
 rintro e w3 ⟨rfl,hb3⟩
 replace hS := hS.kept hb3
 clear z2_0_0 z2_0_1
 obtain ⟨⟨z3_0_0,z3_0_1,z3_0_2,-⟩,⟨z3_1_0,z3_1_1,-⟩,-⟩ := hS.cells
 clear hg2 hc2
 go_wp2_with fail
 refine (unhide hfb1 _).mono ?_
 rintro e w4 ⟨rfl,hb4⟩
 replace hS := hS.kept hb4
 clear z3_0_0 z3_0_1 z3_0_2 z3_1_0 z3_1_1
 obtain ⟨⟨z4_0_0,z4_0_1,z4_0_2,-⟩,⟨z4_1_0,z4_1_1,-⟩,-⟩ := hS.cells
 go_wp2_with fail
 refine (unhide hva _ ((unhide HT).kept hS.fr)).mono ?_
 rintro e w5 ⟨⟨A5,N5,C5,rfl,g5⟩,hb5⟩
 replace hS := hS.kept hb5
 clear z4_0_0 z4_0_1 z4_0_2 z4_1_0 z4_1_1
 obtain ⟨⟨z5_0_0,z5_0_1,z5_0_2,-⟩,⟨z5_1_0,z5_1_1,-⟩,-⟩ := hS.cells
 have G5 := hide g5
 clear g5
 have hltw5_0 : w2.heap.size < w5.heap.size := block_lt (hS.bx ⟨w2.heap.size,#[.bool false,.slice (some ⟨g,off,none⟩) 1 C2,.int .i64 (-1)],26⟩ (by simp))
 have hltw5_1 : w.heap.size < w5.heap.size := block_lt (hS.bx ⟨w.heap.size,#[.int .i64 E,.int .i64 F],38⟩ (by simp))
 replace hS := hS.alloc #[.bool sa,.slice A5 N5 C5,.int .i64 xa] 26
 replace G5 := hide ((unhide G5).alloc (.cells #[.bool sa,.slice A5 N5 C5,.int .i64 xa] 26))
 go_wp2_with fail
 refine (unhide hvb _ ((unhide HT).kept hS.fr)).mono ?_
 rintro e w6 ⟨⟨A6,N6,C6,rfl,g6⟩,hb6⟩
 replace hS := hS.kept hb6
 clear z5_0_0 z5_0_1 z5_0_2 z5_1_0 z5_1_1
 obtain ⟨⟨z6_0_0,z6_0_1,z6_0_2,-⟩,⟨z6_1_0,z6_1_1,z6_1_2,-⟩,⟨z6_2_0,z6_2_1,-⟩,-⟩ := hS.cells
 replace G5 := hide ((unhide G5).kept hb6)
 have G6 := hide g6
 clear g6
 have hltw6_0 : w5.heap.size < w6.heap.size := block_lt (hS.bx ⟨w5.heap.size,#[.bool sa,.slice A5 N5 C5,.int .i64 xa],26⟩ (by simp))
 have hltw6_1 : w2.heap.size < w6.heap.size := block_lt (hS.bx ⟨w2.heap.size,#[.bool false,.slice (some ⟨g,off,none⟩) 1 C2,.int .i64 (-1)],26⟩ (by simp))
 have hltw6_2 : w.heap.size < w6.heap.size := block_lt (hS.bx ⟨w.heap.size,#[.int .i64 E,.int .i64 F],38⟩ (by simp))
 replace hS := hS.alloc #[.bool sb,.slice A6 N6 C6,.int .i64 xb] 26
 replace G5 := hide ((unhide G5).alloc (.cells #[.bool sb,.slice A6 N6 C6,.int .i64 xb] 26))
 replace G6 := hide ((unhide G6).alloc (.cells #[.bool sb,.slice A6 N6 C6,.int .i64 xb] 26))
 go_wp2_with fail
 refine (unhide hbi _ A5 N5 C5 (unhide G5)).mono ?_
 rintro e w7 ⟨rfl,hb7⟩
 replace hS := hS.kept hb7
 clear z6_0_0 z6_0_1 z6_0_2 z6_1_0 z6_1_1 z6_1_2 z6_2_0 z6_2_1
 obtain ⟨⟨z7_0_0,z7_0_1,z7_0_2,-⟩,⟨z7_1_0,z7_1_1,z7_1_2,-⟩,⟨z7_2_0,z7_2_1,z7_2_2,-⟩,⟨z7_3_0,z7_3_1,-⟩,-⟩ := hS.cells
 replace G5 := hide ((unhide G5).kept hb7)
 replace G6 := hide ((unhide G6).kept hb7)
 go_wp2_with fail
 refine (unhide hna _).mono ?_
 rintro e w8 ⟨rfl,hb8⟩
 replace hS := hS.kept hb8
 clear z7_0_0 z7_0_1 z7_0_2 z7_1_0 z7_1_1 z7_1_2 z7_2_0 z7_2_1 z7_2_2 z7_3_0 z7_3_1
 obtain ⟨⟨z8_0_0,z8_0_1,z8_0_2,-⟩,⟨z8_1_0,z8_1_1,z8_1_2,-⟩,⟨z8_2_0,z8_2_1,z8_2_2,-⟩,⟨z8_3_0,z8_3_1,-⟩,-⟩ := hS.cells
 replace G5 := hide ((unhide G5).kept hb8)
 replace G6 := hide ((unhide G6).kept hb8)
 go_wp2_with fail
 refine (unhide hcm _ A5 N5 C5 A6 N6 C6 (unhide G5) (unhide G6)).mono ?_
 rintro e w9 ⟨rfl,hb9⟩
 replace hS := hS.kept hb9
 clear z8_0_0 z8_0_1 z8_0_2 z8_1_0 z8_1_1 z8_1_2 z8_2_0 z8_2_1 z8_2_2 z8_3_0 z8_3_1
 obtain ⟨⟨z9_0_0,z9_0_1,z9_0_2,-⟩,⟨z9_1_0,z9_1_1,z9_1_2,-⟩,⟨z9_2_0,z9_2_1,z9_2_2,-⟩,⟨z9_3_0,z9_3_1,-⟩,-⟩ := hS.cells
 replace G5 := hide ((unhide G5).kept hb9)
 replace G6 := hide ((unhide G6).kept hb9)
 go_wp2
 go_ret
 exact ⟨rfl,hS.fr⟩
set_option maxRecDepth 20000 in
set_option maxHeartbeats 4000000 in
theorem topW_zero_tf (E F : Int) (a b : Nat) (sa sb : Bool) (ma mb bk : Nat) (xa xb c : Int) (w : World) (hT : Tb w) (hfa1 : Hid (∀ W : World,Calls Tryd.prog 47 #[.agg #[.int .i64 E,.int .i64 F],.int .u64 a] W fun e w' => e = .returned (.bool true) ∧ Below W.heap.size W w')) (hfb1 : Hid (∀ W : World,Calls Tryd.prog 47 #[.agg #[.int .i64 E,.int .i64 F],.int .u64 b] W fun e w' => e = .returned (.bool true) ∧ Below W.heap.size W w')) (hva : Hid (∀ W : World,Tb W → Calls Tryd.prog 18 #[.agg #[.int .i64 E,.int .i64 F],.int .u64 a] W fun e w' => (∃ A N C,e = .returned (.tuple #[.agg #[.bool sa,.slice A N C,.int .i64 xa],.int .i64 0]) ∧ Num w' A N ma) ∧ Below W.heap.size W w')) (hvb : Hid (∀ W : World,Tb W → Calls Tryd.prog 18 #[.agg #[.int .i64 E,.int .i64 F],.int .u64 b] W fun e w' => (∃ A N C,e = .returned (.tuple #[.agg #[.bool sb,.slice A N C,.int .i64 xb],.int .i64 0]) ∧ Num w' A N mb) ∧ Below W.heap.size W w')) (hbi : Hid (∀ (W : World) (A : Option Addr) (N C : Nat),Num W A N ma → Calls Tryd.prog 39 #[.agg #[.int .i64 E,.int .i64 F],.agg #[.bool sa,.slice A N C,.int .i64 xa]] W fun e w' => e = .returned (.tuple #[.int .u64 bk,.bool true,.int .i64 0]) ∧ Below W.heap.size W w')) (hcm : Hid (∀ (W : World) (A : Option Addr) (N C : Nat) (A' : Option Addr) (N' C' : Nat),Num W A N ma → Num W A' N' mb → Calls Tryd.prog 17 #[.agg #[.bool sa,.slice A N C,.int .i64 xa],.agg #[.bool sb,.slice A' N' C',.int .i64 xb]] W fun e w' => e = .returned (.tuple #[.int .i64 c,.int .i64 0]) ∧ Below W.heap.size W w')) (hc0 : (c == 0) = false) (hab : ((a : Int) == (b : Int)) = false) (hba : ((bk : Int) != (a : Int)) = true) (hb0 : ((bk : Int) != 0) = false) (hna : Hid (∀ W : World,Calls Tryd.prog 48 #[.agg #[.int .i64 E,.int .i64 F],.int .u64 a] W fun e w' => e = .returned (.bool true) ∧ Below W.heap.size W w')) (hnb : Hid (∀ W : World,Calls Tryd.prog 48 #[.agg #[.int .i64 E,.int .i64 F],.int .u64 b] W fun e w' => e = .returned (.bool false) ∧ Below W.heap.size W w')) :
  Calls Tryd.prog 12 #[.agg #[.int .i64 E,.int .i64 F],.int .u64 a,.int .u64 b] w fun e w' => e = .returned (.bool true) ∧ Below w.heap.size w w' := by
 have HT := hide hT
 clear hT
 go_enter Tryd.func12,Tryd.ntmps12
 go_wp2_with fail
 refine (tdouble _).mono ?_
 rintro e w1 ⟨rfl,hb1⟩
 have hS := (Fs.one w _ _).kept hb1
 obtain ⟨⟨z1_0_0,z1_0_1,-⟩,-⟩ := hS.cells
 go_wp2_with fail
 refine (one_val _ ((unhide HT).kept hS.fr)).mono ?_
 rintro e w2 ⟨⟨g,off,C2,rfl,hg2,hc2⟩,hb2⟩
 replace hS := hS.kept hb2
 clear z1_0_0 z1_0_1
 obtain ⟨⟨z2_0_0,z2_0_1,-⟩,-⟩ := hS.cells
 have hltw2_0 : w.heap.size < w2.heap.size := block_lt (hS.bx ⟨w.heap.size,#[.int .i64 E,.int .i64 F],38⟩ (by simp))
 replace hS := hS.alloc #[.bool false,.slice (some ⟨g,off,none⟩) 1 C2,.int .i64 (-1)] 26
 go_wp2_with fail
 refine (unhide hfa1 _).mono ?_
 rintro e w3 ⟨rfl,hb3⟩
 replace hS := hS.kept hb3
 clear z2_0_0 z2_0_1
 obtain ⟨⟨z3_0_0,z3_0_1,z3_0_2,-⟩,⟨z3_1_0,z3_1_1,-⟩,-⟩ := hS.cells
 clear hg2 hc2
 go_wp2_with fail
 refine (unhide hfb1 _).mono ?_
 rintro e w4 ⟨rfl,hb4⟩
 replace hS := hS.kept hb4
 clear z3_0_0 z3_0_1 z3_0_2 z3_1_0 z3_1_1
 obtain ⟨⟨z4_0_0,z4_0_1,z4_0_2,-⟩,⟨z4_1_0,z4_1_1,-⟩,-⟩ := hS.cells
 go_wp2_with fail
 refine (unhide hva _ ((unhide HT).kept hS.fr)).mono ?_
 rintro e w5 ⟨⟨A5,N5,C5,rfl,g5⟩,hb5⟩
 replace hS := hS.kept hb5
 clear z4_0_0 z4_0_1 z4_0_2 z4_1_0 z4_1_1
 obtain ⟨⟨z5_0_0,z5_0_1,z5_0_2,-⟩,⟨z5_1_0,z5_1_1,-⟩,-⟩ := hS.cells
 have G5 := hide g5
 clear g5
 have hltw5_0 : w2.heap.size < w5.heap.size := block_lt (hS.bx ⟨w2.heap.size,#[.bool false,.slice (some ⟨g,off,none⟩) 1 C2,.int .i64 (-1)],26⟩ (by simp))
 have hltw5_1 : w.heap.size < w5.heap.size := block_lt (hS.bx ⟨w.heap.size,#[.int .i64 E,.int .i64 F],38⟩ (by simp))
 replace hS := hS.alloc #[.bool sa,.slice A5 N5 C5,.int .i64 xa] 26
 replace G5 := hide ((unhide G5).alloc (.cells #[.bool sa,.slice A5 N5 C5,.int .i64 xa] 26))
 go_wp2_with fail
 refine (unhide hvb _ ((unhide HT).kept hS.fr)).mono ?_
 rintro e w6 ⟨⟨A6,N6,C6,rfl,g6⟩,hb6⟩
 replace hS := hS.kept hb6
 clear z5_0_0 z5_0_1 z5_0_2 z5_1_0 z5_1_1
 obtain ⟨⟨z6_0_0,z6_0_1,z6_0_2,-⟩,⟨z6_1_0,z6_1_1,z6_1_2,-⟩,⟨z6_2_0,z6_2_1,-⟩,-⟩ := hS.cells
 replace G5 := hide ((unhide G5).kept hb6)
 have G6 := hide g6
 clear g6
 have hltw6_0 : w5.heap.size < w6.heap.size := block_lt (hS.bx ⟨w5.heap.size,#[.bool sa,.slice A5 N5 C5,.int .i64 xa],26⟩ (by simp))
 have hltw6_1 : w2.heap.size < w6.heap.size := block_lt (hS.bx ⟨w2.heap.size,#[.bool false,.slice (some ⟨g,off,none⟩) 1 C2,.int .i64 (-1)],26⟩ (by simp))
 have hltw6_2 : w.heap.size < w6.heap.size := block_lt (hS.bx ⟨w.heap.size,#[.int .i64 E,.int .i64 F],38⟩ (by simp))
 replace hS := hS.alloc #[.bool sb,.slice A6 N6 C6,.int .i64 xb] 26
 replace G5 := hide ((unhide G5).alloc (.cells #[.bool sb,.slice A6 N6 C6,.int .i64 xb] 26))
 replace G6 := hide ((unhide G6).alloc (.cells #[.bool sb,.slice A6 N6 C6,.int .i64 xb] 26))
 go_wp2_with fail
 refine (unhide hbi _ A5 N5 C5 (unhide G5)).mono ?_
 rintro e w7 ⟨rfl,hb7⟩
 replace hS := hS.kept hb7
 clear z6_0_0 z6_0_1 z6_0_2 z6_1_0 z6_1_1 z6_1_2 z6_2_0 z6_2_1
 obtain ⟨⟨z7_0_0,z7_0_1,z7_0_2,-⟩,⟨z7_1_0,z7_1_1,z7_1_2,-⟩,⟨z7_2_0,z7_2_1,z7_2_2,-⟩,⟨z7_3_0,z7_3_1,-⟩,-⟩ := hS.cells
 replace G5 := hide ((unhide G5).kept hb7)
 replace G6 := hide ((unhide G6).kept hb7)
 go_wp2_with fail
 refine (unhide hna _).mono ?_
 rintro e w8 ⟨rfl,hb8⟩
 replace hS := hS.kept hb8
 clear z7_0_0 z7_0_1 z7_0_2 z7_1_0 z7_1_1 z7_1_2 z7_2_0 z7_2_1 z7_2_2 z7_3_0 z7_3_1
 obtain ⟨⟨z8_0_0,z8_0_1,z8_0_2,-⟩,⟨z8_1_0,z8_1_1,z8_1_2,-⟩,⟨z8_2_0,z8_2_1,z8_2_2,-⟩,⟨z8_3_0,z8_3_1,-⟩,-⟩ := hS.cells
 replace G5 := hide ((unhide G5).kept hb8)
 replace G6 := hide ((unhide G6).kept hb8)
 go_wp2_with fail
 refine (unhide hcm _ A5 N5 C5 A6 N6 C6 (unhide G5) (unhide G6)).mono ?_
 rintro e w9 ⟨rfl,hb9⟩
 replace hS := hS.kept hb9
 clear z8_0_0 z8_0_1 z8_0_2 z8_1_0 z8_1_1 z8_1_2 z8_2_0 z8_2_1 z8_2_2 z8_3_0 z8_3_1
 obtain ⟨⟨z9_0_0,z9_0_1,z9_0_2,-⟩,⟨z9_1_0,z9_1_1,z9_1_2,-⟩,⟨z9_2_0,z9_2_1,z9_2_2,-⟩,⟨z9_3_0,z9_3_1,-⟩,-⟩ := hS.cells
 replace G5 := hide ((unhide G5).kept hb9)
 replace G6 := hide ((unhide G6).kept hb9)
 go_wp2_with fail
 refine (unhide hna _).mono ?_
 rintro e w10 ⟨rfl,hb10⟩
 replace hS := hS.kept hb10
 clear z9_0_0 z9_0_1 z9_0_2 z9_1_0 z9_1_1 z9_1_2 z9_2_0 z9_2_1 z9_2_2 z9_3_0 z9_3_1
 obtain ⟨⟨z10_0_0,z10_0_1,z10_0_2,-⟩,⟨z10_1_0,z10_1_1,z10_1_2,-⟩,⟨z10_2_0,z10_2_1,z10_2_2,-⟩,⟨z10_3_0,z10_3_1,-⟩,-⟩ := hS.cells
 replace G5 := hide ((unhide G5).kept hb10)
 replace G6 := hide ((unhide G6).kept hb10)
 go_wp2_with fail
 refine (unhide hnb _).mono ?_
 rintro e w11 ⟨rfl,hb11⟩
 replace hS := hS.kept hb11
 clear z10_0_0 z10_0_1 z10_0_2 z10_1_0 z10_1_1 z10_1_2 z10_2_0 z10_2_1 z10_2_2 z10_3_0 z10_3_1
 obtain ⟨⟨z11_0_0,z11_0_1,z11_0_2,-⟩,⟨z11_1_0,z11_1_1,z11_1_2,-⟩,⟨z11_2_0,z11_2_1,z11_2_2,-⟩,⟨z11_3_0,z11_3_1,-⟩,-⟩ := hS.cells
 replace G5 := hide ((unhide G5).kept hb11)
 replace G6 := hide ((unhide G6).kept hb11)
 go_wp2
 go_ret
 exact ⟨rfl,hS.fr⟩
set_option maxRecDepth 20000 in
set_option maxHeartbeats 4000000 in
theorem topW_zero_tt (E F : Int) (a b : Nat) (sa sb : Bool) (ma mb bk : Nat) (xa xb c : Int) (w : World) (hT : Tb w) (hfa1 : Hid (∀ W : World,Calls Tryd.prog 47 #[.agg #[.int .i64 E,.int .i64 F],.int .u64 a] W fun e w' => e = .returned (.bool true) ∧ Below W.heap.size W w')) (hfb1 : Hid (∀ W : World,Calls Tryd.prog 47 #[.agg #[.int .i64 E,.int .i64 F],.int .u64 b] W fun e w' => e = .returned (.bool true) ∧ Below W.heap.size W w')) (hva : Hid (∀ W : World,Tb W → Calls Tryd.prog 18 #[.agg #[.int .i64 E,.int .i64 F],.int .u64 a] W fun e w' => (∃ A N C,e = .returned (.tuple #[.agg #[.bool sa,.slice A N C,.int .i64 xa],.int .i64 0]) ∧ Num w' A N ma) ∧ Below W.heap.size W w')) (hvb : Hid (∀ W : World,Tb W → Calls Tryd.prog 18 #[.agg #[.int .i64 E,.int .i64 F],.int .u64 b] W fun e w' => (∃ A N C,e = .returned (.tuple #[.agg #[.bool sb,.slice A N C,.int .i64 xb],.int .i64 0]) ∧ Num w' A N mb) ∧ Below W.heap.size W w')) (hbi : Hid (∀ (W : World) (A : Option Addr) (N C : Nat),Num W A N ma → Calls Tryd.prog 39 #[.agg #[.int .i64 E,.int .i64 F],.agg #[.bool sa,.slice A N C,.int .i64 xa]] W fun e w' => e = .returned (.tuple #[.int .u64 bk,.bool true,.int .i64 0]) ∧ Below W.heap.size W w')) (hcm : Hid (∀ (W : World) (A : Option Addr) (N C : Nat) (A' : Option Addr) (N' C' : Nat),Num W A N ma → Num W A' N' mb → Calls Tryd.prog 17 #[.agg #[.bool sa,.slice A N C,.int .i64 xa],.agg #[.bool sb,.slice A' N' C',.int .i64 xb]] W fun e w' => e = .returned (.tuple #[.int .i64 c,.int .i64 0]) ∧ Below W.heap.size W w')) (hc0 : (c == 0) = true) (hab : ((a : Int) == (b : Int)) = false) (hba : ((bk : Int) != (a : Int)) = true) (hb0 : ((bk : Int) != 0) = false) (hna : Hid (∀ W : World,Calls Tryd.prog 48 #[.agg #[.int .i64 E,.int .i64 F],.int .u64 a] W fun e w' => e = .returned (.bool true) ∧ Below W.heap.size W w')) (hnb : Hid (∀ W : World,Calls Tryd.prog 48 #[.agg #[.int .i64 E,.int .i64 F],.int .u64 b] W fun e w' => e = .returned (.bool true) ∧ Below W.heap.size W w')) :
  Calls Tryd.prog 12 #[.agg #[.int .i64 E,.int .i64 F],.int .u64 a,.int .u64 b] w fun e w' => e = .returned (.bool true) ∧ Below w.heap.size w w' := by
 have HT := hide hT
 clear hT
 go_enter Tryd.func12,Tryd.ntmps12
 go_wp2_with fail
 refine (tdouble _).mono ?_
 rintro e w1 ⟨rfl,hb1⟩
 have hS := (Fs.one w _ _).kept hb1
 obtain ⟨⟨z1_0_0,z1_0_1,-⟩,-⟩ := hS.cells
 go_wp2_with fail
 refine (one_val _ ((unhide HT).kept hS.fr)).mono ?_
 rintro e w2 ⟨⟨g,off,C2,rfl,hg2,hc2⟩,hb2⟩
 replace hS := hS.kept hb2
 clear z1_0_0 z1_0_1
 obtain ⟨⟨z2_0_0,z2_0_1,-⟩,-⟩ := hS.cells
 have hltw2_0 : w.heap.size < w2.heap.size := block_lt (hS.bx ⟨w.heap.size,#[.int .i64 E,.int .i64 F],38⟩ (by simp))
 replace hS := hS.alloc #[.bool false,.slice (some ⟨g,off,none⟩) 1 C2,.int .i64 (-1)] 26
 go_wp2_with fail
 refine (unhide hfa1 _).mono ?_
 rintro e w3 ⟨rfl,hb3⟩
 replace hS := hS.kept hb3
 clear z2_0_0 z2_0_1
 obtain ⟨⟨z3_0_0,z3_0_1,z3_0_2,-⟩,⟨z3_1_0,z3_1_1,-⟩,-⟩ := hS.cells
 clear hg2 hc2
 go_wp2_with fail
 refine (unhide hfb1 _).mono ?_
 rintro e w4 ⟨rfl,hb4⟩
 replace hS := hS.kept hb4
 clear z3_0_0 z3_0_1 z3_0_2 z3_1_0 z3_1_1
 obtain ⟨⟨z4_0_0,z4_0_1,z4_0_2,-⟩,⟨z4_1_0,z4_1_1,-⟩,-⟩ := hS.cells
 go_wp2_with fail
 refine (unhide hva _ ((unhide HT).kept hS.fr)).mono ?_
 rintro e w5 ⟨⟨A5,N5,C5,rfl,g5⟩,hb5⟩
 replace hS := hS.kept hb5
 clear z4_0_0 z4_0_1 z4_0_2 z4_1_0 z4_1_1
 obtain ⟨⟨z5_0_0,z5_0_1,z5_0_2,-⟩,⟨z5_1_0,z5_1_1,-⟩,-⟩ := hS.cells
 have G5 := hide g5
 clear g5
 have hltw5_0 : w2.heap.size < w5.heap.size := block_lt (hS.bx ⟨w2.heap.size,#[.bool false,.slice (some ⟨g,off,none⟩) 1 C2,.int .i64 (-1)],26⟩ (by simp))
 have hltw5_1 : w.heap.size < w5.heap.size := block_lt (hS.bx ⟨w.heap.size,#[.int .i64 E,.int .i64 F],38⟩ (by simp))
 replace hS := hS.alloc #[.bool sa,.slice A5 N5 C5,.int .i64 xa] 26
 replace G5 := hide ((unhide G5).alloc (.cells #[.bool sa,.slice A5 N5 C5,.int .i64 xa] 26))
 go_wp2_with fail
 refine (unhide hvb _ ((unhide HT).kept hS.fr)).mono ?_
 rintro e w6 ⟨⟨A6,N6,C6,rfl,g6⟩,hb6⟩
 replace hS := hS.kept hb6
 clear z5_0_0 z5_0_1 z5_0_2 z5_1_0 z5_1_1
 obtain ⟨⟨z6_0_0,z6_0_1,z6_0_2,-⟩,⟨z6_1_0,z6_1_1,z6_1_2,-⟩,⟨z6_2_0,z6_2_1,-⟩,-⟩ := hS.cells
 replace G5 := hide ((unhide G5).kept hb6)
 have G6 := hide g6
 clear g6
 have hltw6_0 : w5.heap.size < w6.heap.size := block_lt (hS.bx ⟨w5.heap.size,#[.bool sa,.slice A5 N5 C5,.int .i64 xa],26⟩ (by simp))
 have hltw6_1 : w2.heap.size < w6.heap.size := block_lt (hS.bx ⟨w2.heap.size,#[.bool false,.slice (some ⟨g,off,none⟩) 1 C2,.int .i64 (-1)],26⟩ (by simp))
 have hltw6_2 : w.heap.size < w6.heap.size := block_lt (hS.bx ⟨w.heap.size,#[.int .i64 E,.int .i64 F],38⟩ (by simp))
 replace hS := hS.alloc #[.bool sb,.slice A6 N6 C6,.int .i64 xb] 26
 replace G5 := hide ((unhide G5).alloc (.cells #[.bool sb,.slice A6 N6 C6,.int .i64 xb] 26))
 replace G6 := hide ((unhide G6).alloc (.cells #[.bool sb,.slice A6 N6 C6,.int .i64 xb] 26))
 go_wp2_with fail
 refine (unhide hbi _ A5 N5 C5 (unhide G5)).mono ?_
 rintro e w7 ⟨rfl,hb7⟩
 replace hS := hS.kept hb7
 clear z6_0_0 z6_0_1 z6_0_2 z6_1_0 z6_1_1 z6_1_2 z6_2_0 z6_2_1
 obtain ⟨⟨z7_0_0,z7_0_1,z7_0_2,-⟩,⟨z7_1_0,z7_1_1,z7_1_2,-⟩,⟨z7_2_0,z7_2_1,z7_2_2,-⟩,⟨z7_3_0,z7_3_1,-⟩,-⟩ := hS.cells
 replace G5 := hide ((unhide G5).kept hb7)
 replace G6 := hide ((unhide G6).kept hb7)
 go_wp2_with fail
 refine (unhide hna _).mono ?_
 rintro e w8 ⟨rfl,hb8⟩
 replace hS := hS.kept hb8
 clear z7_0_0 z7_0_1 z7_0_2 z7_1_0 z7_1_1 z7_1_2 z7_2_0 z7_2_1 z7_2_2 z7_3_0 z7_3_1
 obtain ⟨⟨z8_0_0,z8_0_1,z8_0_2,-⟩,⟨z8_1_0,z8_1_1,z8_1_2,-⟩,⟨z8_2_0,z8_2_1,z8_2_2,-⟩,⟨z8_3_0,z8_3_1,-⟩,-⟩ := hS.cells
 replace G5 := hide ((unhide G5).kept hb8)
 replace G6 := hide ((unhide G6).kept hb8)
 go_wp2_with fail
 refine (unhide hcm _ A5 N5 C5 A6 N6 C6 (unhide G5) (unhide G6)).mono ?_
 rintro e w9 ⟨rfl,hb9⟩
 replace hS := hS.kept hb9
 clear z8_0_0 z8_0_1 z8_0_2 z8_1_0 z8_1_1 z8_1_2 z8_2_0 z8_2_1 z8_2_2 z8_3_0 z8_3_1
 obtain ⟨⟨z9_0_0,z9_0_1,z9_0_2,-⟩,⟨z9_1_0,z9_1_1,z9_1_2,-⟩,⟨z9_2_0,z9_2_1,z9_2_2,-⟩,⟨z9_3_0,z9_3_1,-⟩,-⟩ := hS.cells
 replace G5 := hide ((unhide G5).kept hb9)
 replace G6 := hide ((unhide G6).kept hb9)
 go_wp2_with fail
 refine (unhide hna _).mono ?_
 rintro e w10 ⟨rfl,hb10⟩
 replace hS := hS.kept hb10
 clear z9_0_0 z9_0_1 z9_0_2 z9_1_0 z9_1_1 z9_1_2 z9_2_0 z9_2_1 z9_2_2 z9_3_0 z9_3_1
 obtain ⟨⟨z10_0_0,z10_0_1,z10_0_2,-⟩,⟨z10_1_0,z10_1_1,z10_1_2,-⟩,⟨z10_2_0,z10_2_1,z10_2_2,-⟩,⟨z10_3_0,z10_3_1,-⟩,-⟩ := hS.cells
 replace G5 := hide ((unhide G5).kept hb10)
 replace G6 := hide ((unhide G6).kept hb10)
 go_wp2_with fail
 refine (unhide hnb _).mono ?_
 rintro e w11 ⟨rfl,hb11⟩
 replace hS := hS.kept hb11
 clear z10_0_0 z10_0_1 z10_0_2 z10_1_0 z10_1_1 z10_1_2 z10_2_0 z10_2_1 z10_2_2 z10_3_0 z10_3_1
 obtain ⟨⟨z11_0_0,z11_0_1,z11_0_2,-⟩,⟨z11_1_0,z11_1_1,z11_1_2,-⟩,⟨z11_2_0,z11_2_1,z11_2_2,-⟩,⟨z11_3_0,z11_3_1,-⟩,-⟩ := hS.cells
 replace G5 := hide ((unhide G5).kept hb11)
 replace G6 := hide ((unhide G6).kept hb11)
 go_wp2
 go_ret
 exact ⟨rfl,hS.fr⟩
end Go.Proofs.YtjemjhaphannaaaDoor
namespace Go.Proofs.YtjemjhaphannaaaDoor
open Go.RowKit
theorem fo_cases5 (E F : Int) : NoFo E F ∨ ∃ e f : Nat,E = (e : Int) ∧ F = (f : Int) ∧ Fo e f := by
 by_cases h : NoFo E F
 ·exact Or.inl h
 ·refine Or.inr ⟨E.toNat,F.toNat,?_⟩
  unfold NoFo at h
  exact ⟨by omega,by omega,⟨by omega,by omega,by omega,by omega⟩⟩
structure Fin (E F B b : Nat) (s : Bool) (ex fr : Nat) (s0 : Bool) (m bk : Nat) (x : Int) : Prop where
 bt : Bt E F b s ex fr
 val : ∀ W : World,Tb W → Calls Tryd.prog 18 #[.agg #[.int .i64 (E : Int),.int .i64 (F : Int)],.int .u64 b] W fun e w' => (∃ A N C,e = .returned (.tuple #[.agg #[.bool s0,.slice A N C,.int .i64 x],.int .i64 0]) ∧ Num w' A N m) ∧ Below W.heap.size W w'
 back : ∀ (W : World) (A : Option Addr) (N C : Nat),Num W A N m → Calls Tryd.prog 39 #[.agg #[.int .i64 (E : Int),.int .i64 (F : Int)],.agg #[.bool s0,.slice A N C,.int .i64 x]] W fun e w' => e = .returned (.tuple #[.int .u64 bk,.bool true,.int .i64 0]) ∧ Below W.heap.size W w'
 kind : (ex = 0 ∧ fr = 0 ∧ m = 0 ∧ s0 = false ∧ x = 0 ∧ bk = 0) ∨ (¬ (ex = 0 ∧ fr = 0) ∧ ∃ M z xe,Wo E F B ex fr M z xe ∧ m = M / 2 ^ z ∧ x = xe + (z : Int) ∧ s0 = s ∧ bk = b)
 ok : (m = 0 ∧ s0 = false ∧ x = 0) ∨ (m % 2 = 1 ∧ -1073741824 ≤ x ∧ x ≤ 1073741824)
theorem Fin.ex {E F B b ex fr : Nat} {s : Bool} (h0 : Fo E F) (HB : Hid (B = 2 ^ (E - 1) - 1)) (hB : Bt E F b s ex fr) (hfin : ex + 1 < 2 ^ E) : ∃ s0 m bk x,Fin E F B b s ex fr s0 m bk x := by
 by_cases hz : ex = 0 ∧ fr = 0
 ·obtain ⟨rfl,rfl⟩ := hz
  refine ⟨false,0,0,0,hB,fun W _ => ?_,fun W A N C h => ?_,Or.inl ⟨rfl,rfl,rfl,rfl,rfl,rfl⟩,Or.inl ⟨rfl,rfl,rfl⟩⟩
  ·refine (Value_zero E F B b s W h0 HB hB).mono ?_
   rintro e w' ⟨rfl,hb⟩
   exact ⟨⟨none,0,0,rfl,[],rfl,Or.inl rfl,Pl.wf_nil,Pl.norm_nil,rfl,by omega⟩,hb⟩
  ·obtain rfl := h.zero.2 rfl
   exact Bits_nought E F B h0 HB A C W h
 ·obtain ⟨M,z,xe,hW⟩ := Wo.ex (B := B) hfin hB.fr_lt hz
  have hr := hW.range h0 HB
  have hzl := hW.zle
  have hF := h0.f52
  refine ⟨s,M / 2 ^ z,b,xe + (z : Int),hB,fun W hT => ?_,fun W A N C h => Bits_wo E F B b ex fr s M z xe A N C W h0 HB hB hW h,Or.inr ⟨hz,M,z,xe,hW,rfl,rfl,rfl,rfl⟩,Or.inr ⟨hW.odd.1,by omega,by omega⟩⟩
  refine (Value_wo E F B b ex fr s M z xe W h0 HB hB hW hT).mono ?_
  rintro e w' ⟨⟨A,N,C,rfl,hm⟩,hb⟩
  exact ⟨⟨A,N,C,rfl,hm.num⟩,hb⟩
theorem Fin.same {E F B a sa exa fra s0 ma bka xa b sb exb frb s1 mb bkb xb} (h : Fin E F B a sa exa fra s0 ma bka xa) (h' : Fin E F B b sb exb frb s1 mb bkb xb) {t : Int} {j j' : Nat} (hj : xa - t = (j : Int)) (hj' : xb - t = (j' : Int)) :
  cmp3 (sv s0 (ma * 2 ^ j)) (sv s1 (mb * 2 ^ j')) = 0 ↔ (a = b ∨ ((exa = 0 ∧ fra = 0) ∧ (exb = 0 ∧ frb = 0))) := by
 rw [cmp3_zero]
 have hpos : ∀ (s : Bool) (m j : Nat),m % 2 = 1 → sv s (m * 2 ^ j) ≠ 0 := fun s m j hm => by
  have hp : 0 < m * 2 ^ j := Nat.mul_pos (by omega) (pow_pos2 j)
  generalize m * 2 ^ j = v at hp ⊢
  unfold sv; cases s <;> simp <;> omega
 rcases h.kind with ⟨z1,z2,rfl,rfl,rfl,_⟩ | ⟨z1,M,z,xe,hW,rfl,rfl,rfl,_⟩ <;> rcases h'.kind with ⟨y1,y2,rfl,rfl,rfl,_⟩ | ⟨y1,M',z',xe',hW',rfl,rfl,rfl,_⟩
 ·constructor
  ·intro _; exact Or.inr ⟨⟨z1,z2⟩,y1,y2⟩
  ·intro _; simp [sv]
 ·constructor
  ·intro he
   rw [Nat.zero_mul] at he
   exact absurd (he.symm.trans (by simp [sv])) (hpos _ _ j' hW'.odd.1)
  ·rintro (rfl | ⟨_,hy⟩)
   ·exfalso
    have e1 := h.bt.exp.symm.trans h'.bt.exp
    have e2 := h.bt.frac.symm.trans h'.bt.frac
    exact y1 ⟨by omega,by omega⟩
   ·exact absurd hy y1
 ·constructor
  ·intro he
   rw [Nat.zero_mul] at he
   exact absurd (he.trans (by simp [sv])) (hpos _ _ j hW.odd.1)
  ·rintro (rfl | ⟨hy,_⟩)
   ·exfalso
    have e1 := h.bt.exp.symm.trans h'.bt.exp
    have e2 := h.bt.frac.symm.trans h'.bt.frac
    exact z1 ⟨by omega,by omega⟩
   ·exact absurd hy z1
 ·constructor
  ·intro he
   obtain ⟨e1,e2,e3⟩ := sv_same hW.odd.1 hW'.odd.1 he
   obtain ⟨e4,e5⟩ := hW.inj hW' e2 (by omega)
   left
   rw [h.bt.eq,h'.bt.eq,e1,e4,e5]
  ·rintro (rfl | ⟨hy,_⟩)
   ·have e1 : exa = exb := h.bt.exp.symm.trans h'.bt.exp
    have e2 : fra = frb := h.bt.frac.symm.trans h'.bt.frac
    have e3 := h.bt.sign.symm.trans h'.bt.sign
    subst e1; subst e2
    have hs : s0 = s1 := by cases s0 <;> cases s1 <;> simp at e3 <;> rfl
    have hxe : xe = xe' ∧ M = M' := by
     have f1 := hW.frl
     rcases hW.part with ⟨a1,a2,_,a3⟩ | ⟨a1,a2,a3⟩ <;> rcases hW'.part with ⟨b1,b2,_,b3⟩ | ⟨b1,b2,b3⟩ <;> omega
    obtain ⟨rfl,rfl⟩ := hxe
    obtain rfl := hW.tz.uniq hW'.tz
    obtain rfl : j = j' := by omega
    rw [hs]
   ·exact absurd hy z1
theorem finite_cases (E F b : Nat) (h0 : Fo E F) (hb : b < 18446744073709551616) :
  (∀ W : World,Calls Tryd.prog 47 #[.agg #[.int .i64 (E : Int),.int .i64 (F : Int)],.int .u64 b] W fun e w' => e = .returned (.bool false) ∧ Below W.heap.size W w') ∨
  ∃ s ex fr,Bt E F b s ex fr ∧ ex + 1 < 2 ^ E ∧ ∀ W : World,Calls Tryd.prog 47 #[.agg #[.int .i64 (E : Int),.int .i64 (F : Int)],.int .u64 b] W fun e w' => e = .returned (.bool true) ∧ Below W.heap.size W w' := by
 by_cases hm : 2 ^ (F + E + 1) ≤ b
 ·exact Or.inl fun W => tfinite_many E F b h0 hm hb W
 ·have hB := Bt.of E F b (by omega)
  generalize decide (b / 2 ^ (F + E) = 1) = s at hB
  generalize b % 2 ^ (F + E) / 2 ^ F = ex at hB
  generalize b % 2 ^ F = fr at hB
  have hex := hB.ex_lt
  by_cases hf : ex + 1 < 2 ^ E
  ·refine Or.inr ⟨s,ex,fr,hB,hf,fun W => tfinite_yes E F b ex fr s h0 hB _ rfl ?_ W⟩
   unfold cls
   split
   ·omega
   ·split
    ·omega
    ·rw [if_pos (by omega)]; omega
  ·refine Or.inl fun W => tfinite_no E F b ex fr s h0 hB _ rfl ?_ W
   have h2 := (pow_bound h0.e2 : 2 ^ 2 ≤ 2 ^ E)
   unfold cls
   rw [if_neg (by omega),if_neg (by omega),if_neg (by omega)]
   split <;> omega
theorem topWorth_any (E F : Int) (a b : Nat) (w : World) (ha : a < 18446744073709551616) (hb : b < 18446744073709551616) (hT : Tb w) :
  Calls Tryd.prog 12 #[.agg #[.int .i64 E,.int .i64 F],.int .u64 a,.int .u64 b] w fun e w' => e = .returned (.bool true) ∧ Below w.heap.size w w' := by
 rcases fo_cases5 E F with hbad | ⟨E,F,rfl,rfl,h0⟩
 ·exact topW_a E F a b w hT (hide fun W => tfinite_bad E F hbad a W)
 obtain ⟨B,HB⟩ : ∃ B,Hid (B = 2 ^ (E - 1) - 1) := ⟨_,hide rfl⟩
 rcases finite_cases E F a h0 ha with hfa | ⟨sa,exa,fra,hBa,hexa,hfa⟩
 ·exact topW_a E F a b w hT (hide hfa)
 rcases finite_cases E F b h0 hb with hfb | ⟨sb,exb,frb,hBb,hexb,hfb⟩
 ·exact topW_b E F a b w hT (hide hfa) (hide hfb)
 obtain ⟨s0,ma,bk,xa,hA⟩ := Fin.ex h0 HB hBa hexa
 obtain ⟨s1,mb,bkb,xb,hC⟩ := Fin.ex h0 HB hBb hexb
 obtain ⟨t,ht⟩ : ∃ t,t = min xa xb := ⟨_,rfl⟩
 obtain ⟨j,hj⟩ : ∃ j : Nat,xa - t = (j : Int) := ⟨(xa - t).toNat,by omega⟩
 obtain ⟨j',hj'⟩ : ∃ j' : Nat,xb - t = (j' : Int) := ⟨(xb - t).toNat,by omega⟩
 have hsame := hA.same hC hj hj'
 have hcm : Hid (∀ (W : World) (A : Option Addr) (N C : Nat) (A' : Option Addr) (N' C' : Nat),Num W A N ma → Num W A' N' mb → Calls Tryd.prog 17 #[.agg #[.bool s0,.slice A N C,.int .i64 xa],.agg #[.bool s1,.slice A' N' C',.int .i64 xb]] W fun e w' => e = .returned (.tuple #[.int .i64 (cmp3 (sv s0 (ma * 2 ^ j)) (sv s1 (mb * 2 ^ j'))),.int .i64 0]) ∧ Below W.heap.size W w') :=
  hide fun W A N C A' N' C' g g' => Cmp_any s0 A N C ma xa s1 A' N' C' mb xb t j j' W ⟨g,hA.ok⟩ ⟨g',hC.ok⟩ hj hj'
 generalize cmp3 (sv s0 (ma * 2 ^ j)) (sv s1 (mb * 2 ^ j')) = c at hsame hcm
 have hna : ∀ z,z = decide (exa = 0 ∧ fra = 0) → Hid (∀ W : World,Calls Tryd.prog 48 #[.agg #[.int .i64 (E : Int),.int .i64 (F : Int)],.int .u64 a] W fun e w' => e = .returned (.bool z) ∧ Below W.heap.size W w') := fun z hz => hide fun W => tnought_any E F a exa fra sa h0 hBa z hz W
 have hnb : ∀ z,z = decide (exb = 0 ∧ frb = 0) → Hid (∀ W : World,Calls Tryd.prog 48 #[.agg #[.int .i64 (E : Int),.int .i64 (F : Int)],.int .u64 b] W fun e w' => e = .returned (.bool z) ∧ Below W.heap.size W w') := fun z hz => hide fun W => tnought_any E F b exb frb sb h0 hBb z hz W
 have hbk : bk = a ∨ (bk ≠ a ∧ bk = 0 ∧ (exa = 0 ∧ fra = 0)) := by
  rcases hA.kind with ⟨z1,z2,_,_,_,z3⟩ | ⟨_,M,z,xe,_,_,_,_,z3⟩
  ·by_cases h : bk = a
   ·exact Or.inl h
   ·exact Or.inr ⟨h,z3,z1,z2⟩
  ·exact Or.inl z3
 by_cases hab : a = b
 ·have hc : (c == 0) = true := by simpa using hsame.2 (Or.inl hab)
  have hab2 : ((a : Int) == (b : Int)) = true := by simp [hab]
  rcases hbk with hk | ⟨hk,hk0,hz⟩
  ·exact topW_same_eq E F a b s0 s1 ma mb bk xa xb c w hT (hide hfa) (hide hfb) (hide hA.val) (hide hC.val) (hide hA.back) hcm hc hab2 (by simp [hk])
  ·exact topW_zero_eq E F a b s0 s1 ma mb bk xa xb c w hT (hide hfa) (hide hfb) (hide hA.val) (hide hC.val) (hide hA.back) hcm hc hab2 (by simp; omega) (by simp [hk0]) (hna true (by simp [hz]))
 ·have hab2 : ((a : Int) == (b : Int)) = false := by simp; omega
  by_cases hza : exa = 0 ∧ fra = 0
  ·by_cases hzb : exb = 0 ∧ frb = 0
   ·have hc : (c == 0) = true := by simpa using hsame.2 (Or.inr ⟨hza,hzb⟩)
    rcases hbk with hk | ⟨hk,hk0,hz⟩
    ·exact topW_same_tt E F a b s0 s1 ma mb bk xa xb c w hT (hide hfa) (hide hfb) (hide hA.val) (hide hC.val) (hide hA.back) hcm hc hab2 (by simp [hk]) (hna true (by simp [hza])) (hnb true (by simp [hzb]))
    ·exact topW_zero_tt E F a b s0 s1 ma mb bk xa xb c w hT (hide hfa) (hide hfb) (hide hA.val) (hide hC.val) (hide hA.back) hcm hc hab2 (by simp; omega) (by simp [hk0]) (hna true (by simp [hza])) (hnb true (by simp [hzb]))
   ·have hc : (c == 0) = false := by
     simp only [beq_eq_false_iff_ne]
     intro h
     rcases hsame.1 h with h | ⟨_,h⟩
     ·exact hab h
     ·exact hzb h
    rcases hbk with hk | ⟨hk,hk0,hz⟩
    ·exact topW_same_tf E F a b s0 s1 ma mb bk xa xb c w hT (hide hfa) (hide hfb) (hide hA.val) (hide hC.val) (hide hA.back) hcm hc hab2 (by simp [hk]) (hna true (by simp [hza])) (hnb false (by simp [hzb]))
    ·exact topW_zero_tf E F a b s0 s1 ma mb bk xa xb c w hT (hide hfa) (hide hfb) (hide hA.val) (hide hC.val) (hide hA.back) hcm hc hab2 (by simp; omega) (by simp [hk0]) (hna true (by simp [hza])) (hnb false (by simp [hzb]))
  ·have hc : (c == 0) = false := by
    simp only [beq_eq_false_iff_ne]
    intro h
    rcases hsame.1 h with h | ⟨h,_⟩
    ·exact hab h
    ·exact hza h
   rcases hbk with hk | ⟨_,_,hz⟩
   ·exact topW_same_f E F a b s0 s1 ma mb bk xa xb c w hT (hide hfa) (hide hfb) (hide hA.val) (hide hC.val) (hide hA.back) hcm hc hab2 (by simp [hk]) (hna false (by simp [hza]))
   ·exact absurd hz hza
end Go.Proofs.YtjemjhaphannaaaDoor
