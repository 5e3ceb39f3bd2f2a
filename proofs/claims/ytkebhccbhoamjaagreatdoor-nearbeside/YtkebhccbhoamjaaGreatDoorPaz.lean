/- Of what NearBesideRow stands on: NrRef Pick NrList NrEq NrBeside NrRows. -/
import Derived.Test.YtkebhccbhoamjaaGreatDoorPaf
import Derived.Test.YtkebhccbhoamjaaGreatDoorPab
import Derived.ChangeKeysEq
namespace Go.Proofs.YtkebhccbhoamjaaGreatDoor
open Go.RowKit
set_option maxHeartbeats 400000 in
theorem rhalf6 (E F S : Nat) (h : Fo E F) (HS : Hid (S = 2 ^ (F + E))) (w : World)  :
  Calls Tryz.prog 50 #[.agg #[.int .i64 E,.int .i64 F]] w fun e w' => e = .returned (.int .u64 (S : Int)) ∧ Below w.heap.size w w' := by
 have h63 := h.sum
 have ek : (E : Int) + (F : Int) = ((F + E : Nat) : Int) := by omega
 go_enter Tryz.func50,Tryz.ntmps50
 go_wp2_with fail
 refine (rpow_any (F + E) S _ h63 HS).mono ?_
 rintro e w1 ⟨rfl,hb1⟩
 have hS := (Fs.one w _ _).kept hb1
 obtain ⟨⟨z1_0_0,z1_0_1,-⟩,-⟩ := hS.cells
 go_wp2
 go_ret
 exact ⟨rfl,hS.fr⟩
set_option maxHeartbeats 400000 in
theorem rclass6 (E F b c : Int) (HC : Tel 108 #[.agg #[.int .i64 E,.int .i64 F],.int .u64 b] (.tuple #[.int .u8 c,.int .i64 0])) (w : World)  :
  Calls Tryz.prog 48 #[.agg #[.int .i64 E,.int .i64 F],.int .u64 b] w fun e w' => e = .returned (.int .u8 c) ∧ Below w.heap.size w w' := by
 go_enter Tryz.func48,Tryz.ntmps48
 go_wp2_with fail
 refine (HC _).mono ?_
 rintro e w1 ⟨rfl,hb1⟩
 have hS := (Fs.one w _ _).kept hb1
 obtain ⟨⟨z1_0_0,z1_0_1,-⟩,-⟩ := hS.cells
 go_wp2
 go_ret
 exact ⟨rfl,hS.fr⟩
set_option maxHeartbeats 400000 in
theorem rfin_yes (E F b c : Int) (hc : c ≤ 3) (HC : Tel 108 #[.agg #[.int .i64 E,.int .i64 F],.int .u64 b] (.tuple #[.int .u8 c,.int .i64 0])) (w : World)  :
  Calls Tryz.prog 56 #[.agg #[.int .i64 E,.int .i64 F],.int .u64 b] w fun e w' => e = .returned (.bool true) ∧ Below w.heap.size w w' := by
 go_enter Tryz.func56,Tryz.ntmps56
 go_wp2_with fail
 refine (HC _).mono ?_
 rintro e w1 ⟨rfl,hb1⟩
 have hS := (Fs.one w _ _).kept hb1
 obtain ⟨⟨z1_0_0,z1_0_1,-⟩,-⟩ := hS.cells
 go_wp2
 go_ret
 exact ⟨rfl,hS.fr⟩
set_option maxHeartbeats 400000 in
theorem rfin_no (E F b c : Int) (hc : ¬ c ≤ 3) (HC : Tel 108 #[.agg #[.int .i64 E,.int .i64 F],.int .u64 b] (.tuple #[.int .u8 c,.int .i64 0])) (w : World)  :
  Calls Tryz.prog 56 #[.agg #[.int .i64 E,.int .i64 F],.int .u64 b] w fun e w' => e = .returned (.bool false) ∧ Below w.heap.size w w' := by
 go_enter Tryz.func56,Tryz.ntmps56
 go_wp2_with fail
 refine (HC _).mono ?_
 rintro e w1 ⟨rfl,hb1⟩
 have hS := (Fs.one w _ _).kept hb1
 obtain ⟨⟨z1_0_0,z1_0_1,-⟩,-⟩ := hS.cells
 go_wp2
 go_ret
 exact ⟨by show Ending.returned (.bool (decide (c ≤ 3))) = _; rw [decide_eq_false (show ¬ c ≤ 3 by omega)],hS.fr⟩
set_option maxRecDepth 20000 in
set_option maxHeartbeats 400000 in
theorem rplace_lo (E F : Int) (S b r : Nat) (hS : 0 < S) (hr : b % S = r) (hb : b < S) (HH : Tel 50 #[.agg #[.int .i64 E,.int .i64 F]] (.int .u64 (S : Int)))  (w : World)  :
  Calls Tryz.prog 49 #[.agg #[.int .i64 E,.int .i64 F],.int .u64 (b : Int)] w fun e w' => e = .returned (.tuple #[.bool false,.int .u64 (r : Int)]) ∧ Below w.heap.size w w' := by
 have e1 : ((S : Int) == 0) = false := by simp; omega
 have e2 : Int.tmod (b : Int) (S : Int) = (r : Int) := by rw [← hr]; rfl
 have e0 : ¬ (S : Int) ≤ (b : Int) := by omega
 go_enter Tryz.func49,Tryz.ntmps49
 go_wp2_with fail
 refine (HH _).mono ?_
 rintro e w1 ⟨rfl,hb1⟩
 have hS := (Fs.one w _ _).kept hb1
 obtain ⟨⟨z1_0_0,z1_0_1,-⟩,-⟩ := hS.cells
 go_wp2_with fail
 refine (HH _).mono ?_
 rintro e w2 ⟨rfl,hb2⟩
 replace hS := hS.kept hb2
 clear z1_0_0 z1_0_1
 obtain ⟨⟨z2_0_0,z2_0_1,-⟩,-⟩ := hS.cells
 go_wp2
 go_ret2
 exact ⟨rfl,hS.fr⟩
set_option maxRecDepth 20000 in
set_option maxHeartbeats 400000 in
theorem rplace_hi (E F : Int) (S b r : Nat) (hS : 0 < S) (hr : b % S = r) (hb : S ≤ b) (h0 : 0 < r) (HH : Tel 50 #[.agg #[.int .i64 E,.int .i64 F]] (.int .u64 (S : Int)))  (w : World)  :
  Calls Tryz.prog 49 #[.agg #[.int .i64 E,.int .i64 F],.int .u64 (b : Int)] w fun e w' => e = .returned (.tuple #[.bool true,.int .u64 (r : Int)]) ∧ Below w.heap.size w w' := by
 have e1 : ((S : Int) == 0) = false := by simp; omega
 have e2 : Int.tmod (b : Int) (S : Int) = (r : Int) := by rw [← hr]; rfl
 have e0 : (S : Int) ≤ (b : Int) := by omega
 have e4 : (0 : Int) < (r : Int) := by omega
 go_enter Tryz.func49,Tryz.ntmps49
 go_wp2_with fail
 refine (HH _).mono ?_
 rintro e w1 ⟨rfl,hb1⟩
 have hS := (Fs.one w _ _).kept hb1
 obtain ⟨⟨z1_0_0,z1_0_1,-⟩,-⟩ := hS.cells
 go_wp2_with fail
 refine (HH _).mono ?_
 rintro e w2 ⟨rfl,hb2⟩
 replace hS := hS.kept hb2
 clear z1_0_0 z1_0_1
 obtain ⟨⟨z2_0_0,z2_0_1,-⟩,-⟩ := hS.cells
 go_wp2
 go_ret2
 exact ⟨rfl,hS.fr⟩
set_option maxRecDepth 20000 in
set_option maxHeartbeats 400000 in
theorem rplace_no (E F : Int) (S b r : Nat) (hS : 0 < S) (hr : b % S = r) (hb : S ≤ b) (h0 : r = 0) (HH : Tel 50 #[.agg #[.int .i64 E,.int .i64 F]] (.int .u64 (S : Int)))  (w : World)  :
  Calls Tryz.prog 49 #[.agg #[.int .i64 E,.int .i64 F],.int .u64 (b : Int)] w fun e w' => e = .returned (.tuple #[.bool false,.int .u64 0]) ∧ Below w.heap.size w w' := by
 have e1 : ((S : Int) == 0) = false := by simp; omega
 have e2 : Int.tmod (b : Int) (S : Int) = (r : Int) := by rw [← hr]; rfl
 have e0 : (S : Int) ≤ (b : Int) := by omega
 subst h0
 go_enter Tryz.func49,Tryz.ntmps49
 go_wp2_with fail
 refine (HH _).mono ?_
 rintro e w1 ⟨rfl,hb1⟩
 have hS := (Fs.one w _ _).kept hb1
 obtain ⟨⟨z1_0_0,z1_0_1,-⟩,-⟩ := hS.cells
 go_wp2_with fail
 refine (HH _).mono ?_
 rintro e w2 ⟨rfl,hb2⟩
 replace hS := hS.kept hb2
 clear z1_0_0 z1_0_1
 obtain ⟨⟨z2_0_0,z2_0_1,-⟩,-⟩ := hS.cells
 go_wp2
 go_ret2
 exact ⟨rfl,hS.fr⟩
set_option maxHeartbeats 400000 in
theorem higher_err (E F b c : Int) (hc : (c == (0 : Int)) = false) (H0 : Tel 47 #[.agg #[.int .i64 E,.int .i64 F],.int .u64 b] (.int .i64 c))  (w : World)  :
  Calls Tryz.prog 11 #[.agg #[.int .i64 E,.int .i64 F],.int .u64 b] w fun e w' => e = .returned (.tuple #[.int .u64 0,.int .i64 c]) ∧ Below w.heap.size w w' := by
 go_enter Tryz.func11,Tryz.ntmps11
 go_wp2_with fail
 refine (H0 _).mono ?_
 rintro e w1 ⟨rfl,hb1⟩
 have hS := (Fs.one w _ _).kept hb1
 obtain ⟨⟨z1_0_0,z1_0_1,-⟩,-⟩ := hS.cells
 go_wp2
 go_ret2
 exact ⟨rfl,hS.fr⟩
set_option maxHeartbeats 400000 in
theorem higher_nan (E F b : Int) (H0 : Tel 47 #[.agg #[.int .i64 E,.int .i64 F],.int .u64 b] (.int .i64 0)) (HK : Tel 48 #[.agg #[.int .i64 E,.int .i64 F],.int .u64 b] (.int .u8 5))  (w : World)  :
  Calls Tryz.prog 11 #[.agg #[.int .i64 E,.int .i64 F],.int .u64 b] w fun e w' => e = .returned (.tuple #[.int .u64 0,.int .i64 2]) ∧ Below w.heap.size w w' := by
 go_enter Tryz.func11,Tryz.ntmps11
 go_wp2_with fail
 refine (H0 _).mono ?_
 rintro e w1 ⟨rfl,hb1⟩
 have hS := (Fs.one w _ _).kept hb1
 obtain ⟨⟨z1_0_0,z1_0_1,-⟩,-⟩ := hS.cells
 go_wp2_with fail
 refine (HK _).mono ?_
 rintro e w2 ⟨rfl,hb2⟩
 replace hS := hS.kept hb2
 clear z1_0_0 z1_0_1
 obtain ⟨⟨z2_0_0,z2_0_1,-⟩,-⟩ := hS.cells
 go_wp2
 go_ret2
 exact ⟨rfl,hS.fr⟩
set_option maxHeartbeats 400000 in
theorem higher_neg (E F b n S v : Int) (c : Int) (hc : (c == (5 : Int)) = false) (H0 : Tel 47 #[.agg #[.int .i64 E,.int .i64 F],.int .u64 b] (.int .i64 0)) (HK : Tel 48 #[.agg #[.int .i64 E,.int .i64 F],.int .u64 b] (.int .u8 c)) (HP : Tel 49 #[.agg #[.int .i64 E,.int .i64 F],.int .u64 b] (.tuple #[.bool true,.int .u64 n])) (HH : Tel 50 #[.agg #[.int .i64 E,.int .i64 F]] (.int .u64 S)) (hv : IntKind.u64.wrap (IntKind.u64.wrap (S + n) - 1) = v) (w : World)  :
  Calls Tryz.prog 11 #[.agg #[.int .i64 E,.int .i64 F],.int .u64 b] w fun e w' => e = .returned (.tuple #[.int .u64 v,.int .i64 0]) ∧ Below w.heap.size w w' := by
 go_enter Tryz.func11,Tryz.ntmps11
 go_wp2_with fail
 refine (H0 _).mono ?_
 rintro e w1 ⟨rfl,hb1⟩
 have hS := (Fs.one w _ _).kept hb1
 obtain ⟨⟨z1_0_0,z1_0_1,-⟩,-⟩ := hS.cells
 go_wp2_with fail
 refine (HK _).mono ?_
 rintro e w2 ⟨rfl,hb2⟩
 replace hS := hS.kept hb2
 clear z1_0_0 z1_0_1
 obtain ⟨⟨z2_0_0,z2_0_1,-⟩,-⟩ := hS.cells
 go_wp2_with fail
 refine (HP _).mono ?_
 rintro e w3 ⟨rfl,hb3⟩
 replace hS := hS.kept hb3
 clear z2_0_0 z2_0_1
 obtain ⟨⟨z3_0_0,z3_0_1,-⟩,-⟩ := hS.cells
 go_wp2_with fail
 refine (HH _).mono ?_
 rintro e w4 ⟨rfl,hb4⟩
 replace hS := hS.kept hb4
 clear z3_0_0 z3_0_1
 obtain ⟨⟨z4_0_0,z4_0_1,-⟩,-⟩ := hS.cells
 go_wp2
 go_ret2
 exact ⟨rfl,hS.fr⟩
set_option maxHeartbeats 400000 in
theorem higher_end (E F b n : Int) (H0 : Tel 47 #[.agg #[.int .i64 E,.int .i64 F],.int .u64 b] (.int .i64 0)) (HK : Tel 48 #[.agg #[.int .i64 E,.int .i64 F],.int .u64 b] (.int .u8 4)) (HP : Tel 49 #[.agg #[.int .i64 E,.int .i64 F],.int .u64 b] (.tuple #[.bool false,.int .u64 n]))  (w : World)  :
  Calls Tryz.prog 11 #[.agg #[.int .i64 E,.int .i64 F],.int .u64 b] w fun e w' => e = .returned (.tuple #[.int .u64 0,.int .i64 60]) ∧ Below w.heap.size w w' := by
 go_enter Tryz.func11,Tryz.ntmps11
 go_wp2_with fail
 refine (H0 _).mono ?_
 rintro e w1 ⟨rfl,hb1⟩
 have hS := (Fs.one w _ _).kept hb1
 obtain ⟨⟨z1_0_0,z1_0_1,-⟩,-⟩ := hS.cells
 go_wp2_with fail
 refine (HK _).mono ?_
 rintro e w2 ⟨rfl,hb2⟩
 replace hS := hS.kept hb2
 clear z1_0_0 z1_0_1
 obtain ⟨⟨z2_0_0,z2_0_1,-⟩,-⟩ := hS.cells
 go_wp2_with fail
 refine (HP _).mono ?_
 rintro e w3 ⟨rfl,hb3⟩
 replace hS := hS.kept hb3
 clear z2_0_0 z2_0_1
 obtain ⟨⟨z3_0_0,z3_0_1,-⟩,-⟩ := hS.cells
 go_wp2_with fail
 refine (HK _).mono ?_
 rintro e w4 ⟨rfl,hb4⟩
 replace hS := hS.kept hb4
 clear z3_0_0 z3_0_1
 obtain ⟨⟨z4_0_0,z4_0_1,-⟩,-⟩ := hS.cells
 go_wp2
 go_ret2
 exact ⟨rfl,hS.fr⟩
set_option maxHeartbeats 400000 in
theorem higher_pos (E F b n v : Int) (c : Int) (hc : (c == (5 : Int)) = false) (hc4 : (c == (4 : Int)) = false) (H0 : Tel 47 #[.agg #[.int .i64 E,.int .i64 F],.int .u64 b] (.int .i64 0)) (HK : Tel 48 #[.agg #[.int .i64 E,.int .i64 F],.int .u64 b] (.int .u8 c)) (HP : Tel 49 #[.agg #[.int .i64 E,.int .i64 F],.int .u64 b] (.tuple #[.bool false,.int .u64 n])) (hv : IntKind.u64.wrap (n + 1) = v) (w : World)  :
  Calls Tryz.prog 11 #[.agg #[.int .i64 E,.int .i64 F],.int .u64 b] w fun e w' => e = .returned (.tuple #[.int .u64 v,.int .i64 0]) ∧ Below w.heap.size w w' := by
 go_enter Tryz.func11,Tryz.ntmps11
 go_wp2_with fail
 refine (H0 _).mono ?_
 rintro e w1 ⟨rfl,hb1⟩
 have hS := (Fs.one w _ _).kept hb1
 obtain ⟨⟨z1_0_0,z1_0_1,-⟩,-⟩ := hS.cells
 go_wp2_with fail
 refine (HK _).mono ?_
 rintro e w2 ⟨rfl,hb2⟩
 replace hS := hS.kept hb2
 clear z1_0_0 z1_0_1
 obtain ⟨⟨z2_0_0,z2_0_1,-⟩,-⟩ := hS.cells
 go_wp2_with fail
 refine (HP _).mono ?_
 rintro e w3 ⟨rfl,hb3⟩
 replace hS := hS.kept hb3
 clear z2_0_0 z2_0_1
 obtain ⟨⟨z3_0_0,z3_0_1,-⟩,-⟩ := hS.cells
 go_wp2_with fail
 refine (HK _).mono ?_
 rintro e w4 ⟨rfl,hb4⟩
 replace hS := hS.kept hb4
 clear z3_0_0 z3_0_1
 obtain ⟨⟨z4_0_0,z4_0_1,-⟩,-⟩ := hS.cells
 go_wp2
 go_ret2
 exact ⟨rfl,hS.fr⟩
set_option maxHeartbeats 400000 in
theorem flip_hi (E F b S v : Int) (HH : Tel 50 #[.agg #[.int .i64 E,.int .i64 F]] (.int .u64 S)) (hb : S ≤ b) (hv : IntKind.u64.wrap (b - S) = v) (w : World)  :
  Calls Tryz.prog 51 #[.agg #[.int .i64 E,.int .i64 F],.int .u64 b] w fun e w' => e = .returned (.int .u64 v) ∧ Below w.heap.size w w' := by
 go_enter Tryz.func51,Tryz.ntmps51
 go_wp2_with fail
 refine (HH _).mono ?_
 rintro e w1 ⟨rfl,hb1⟩
 have hS := (Fs.one w _ _).kept hb1
 obtain ⟨⟨z1_0_0,z1_0_1,-⟩,-⟩ := hS.cells
 go_wp2_with fail
 refine (HH _).mono ?_
 rintro e w2 ⟨rfl,hb2⟩
 replace hS := hS.kept hb2
 clear z1_0_0 z1_0_1
 obtain ⟨⟨z2_0_0,z2_0_1,-⟩,-⟩ := hS.cells
 go_wp2
 go_ret
 exact ⟨rfl,hS.fr⟩
set_option maxHeartbeats 400000 in
theorem flip_lo (E F b S v : Int) (HH : Tel 50 #[.agg #[.int .i64 E,.int .i64 F]] (.int .u64 S)) (hb : ¬ S ≤ b) (hv : IntKind.u64.wrap (b + S) = v) (w : World)  :
  Calls Tryz.prog 51 #[.agg #[.int .i64 E,.int .i64 F],.int .u64 b] w fun e w' => e = .returned (.int .u64 v) ∧ Below w.heap.size w w' := by
 go_enter Tryz.func51,Tryz.ntmps51
 go_wp2_with fail
 refine (HH _).mono ?_
 rintro e w1 ⟨rfl,hb1⟩
 have hS := (Fs.one w _ _).kept hb1
 obtain ⟨⟨z1_0_0,z1_0_1,-⟩,-⟩ := hS.cells
 go_wp2_with fail
 refine (HH _).mono ?_
 rintro e w2 ⟨rfl,hb2⟩
 replace hS := hS.kept hb2
 clear z1_0_0 z1_0_1
 obtain ⟨⟨z2_0_0,z2_0_1,-⟩,-⟩ := hS.cells
 go_wp2
 go_ret
 exact ⟨rfl,hS.fr⟩
set_option maxHeartbeats 400000 in
theorem lower_err (E F b c : Int) (hc : (c == (0 : Int)) = false) (H0 : Tel 47 #[.agg #[.int .i64 E,.int .i64 F],.int .u64 b] (.int .i64 c))  (w : World)  :
  Calls Tryz.prog 13 #[.agg #[.int .i64 E,.int .i64 F],.int .u64 b] w fun e w' => e = .returned (.tuple #[.int .u64 0,.int .i64 c]) ∧ Below w.heap.size w w' := by
 go_enter Tryz.func13,Tryz.ntmps13
 go_wp2_with fail
 refine (H0 _).mono ?_
 rintro e w1 ⟨rfl,hb1⟩
 have hS := (Fs.one w _ _).kept hb1
 obtain ⟨⟨z1_0_0,z1_0_1,-⟩,-⟩ := hS.cells
 go_wp2
 go_ret2
 exact ⟨rfl,hS.fr⟩
set_option maxRecDepth 20000 in
set_option maxHeartbeats 2000000 in
theorem lower_no (E F b b1 v c : Int) (hc : (c == (0 : Int)) = false) (H0 : Tel 47 #[.agg #[.int .i64 E,.int .i64 F],.int .u64 b] (.int .i64 0)) (HF : Tel 51 #[.agg #[.int .i64 E,.int .i64 F],.int .u64 b] (.int .u64 b1)) (HG : Tel 11 #[.agg #[.int .i64 E,.int .i64 F],.int .u64 b1] (.tuple #[.int .u64 v,.int .i64 c]))  (w : World)  :
  Calls Tryz.prog 13 #[.agg #[.int .i64 E,.int .i64 F],.int .u64 b] w fun e w' => e = .returned (.tuple #[.int .u64 0,.int .i64 c]) ∧ Below w.heap.size w w' := by
 go_enter Tryz.func13,Tryz.ntmps13
 go_wp2_with fail
 refine (H0 _).mono ?_
 rintro e w1 ⟨rfl,hb1⟩
 have hS := (Fs.one w _ _).kept hb1
 obtain ⟨⟨z1_0_0,z1_0_1,-⟩,-⟩ := hS.cells
 go_wp2_with fail
 refine wp_region_any (by kernel_rfl) ?_
 refine wpAny_det [some (15,.agg #[.int .i64 E,.int .i64 F]),some (16,.agg #[.int .i64 E,.int .i64 F]),some (17,.int .u64 b),some (18,.int .u64 b1),some (19,.tuple #[.int .u64 v,.int .i64 c]),some (14,.tuple #[.int .u64 v,.int .i64 c]),some (20,.int .u64 v),some (21,.int .i64 c),some (7,.int .u64 v),some (6,.int .i64 c)]
  (fun _ W9 => Fs w W9 [⟨w.heap.size,#[.int .i64 E,.int .i64 F],23⟩]) _ _ rfl (by kernel_rfl) rfl rfl ?_ ?_ (hS).drew
 ·intro l9 t9 W9 i9 hD hi9 hl9 hM
  obtain ⟨o9,ho9,hd9⟩ := (mem_ready.1 hi9).2
  have hin9 : i9 < 10 := by
   by_cases h : i9 < 10
   ·exact h
   ·rw [Array.getElem?_eq_none (by rw [hD.len]; simp; omega)] at hl9; cases hl9
  have hcase : i9 = 0 ∨ i9 = 1 ∨ i9 = 2 ∨ i9 = 3 ∨ i9 = 4 ∨ i9 = 5 ∨ i9 = 6 ∨ i9 = 7 ∨ i9 = 8 ∨ i9 = 9 := by omega
  clear hin9
  rcases hcase with rfl | rfl | rfl | rfl | rfl | rfl | rfl | rfl | rfl | rfl
  ·cases ho9
   have r2 := hD.old 2 _ rfl rfl
   have hM0 := hM
   have c9_0 := hM0.cellAt (b := w.heap.size) (cs := #[.int .i64 E,.int .i64 F]) (t := 23) (by simp) 0 _ rfl
   have c9_1 := hM0.cellAt (b := w.heap.size) (cs := #[.int .i64 E,.int .i64 F]) (t := 23) (by simp) 1 _ rfl
   clear hM0
   clear hD hd9 hi9
   refine wpOp_step rfl (fun K hK => ?_)
   go_simp
   exact hK _ _ ⟨rfl,hM⟩
  ·cases ho9
   have r2 := hD.old 2 _ rfl rfl
   have hM0 := hM
   have c9_0 := hM0.cellAt (b := w.heap.size) (cs := #[.int .i64 E,.int .i64 F]) (t := 23) (by simp) 0 _ rfl
   have c9_1 := hM0.cellAt (b := w.heap.size) (cs := #[.int .i64 E,.int .i64 F]) (t := 23) (by simp) 1 _ rfl
   clear hM0
   clear hD hd9 hi9
   refine wpOp_step rfl (fun K hK => ?_)
   go_simp
   exact hK _ _ ⟨rfl,hM⟩
  ·cases ho9
   have r1 := hD.old 1 _ rfl rfl
   clear hD hd9 hi9
   refine wpOp_step rfl (fun K hK => ?_)
   go_simp
   exact hK _ _ ⟨rfl,hM⟩
  ·cases ho9
   have r16 := hD.on 1 16 _ rfl (getD_true (hd9 ⟨1,.data⟩ (by simp) rfl))
   have r17 := hD.on 2 17 _ rfl (getD_true (hd9 ⟨2,.data⟩ (by simp) rfl))
   clear hD hd9 hi9
   refine wpOp_step rfl (fun K hK => ?_)
   go_simp
   go_wp2_with fail
   refine (HF _).mono ?_
   rintro en w9 ⟨rfl,hb9⟩
   exact hK _ _ ⟨rfl,hM.kept hb9⟩
  ·cases ho9
   have r15 := hD.on 0 15 _ rfl (getD_true (hd9 ⟨0,.data⟩ (by simp) rfl))
   have r18 := hD.on 3 18 _ rfl (getD_true (hd9 ⟨3,.data⟩ (by simp) rfl))
   clear hD hd9 hi9
   refine wpOp_step rfl (fun K hK => ?_)
   go_simp
   go_wp2_with fail
   refine (HG _).mono ?_
   rintro en w9 ⟨rfl,hb9⟩
   exact hK _ _ ⟨rfl,hM.kept hb9⟩
  ·cases ho9
   have r19 := hD.on 4 19 _ rfl (getD_true (hd9 ⟨4,.data⟩ (by simp) rfl))
   clear hD hd9 hi9
   refine wpOp_step rfl (fun K hK => ?_)
   go_simp
   exact hK _ _ ⟨rfl,hM⟩
  ·cases ho9
   have r14 := hD.on 5 14 _ rfl (getD_true (hd9 ⟨5,.data⟩ (by simp) rfl))
   clear hD hd9 hi9
   refine wpOp_step rfl (fun K hK => ?_)
   go_simp
   exact hK _ _ ⟨rfl,hM⟩
  ·cases ho9
   have r14 := hD.on 5 14 _ rfl (getD_true (hd9 ⟨5,.data⟩ (by simp) rfl))
   clear hD hd9 hi9
   refine wpOp_step rfl (fun K hK => ?_)
   go_simp
   exact hK _ _ ⟨rfl,hM⟩
  ·cases ho9
   have r20 := hD.on 6 20 _ rfl (getD_true (hd9 ⟨6,.data⟩ (by simp) rfl))
   clear hD hd9 hi9
   refine wpOp_step rfl (fun K hK => ?_)
   go_simp
   exact hK _ _ ⟨rfl,hM⟩
  ·cases ho9
   have r21 := hD.on 7 21 _ rfl (getD_true (hd9 ⟨7,.data⟩ (by simp) rfl))
   clear hD hd9 hi9
   refine wpOp_step rfl (fun K hK => ?_)
   go_simp
   exact hK _ _ ⟨rfl,hM⟩
 ·intro l9 W9 hl9 hM
  clear hl9
  clear hS z1_0_0 z1_0_1
  have hS := hM
  clear hM
  simp only [Puts.lay,List.setIfInBounds_toArray,List.set_cons_zero,List.set_cons_succ]
  obtain ⟨⟨z2_0_0,z2_0_1,-⟩,-⟩ := hS.cells
  go_wp2
  go_ret2
  exact ⟨rfl,hS.fr⟩
set_option maxRecDepth 20000 in
set_option maxHeartbeats 2000000 in
theorem lower_ok (E F b b1 v u : Int) (H0 : Tel 47 #[.agg #[.int .i64 E,.int .i64 F],.int .u64 b] (.int .i64 0)) (HF : Tel 51 #[.agg #[.int .i64 E,.int .i64 F],.int .u64 b] (.int .u64 b1)) (HG : Tel 11 #[.agg #[.int .i64 E,.int .i64 F],.int .u64 b1] (.tuple #[.int .u64 v,.int .i64 0])) (HG2 : Tel 51 #[.agg #[.int .i64 E,.int .i64 F],.int .u64 v] (.int .u64 u)) (w : World)  :
  Calls Tryz.prog 13 #[.agg #[.int .i64 E,.int .i64 F],.int .u64 b] w fun e w' => e = .returned (.tuple #[.int .u64 u,.int .i64 0]) ∧ Below w.heap.size w w' := by
 go_enter Tryz.func13,Tryz.ntmps13
 go_wp2_with fail
 refine (H0 _).mono ?_
 rintro e w1 ⟨rfl,hb1⟩
 have hS := (Fs.one w _ _).kept hb1
 obtain ⟨⟨z1_0_0,z1_0_1,-⟩,-⟩ := hS.cells
 go_wp2_with fail
 refine wp_region_any (by kernel_rfl) ?_
 refine wpAny_det [some (15,.agg #[.int .i64 E,.int .i64 F]),some (16,.agg #[.int .i64 E,.int .i64 F]),some (17,.int .u64 b),some (18,.int .u64 b1),some (19,.tuple #[.int .u64 v,.int .i64 0]),some (14,.tuple #[.int .u64 v,.int .i64 0]),some (20,.int .u64 v),some (21,.int .i64 0),some (7,.int .u64 v),some (6,.int .i64 0)]
  (fun _ W9 => Fs w W9 [⟨w.heap.size,#[.int .i64 E,.int .i64 F],23⟩]) _ _ rfl (by kernel_rfl) rfl rfl ?_ ?_ (hS).drew
 ·intro l9 t9 W9 i9 hD hi9 hl9 hM
  obtain ⟨o9,ho9,hd9⟩ := (mem_ready.1 hi9).2
  have hin9 : i9 < 10 := by
   by_cases h : i9 < 10
   ·exact h
   ·rw [Array.getElem?_eq_none (by rw [hD.len]; simp; omega)] at hl9; cases hl9
  have hcase : i9 = 0 ∨ i9 = 1 ∨ i9 = 2 ∨ i9 = 3 ∨ i9 = 4 ∨ i9 = 5 ∨ i9 = 6 ∨ i9 = 7 ∨ i9 = 8 ∨ i9 = 9 := by omega
  clear hin9
  rcases hcase with rfl | rfl | rfl | rfl | rfl | rfl | rfl | rfl | rfl | rfl
  ·cases ho9
   have r2 := hD.old 2 _ rfl rfl
   have hM0 := hM
   have c9_0 := hM0.cellAt (b := w.heap.size) (cs := #[.int .i64 E,.int .i64 F]) (t := 23) (by simp) 0 _ rfl
   have c9_1 := hM0.cellAt (b := w.heap.size) (cs := #[.int .i64 E,.int .i64 F]) (t := 23) (by simp) 1 _ rfl
   clear hM0
   clear hD hd9 hi9
   refine wpOp_step rfl (fun K hK => ?_)
   go_simp
   exact hK _ _ ⟨rfl,hM⟩
  ·cases ho9
   have r2 := hD.old 2 _ rfl rfl
   have hM0 := hM
   have c9_0 := hM0.cellAt (b := w.heap.size) (cs := #[.int .i64 E,.int .i64 F]) (t := 23) (by simp) 0 _ rfl
   have c9_1 := hM0.cellAt (b := w.heap.size) (cs := #[.int .i64 E,.int .i64 F]) (t := 23) (by simp) 1 _ rfl
   clear hM0
   clear hD hd9 hi9
   refine wpOp_step rfl (fun K hK => ?_)
   go_simp
   exact hK _ _ ⟨rfl,hM⟩
  ·cases ho9
   have r1 := hD.old 1 _ rfl rfl
   clear hD hd9 hi9
   refine wpOp_step rfl (fun K hK => ?_)
   go_simp
   exact hK _ _ ⟨rfl,hM⟩
  ·cases ho9
   have r16 := hD.on 1 16 _ rfl (getD_true (hd9 ⟨1,.data⟩ (by simp) rfl))
   have r17 := hD.on 2 17 _ rfl (getD_true (hd9 ⟨2,.data⟩ (by simp) rfl))
   clear hD hd9 hi9
   refine wpOp_step rfl (fun K hK => ?_)
   go_simp
   go_wp2_with fail
   refine (HF _).mono ?_
   rintro en w9 ⟨rfl,hb9⟩
   exact hK _ _ ⟨rfl,hM.kept hb9⟩
  ·cases ho9
   have r15 := hD.on 0 15 _ rfl (getD_true (hd9 ⟨0,.data⟩ (by simp) rfl))
   have r18 := hD.on 3 18 _ rfl (getD_true (hd9 ⟨3,.data⟩ (by simp) rfl))
   clear hD hd9 hi9
   refine wpOp_step rfl (fun K hK => ?_)
   go_simp
   go_wp2_with fail
   refine (HG _).mono ?_
   rintro en w9 ⟨rfl,hb9⟩
   exact hK _ _ ⟨rfl,hM.kept hb9⟩
  ·cases ho9
   have r19 := hD.on 4 19 _ rfl (getD_true (hd9 ⟨4,.data⟩ (by simp) rfl))
   clear hD hd9 hi9
   refine wpOp_step rfl (fun K hK => ?_)
   go_simp
   exact hK _ _ ⟨rfl,hM⟩
  ·cases ho9
   have r14 := hD.on 5 14 _ rfl (getD_true (hd9 ⟨5,.data⟩ (by simp) rfl))
   clear hD hd9 hi9
   refine wpOp_step rfl (fun K hK => ?_)
   go_simp
   exact hK _ _ ⟨rfl,hM⟩
  ·cases ho9
   have r14 := hD.on 5 14 _ rfl (getD_true (hd9 ⟨5,.data⟩ (by simp) rfl))
   clear hD hd9 hi9
   refine wpOp_step rfl (fun K hK => ?_)
   go_simp
   exact hK _ _ ⟨rfl,hM⟩
  ·cases ho9
   have r20 := hD.on 6 20 _ rfl (getD_true (hd9 ⟨6,.data⟩ (by simp) rfl))
   clear hD hd9 hi9
   refine wpOp_step rfl (fun K hK => ?_)
   go_simp
   exact hK _ _ ⟨rfl,hM⟩
  ·cases ho9
   have r21 := hD.on 7 21 _ rfl (getD_true (hd9 ⟨7,.data⟩ (by simp) rfl))
   clear hD hd9 hi9
   refine wpOp_step rfl (fun K hK => ?_)
   go_simp
   exact hK _ _ ⟨rfl,hM⟩
 ·intro l9 W9 hl9 hM
  clear hl9
  clear hS z1_0_0 z1_0_1
  have hS := hM
  clear hM
  simp only [Puts.lay,List.setIfInBounds_toArray,List.set_cons_zero,List.set_cons_succ]
  obtain ⟨⟨z2_0_0,z2_0_1,-⟩,-⟩ := hS.cells
  go_wp2_with fail
  refine (HG2 _).mono ?_
  rintro e w2 ⟨rfl,hb2⟩
  replace hS := hS.kept hb2
  clear z2_0_0 z2_0_1
  obtain ⟨⟨z3_0_0,z3_0_1,-⟩,-⟩ := hS.cells
  go_wp2
  go_ret2
  exact ⟨rfl,hS.fr⟩
set_option maxRecDepth 20000 in
set_option maxHeartbeats 2000000 in
theorem runit (E F b : Int) (s : Bool) (ex fr mx B k : Int) (HP : Tel 118 #[.agg #[.int .i64 E,.int .i64 F],.int .u64 b] (.tuple #[.agg #[.bool s,.int .i64 ex,.int .u64 fr],.int .i64 0])) (HB : Tel 119 #[.agg #[.int .i64 E,.int .i64 F]] (.int .i64 B)) (hmx : max ex 1 = mx) (hk : mx - B - F = k) (hb1 : 0 ≤ mx ∧ mx ≤ 100000) (hb2 : 0 ≤ B ∧ B ≤ 100000) (hb3 : 0 ≤ F ∧ F ≤ 100000) (w : World)  :
  Calls Tryz.prog 58 #[.agg #[.int .i64 E,.int .i64 F],.int .u64 b] w fun e w' => e = .returned (.int .i64 k) ∧ Below w.heap.size w w' := by
 go_enter Tryz.func58,Tryz.ntmps58
 go_wp2_with fail
 refine (HP _).mono ?_
 rintro e w1 ⟨rfl,hb1⟩
 have hS := (Fs.one w _ _).kept hb1
 obtain ⟨⟨z1_0_0,z1_0_1,-⟩,-⟩ := hS.cells
 have hltw1_0 : w.heap.size < w1.heap.size := block_lt (hS.bx ⟨w.heap.size,#[.int .i64 E,.int .i64 F],23⟩ (by simp))
 replace hS := hS.alloc #[.bool s,.int .i64 ex,.int .u64 fr] 55
 clear z1_0_0 z1_0_1
 obtain ⟨⟨z2_0_0,z2_0_1,z2_0_2,-⟩,⟨z2_1_0,z2_1_1,-⟩,-⟩ := hS.cells
 go_wp2_with fail
 refine wp_region_any (by kernel_rfl) ?_
 refine wpAny_det [some (13,.pointer (some ⟨w1.heap.size,1,none⟩)),some (14,.int .i64 ex),some (15,.int .i64 mx),some (16,.agg #[.int .i64 E,.int .i64 F]),some (17,.int .i64 B),some (18,.int .i64 (mx - B)),some (19,.pointer (some ⟨w.heap.size,1,none⟩)),some (20,.int .i64 F),some (21,.int .i64 k),some (4,.int .i64 k)]
  (fun _ W9 => Fs w W9 [⟨w1.heap.size,#[.bool s,.int .i64 ex,.int .u64 fr],55⟩,⟨w.heap.size,#[.int .i64 E,.int .i64 F],23⟩]) _ _ rfl (by kernel_rfl) rfl rfl ?_ ?_ (hS).drew
 ·intro l9 t9 W9 i9 hD hi9 hl9 hM
  obtain ⟨o9,ho9,hd9⟩ := (mem_ready.1 hi9).2
  have hin9 : i9 < 10 := by
   by_cases h : i9 < 10
   ·exact h
   ·rw [Array.getElem?_eq_none (by rw [hD.len]; simp; omega)] at hl9; cases hl9
  have hcase : i9 = 0 ∨ i9 = 1 ∨ i9 = 2 ∨ i9 = 3 ∨ i9 = 4 ∨ i9 = 5 ∨ i9 = 6 ∨ i9 = 7 ∨ i9 = 8 ∨ i9 = 9 := by omega
  clear hin9
  rcases hcase with rfl | rfl | rfl | rfl | rfl | rfl | rfl | rfl | rfl | rfl
  ·cases ho9
   have r5 := hD.old 5 _ rfl rfl
   clear hD hd9 hi9
   refine wpOp_step rfl (fun K hK => ?_)
   go_simp
   exact hK _ _ ⟨rfl,hM⟩
  ·cases ho9
   have r13 := hD.on 0 13 _ rfl (getD_true (hd9 ⟨0,.data⟩ (by simp) rfl))
   have hM0 := hM
   have c9_0 := hM0.cellAt (b := w1.heap.size) (cs := #[.bool s,.int .i64 ex,.int .u64 fr]) (t := 55) (by simp) 1 _ rfl
   clear hM0
   clear hD hd9 hi9
   refine wpOp_step rfl (fun K hK => ?_)
   go_simp
   exact hK _ _ ⟨rfl,hM⟩
  ·cases ho9
   have r14 := hD.on 1 14 _ rfl (getD_true (hd9 ⟨1,.data⟩ (by simp) rfl))
   clear hD hd9 hi9
   refine wpOp_step rfl (fun K hK => ?_)
   go_simp
   exact hK _ _ ⟨act_eq (by (show Value.int _ _ = Value.int _ _; congr 1; split <;> omega)),hM⟩
  ·cases ho9
   have r2 := hD.old 2 _ rfl rfl
   have hM0 := hM
   have c9_0 := hM0.cellAt (b := w.heap.size) (cs := #[.int .i64 E,.int .i64 F]) (t := 23) (by simp) 0 _ rfl
   have c9_1 := hM0.cellAt (b := w.heap.size) (cs := #[.int .i64 E,.int .i64 F]) (t := 23) (by simp) 1 _ rfl
   clear hM0
   clear hD hd9 hi9
   refine wpOp_step rfl (fun K hK => ?_)
   go_simp
   exact hK _ _ ⟨rfl,hM⟩
  ·cases ho9
   have r16 := hD.on 3 16 _ rfl (getD_true (hd9 ⟨3,.data⟩ (by simp) rfl))
   clear hD hd9 hi9
   refine wpOp_step rfl (fun K hK => ?_)
   go_simp
   go_wp2_with fail
   refine (HB _).mono ?_
   rintro en w9 ⟨rfl,hb9⟩
   exact hK _ _ ⟨rfl,hM.kept hb9⟩
  ·cases ho9
   have r15 := hD.on 2 15 _ rfl (getD_true (hd9 ⟨2,.data⟩ (by simp) rfl))
   have r17 := hD.on 4 17 _ rfl (getD_true (hd9 ⟨4,.data⟩ (by simp) rfl))
   clear hD hd9 hi9
   refine wpOp_step rfl (fun K hK => ?_)
   go_simp
   exact hK _ _ ⟨act_eq (by (show Value.int _ _ = Value.int _ _; congr 1; (first | rfl | omega | (rw [IntKind.wrap_i64]; omega) | (rw [IntKind.wrap_u64]; omega)))),hM⟩
  ·cases ho9
   have r2 := hD.old 2 _ rfl rfl
   clear hD hd9 hi9
   refine wpOp_step rfl (fun K hK => ?_)
   go_simp
   exact hK _ _ ⟨rfl,hM⟩
  ·cases ho9
   have r19 := hD.on 6 19 _ rfl (getD_true (hd9 ⟨6,.data⟩ (by simp) rfl))
   have hM0 := hM
   have c9_0 := hM0.cellAt (b := w.heap.size) (cs := #[.int .i64 E,.int .i64 F]) (t := 23) (by simp) 1 _ rfl
   clear hM0
   clear hD hd9 hi9
   refine wpOp_step rfl (fun K hK => ?_)
   go_simp
   exact hK _ _ ⟨rfl,hM⟩
  ·cases ho9
   have r18 := hD.on 5 18 _ rfl (getD_true (hd9 ⟨5,.data⟩ (by simp) rfl))
   have r20 := hD.on 7 20 _ rfl (getD_true (hd9 ⟨7,.data⟩ (by simp) rfl))
   clear hD hd9 hi9
   refine wpOp_step rfl (fun K hK => ?_)
   go_simp
   exact hK _ _ ⟨act_eq (by first | rfl | (show Value.int _ _ = Value.int _ _; congr 1; first | exact hk | (rw [IntKind.wrap_i64]; omega))),hM⟩
  ·cases ho9
   have r21 := hD.on 8 21 _ rfl (getD_true (hd9 ⟨8,.data⟩ (by simp) rfl))
   clear hD hd9 hi9
   refine wpOp_step rfl (fun K hK => ?_)
   go_simp
   exact hK _ _ ⟨rfl,hM⟩
 ·intro l9 W9 hl9 hM
  clear hl9
  clear hS z2_0_0 z2_0_1 z2_0_2 z2_1_0 z2_1_1
  have hS := hM
  clear hM
  simp only [Puts.lay,List.setIfInBounds_toArray,List.set_cons_zero,List.set_cons_succ]
  obtain ⟨⟨z3_0_0,z3_0_1,z3_0_2,-⟩,⟨z3_1_0,z3_1_1,-⟩,-⟩ := hS.cells
  go_wp2
  go_ret
  exact ⟨rfl,hS.fr⟩
end Go.Proofs.YtkebhccbhoamjaaGreatDoor
namespace Go.Proofs.YtkebhccbhoamjaaGreatDoor
open Go.RowKit
structure Pk where
 A : Option Addr
 N : Nat
 C : Nat
abbrev Pks := Nat → Pk
def Pks.set (p : Pks) (c : Nat) (q : Pk) : Pks := fun i => if i = c then q else p i
def downB (ops : Array Oper) (c : Nat) : Nat → Nat → Bool
 | 0,_ => false
 | f + 1,k => match ops[k]? with
  | some o => o.after.any fun e => Region.binds .any e && (e.on == c || downB ops c f e.on)
  | none => false
theorem Det.step {ops : Array Oper} {ds : Puts} {T0 : Array Value} {l : Array Bool} {t : Array Value} {i : Nat} (hD : Det ops ds T0 l t) (ha : Puts.apart ds = true) (hw : Puts.within ds T0.size = true) (hi : i ∈ Region.ready .any ops l) (hl : l[i]? = some false) :
  Det ops ds T0 (l.setIfInBounds i true) (putD (ds[i]?.getD none) t) := by
 obtain ⟨hlt,-⟩ := Array.getElem?_eq_some_iff.1 hl
 have hset : ∀ k,(l.setIfInBounds i true)[k]? = some true ↔ (k = i ∨ l[k]? = some true) := by
  intro k
  by_cases hk : k = i
  ·subst hk; simp [hlt]
  ·rw [Array.getElem?_setIfInBounds_ne (Ne.symm hk)]; simp [hk]
 constructor
 ·rw [Array.size_setIfInBounds]; exact hD.len
 ·rw [← hD.size]
  cases hd : ds[i]?.getD none with
  | none => rfl
  | some d => obtain ⟨s,v⟩ := d; simp [putD]
 ·intro k s v hk hlk
  rcases (hset k).1 hlk with rfl | hlk9
  ·rw [hk]
   have hs : s < t.size := by rw [hD.size]; simpa using List.all_eq_true.1 hw _ (List.mem_of_getElem? hk)
   simp [putD,hs]
  ·cases hd : ds[i]?.getD none with
   | none => exact hD.on k s v hk hlk9
   | some d =>
    obtain ⟨s',v'⟩ := d
    have hd' : ds[i]? = some (some (s',v')) := by
     cases hx : ds[i]? with
     | none => rw [hx] at hd; simp at hd
     | some y => rw [hx] at hd; simp at hd; rw [hd]
    have hne : s' ≠ s := by
     intro e; subst e
     obtain rfl := Puts.one ha hk hd'
     rw [hl] at hlk9; cases hlk9
    rw [putD,Array.getElem?_setIfInBounds_ne hne]
    exact hD.on k s v hk hlk9
 ·intro s hs
  cases hd : ds[i]?.getD none with
  | none => exact hD.off s (fun k v hk hlk => hs k v hk ((hset k).2 (Or.inr hlk)))
  | some d =>
   obtain ⟨s',v'⟩ := d
   have hd' : ds[i]? = some (some (s',v')) := by
    cases hx : ds[i]? with
    | none => rw [hx] at hd; simp at hd
    | some y => rw [hx] at hd; simp at hd; rw [hd]
   have hne : s' ≠ s := by
    intro e; subst e
    exact hs i v' hd' ((hset i).2 (Or.inl rfl))
   rw [putD,Array.getElem?_setIfInBounds_ne hne]
   exact hD.off s (fun k v hk hlk => hs k v hk ((hset k).2 (Or.inr hlk)))
 ·intro k o hlk ho e he hbe
  rcases (hset k).1 hlk with rfl | hlk
  ·obtain ⟨o',ho',hd'⟩ := (mem_ready.1 hi).2
   rw [ho] at ho'
   cases ho'
   exact true_getD ((hset _).2 (Or.inr (getD_true (hd' e he hbe))))
  ·exact true_getD ((hset _).2 (Or.inr (getD_true (hD.shut k o hlk ho e he hbe))))
theorem Det.turn {ops : Array Oper} {ds ds' : Puts} {T0 : Array Value} {l : Array Bool} {t : Array Value} (hD : Det ops ds T0 l t) (h : ∀ k : Nat,l[k]? = some true → ds'[k]? = ds[k]?) : Det ops ds' T0 l t :=
 ⟨hD.len,hD.size,fun k s v hk hl => hD.on k s v (by rw [← h k hl]; exact hk) hl,fun s hs => hD.off s (fun k v hk hl => hs k v (by rw [h k hl]; exact hk) hl),hD.shut⟩
theorem Det.down {ops : Array Oper} {ds : Puts} {T0 : Array Value} {l : Array Bool} {t : Array Value} (hD : Det ops ds T0 l t) {c : Nat} (hc : l[c]? = some false) : ∀ (f k : Nat),downB ops c f k = true → l[k]? ≠ some true
 | 0,_,h => by simp [downB] at h
 | f + 1,k,h => by
  intro hl
  unfold downB at h
  cases ho : ops[k]? with
  | none => rw [ho] at h; simp at h
  | some o =>
   rw [ho] at h
   simp only [Array.any_eq_true',Bool.and_eq_true,Bool.or_eq_true,beq_iff_eq] at h
   obtain ⟨e,he,hb,h⟩ := h
   have h1 := getD_true (hD.shut k o hl ho e he hb)
   rcases h with h | h
   ·rw [h,hc] at h1; cases h1
   ·exact Det.down hD hc f e.on h h1
theorem Det.agree {ops : Array Oper} {ds ds' : Puts} {T0 : Array Value} {l : Array Bool} {t : Array Value} (hD : Det ops ds T0 l t) {c : Nat} (hc : l[c]? = some false) (h : ∀ k : Nat,k ≠ c → downB ops c ops.size k = false → ds'[k]? = ds[k]?) : ∀ k : Nat,l[k]? = some true → ds'[k]? = ds[k]? := fun k hk => by
 refine h k (fun e => by rw [e,hc] at hk; cases hk) ?_
 cases hd : downB ops c ops.size k with
 | false => rfl
 | true => exact absurd hk (hD.down hc _ k hd)
theorem wpAny_pick {P : Program} {ops : Array Oper} {Q : Exit → Act → World → Prop} (D : Pks → Puts) (M : Pks → Array Bool → World → Prop) (T0 : Array Value) (w0 : World)
  (ha : ∀ p,Puts.apart (D p) = true) (hb : backB ops = true) (hlen : ∀ p,(D p).length = ops.size) (hw : ∀ p,Puts.within (D p) T0.size = true)
  (hstep : ∀ p l t w i,Det ops (D p) T0 l t → i ∈ Region.ready .any ops l → l[i]? = some false → M p l w →
   wpOp P ops Q i (fun a w' => ∃ p',(∀ k : Nat,l[k]? = some true → (D p')[k]? = (D p)[k]?) ∧ a = ⟨putD ((D p')[i]?.getD none) t,[]⟩ ∧ M p' (l.setIfInBounds i true) w') ⟨t,[]⟩ w)
  (hdone : ∀ p l w,l.size = ops.size → (∀ i,i < ops.size → l[i]? = some true) → M p l w → Q .normal ⟨Puts.lay (D p) T0,[]⟩ w)
  (p0 : Pks) (hM : M p0 (Array.replicate ops.size false) w0) : wpAny P .any ops Q ops.size (Array.replicate ops.size false) ⟨T0,[]⟩ w0 := by
 refine wpAny_inv (fun l a w => ∃ p t,a = ⟨t,[]⟩ ∧ Det ops (D p) T0 l t ∧ M p l w) ?_ ?_ _ _ _ _ ?_ ⟨p0,T0,rfl,?_,hM⟩
 ·rintro l a w i ⟨p,t,rfl,hD,hm⟩ hi hl
  refine wpOp_mono ?_ (hstep p l t w i hD hi hl hm)
  rintro a' w' ⟨p',hag,rfl,hm'⟩
  exact ⟨p',_,rfl,(hD.turn hag).step (ha p') (hw p') hi hl,hm'⟩
 ·rintro l a w ⟨p,t,rfl,hD,hm⟩ hr
  have hl := all_up hD.len hb hr
  rw [hD.done (ha p) (hlen p) (hw p) hl]
  exact hdone p l w hD.len hl hm
 ·simp
 ·constructor
  ·simp
  ·rfl
  ·intro k s v _ h
   rw [Array.getElem?_replicate] at h
   split at h <;> cases h
  ·intro s _; rfl
  ·intro k o h
   rw [Array.getElem?_replicate] at h
   split at h <;> cases h
structure St (base : Nat) (f : World → Prop) : Prop where
 kept : ∀ W W',Below W.heap.size W W' → f W → f W'
 set : ∀ W p u,p.block < base → f W → f (W.setCell p u)
structure Pm (w0 : World) (base : Nat) (fs : List (Nat × (Pk → World → Prop))) (p : Pks) (l : Array Bool) (W : World) (bs : List En) : Prop where
 st : Fs w0 W bs
 bw : base ≤ W.heap.size
 fx : ∀ x,x ∈ fs → (l[x.1]? = some true ∨ l.size ≤ x.1) → x.2 (p x.1) W
theorem Pm.start {w0 W : World} {bs : List En} (h : Fs w0 W bs) (fs : List (Nat × (Pk → World → Prop))) (p : Pks) (n : Nat) (hs : ∀ x,x ∈ fs → ∀ q,St W.heap.size (x.2 q)) (h0 : ∀ x,x ∈ fs → n ≤ x.1 → x.2 (p x.1) W) : Pm w0 W.heap.size fs p (Array.replicate n false) W.drew bs :=
 ⟨h.drew,Nat.le_refl _,fun x hx hl => by
  rcases hl with hl | hl
  ·rw [Array.getElem?_replicate] at hl; split at hl <;> cases hl
  ·rw [Array.size_replicate] at hl
   exact (hs x hx _).kept _ _ (Below.refl _ _).drew (h0 x hx hl)⟩
theorem Pm.start2 {w0 W : World} {bs : List En} {base : Nat} (h : Fs w0 W bs) (fs : List (Nat × (Pk → World → Prop))) (p : Pks) (n : Nat) (hbase : base ≤ W.heap.size) (hs : ∀ x,x ∈ fs → ∀ q,St base (x.2 q)) (h0 : ∀ x,x ∈ fs → n ≤ x.1 → x.2 (p x.1) W) : Pm w0 base fs p (Array.replicate n false) W.drew bs :=
 ⟨h.drew,hbase,fun x hx hl => by
  rcases hl with hl | hl
  ·rw [Array.getElem?_replicate] at hl; split at hl <;> cases hl
  ·rw [Array.size_replicate] at hl
   exact (hs x hx _).kept _ _ (Below.refl _ _).drew (h0 x hx hl)⟩
theorem Pm.val {w0 W : World} {base : Nat} {fs : List (Nat × (Pk → World → Prop))} {p : Pks} {l : Array Bool} {bs : List En} {i : Nat} (h : Pm w0 base fs p l W bs) (hi : (fs.map Prod.fst).all (fun x => x != i) = true) : Pm w0 base fs p (l.setIfInBounds i true) W bs :=
 ⟨h.st,h.bw,fun x hx hl => h.fx x hx (by
  have := List.all_eq_true.1 hi x.1 (List.mem_map_of_mem hx)
  rw [Array.getElem?_setIfInBounds_ne (by intro e; subst e; simp at this),Array.size_setIfInBounds] at hl
  exact hl)⟩
theorem Pm.kept {w0 W W' : World} {base : Nat} {fs : List (Nat × (Pk → World → Prop))} {p : Pks} {l : Array Bool} {bs : List En} (h : Pm w0 base fs p l W bs) (hs : ∀ x,x ∈ fs → ∀ q,St base (x.2 q)) (hb : Below W.heap.size W W') : Pm w0 base fs p l W' bs :=
 ⟨h.st.kept hb,Nat.le_trans h.bw hb.size,fun x hx hl => (hs x hx _).kept W W' hb (h.fx x hx hl)⟩
theorem Pm.pick {w0 W : World} {base : Nat} {fs : List (Nat × (Pk → World → Prop))} {p : Pks} {l : Array Bool} {bs : List En} {c : Nat} (h : Pm w0 base fs p l W bs) (q : Pk) (hq : ∀ x,x ∈ fs → x.1 = c → x.2 q W) : Pm w0 base fs (p.set c q) (l.setIfInBounds c true) W bs :=
 ⟨h.st,h.bw,fun x hx hl => by
  by_cases e : x.1 = c
  ·have := hq x hx e
   rw [e]; simpa [Pks.set] using this
  ·rw [Array.getElem?_setIfInBounds_ne (Ne.symm e),Array.size_setIfInBounds] at hl
   have := h.fx x hx hl
   simpa [Pks.set,e] using this⟩
theorem Pm.put {w0 W : World} {base : Nat} {fs : List (Nat × (Pk → World → Prop))} {p : Pks} {l : Array Bool} {bs bs' : List En} (h : Pm w0 base fs p l W bs) (hs : ∀ x,x ∈ fs → ∀ q,St base (x.2 q)) (a : Addr) (u : Value) (ha : a.block < base) (h' : Fs w0 (W.setCell a u) bs') : Pm w0 base fs p l (W.setCell a u) bs' :=
 ⟨h',by have := h.bw; simpa [World.setCell] using this,fun x hx hl => (hs x hx _).set W a u ha (h.fx x hx hl)⟩
theorem Pm.into {w0 W : World} {base : Nat} {fs : List (Nat × (Pk → World → Prop))} {p : Pks} {l : Array Bool} {bs bs' : List En} (h : Pm w0 base fs p l W bs) (e : bs = bs') : Pm w0 base fs p l W bs' := e ▸ h
theorem Pm.keepM {w0 W : World} {base : Nat} {fs : List (Nat × (Pk → World → Prop))} {p' : Pks} {l : Array Bool} {i : Nat} {sts : List (Nat × List En)} {b : List En} (hi : (sts.map Prod.fst).all (fun x => x != i) = true) (h : Pm w0 base fs p' (l.setIfInBounds i true) W (pickBs l sts b)) : Pm w0 base fs p' (l.setIfInBounds i true) W (pickBs (l.setIfInBounds i true) sts b) :=
 h.into (by
  rw [pickBs_set]
  rw [List.all_map] at hi
  exact hi)
theorem Pm.putM {w0 W : World} {base : Nat} {fs : List (Nat × (Pk → World → Prop))} {p : Pks} {l : Array Bool} {i : Nat} {sts : List (Nat × List En)} {b b' : List En} (hl : l[i]? = some false) (h : Pm w0 base fs p (l.setIfInBounds i true) W b') : Pm w0 base fs p (l.setIfInBounds i true) W (pickBs (l.setIfInBounds i true) ((i,b') :: sts) b) :=
 h.into (pickBs_at hl).symm
def Va (n : Nat) (t : TypeId) (base b : Nat) (W : World) : Prop := base ≤ b ∧ ∃ cs : Array Value,cs.size = n ∧ W.heap[b]? = some (.cells cs t (0,0))
theorem Va.made (W : World) (cs : Array Value) (t : TypeId) (base : Nat) (hb : base ≤ W.heap.size) : Va cs.size t base W.heap.size (W.alloc (.cells cs t)) := ⟨hb,cs,rfl,heap_alloc_new W _⟩
end Go.Proofs.YtkebhccbhoamjaaGreatDoor
namespace Go.Proofs.YtkebhccbhoamjaaGreatDoor
open Go.RowKit
set_option maxRecDepth 20000 in
set_option maxHeartbeats 400000 in
theorem check1_ok (E F : Int) (p : Nat) (b0 : Int) (H0 : Tel 80 #[.agg #[.int .i64 E,.int .i64 F],.int .u64 b0] (.int .i64 0)) (w : World) (hp : w.heap[p]? = some (.cells #[.int .u64 b0] 24 (0,0))) :
  Calls Tryz.prog 59 #[.agg #[.int .i64 E,.int .i64 F],.slice (some ⟨p,0,none⟩) 1 1] w fun e w' => e = .returned (.int .i64 0) ∧ Below w.heap.size w w' := by
 go_enter Tryz.func59,Tryz.ntmps59
 have hS0 : Fs w w [⟨p,#[.int .u64 b0],24⟩] := ⟨fun x hx => by rcases List.mem_cons.1 hx with rfl | hx; exact hp; exact absurd hx List.not_mem_nil,Below.refl _ _⟩
 have hS := hS0.alloc #[.int .i64 E,.int .i64 F] 23
 clear hS0 hp
 obtain ⟨⟨z1_0_0,z1_0_1,-⟩,⟨z1_1_0,-⟩,-⟩ := hS.cells
 go_wp2
 refine wp_loop_rounds 2 ?_
 rw [rounds_succ]
 go_wp2_with fail
 refine (H0 _).mono ?_
 rintro e w1 ⟨rfl,hb1⟩
 replace hS := hS.kept hb1
 clear z1_0_0 z1_0_1 z1_1_0
 obtain ⟨⟨z2_0_0,z2_0_1,-⟩,⟨z2_1_0,-⟩,-⟩ := hS.cells
 go_wp2
 rw [rounds_succ]
 go_wp2
 go_ret
 exact ⟨rfl,hS.fr⟩
set_option maxRecDepth 20000 in
set_option maxHeartbeats 400000 in
theorem check1_err (E F c : Int) (hc : (c == (0 : Int)) = false) (p : Nat) (b0 : Int) (H0 : Tel 80 #[.agg #[.int .i64 E,.int .i64 F],.int .u64 b0] (.int .i64 c)) (w : World) (hp : w.heap[p]? = some (.cells #[.int .u64 b0] 24 (0,0))) :
  Calls Tryz.prog 59 #[.agg #[.int .i64 E,.int .i64 F],.slice (some ⟨p,0,none⟩) 1 1] w fun e w' => e = .returned (.int .i64 c) ∧ Below w.heap.size w w' := by
 go_enter Tryz.func59,Tryz.ntmps59
 have hS0 : Fs w w [⟨p,#[.int .u64 b0],24⟩] := ⟨fun x hx => by rcases List.mem_cons.1 hx with rfl | hx; exact hp; exact absurd hx List.not_mem_nil,Below.refl _ _⟩
 have hS := hS0.alloc #[.int .i64 E,.int .i64 F] 23
 clear hS0 hp
 obtain ⟨⟨z1_0_0,z1_0_1,-⟩,⟨z1_1_0,-⟩,-⟩ := hS.cells
 go_wp2
 refine wp_loop_rounds 2 ?_
 rw [rounds_succ]
 go_wp2_with fail
 refine (H0 _).mono ?_
 rintro e w1 ⟨rfl,hb1⟩
 replace hS := hS.kept hb1
 clear z1_0_0 z1_0_1 z1_1_0
 obtain ⟨⟨z2_0_0,z2_0_1,-⟩,⟨z2_1_0,-⟩,-⟩ := hS.cells
 go_wp2
 go_ret
 exact ⟨rfl,hS.fr⟩
set_option maxRecDepth 20000 in
set_option maxHeartbeats 400000 in
theorem check2_ok (E F : Int) (p : Nat) (b0 b1 : Int) (H0 : Tel 80 #[.agg #[.int .i64 E,.int .i64 F],.int .u64 b0] (.int .i64 0)) (H1 : Tel 80 #[.agg #[.int .i64 E,.int .i64 F],.int .u64 b1] (.int .i64 0)) (w : World) (hp : w.heap[p]? = some (.cells #[.int .u64 b0,.int .u64 b1] 24 (0,0))) :
  Calls Tryz.prog 59 #[.agg #[.int .i64 E,.int .i64 F],.slice (some ⟨p,0,none⟩) 2 2] w fun e w' => e = .returned (.int .i64 0) ∧ Below w.heap.size w w' := by
 go_enter Tryz.func59,Tryz.ntmps59
 have hS0 : Fs w w [⟨p,#[.int .u64 b0,.int .u64 b1],24⟩] := ⟨fun x hx => by rcases List.mem_cons.1 hx with rfl | hx; exact hp; exact absurd hx List.not_mem_nil,Below.refl _ _⟩
 have hS := hS0.alloc #[.int .i64 E,.int .i64 F] 23
 clear hS0 hp
 obtain ⟨⟨z1_0_0,z1_0_1,-⟩,⟨z1_1_0,z1_1_1,-⟩,-⟩ := hS.cells
 go_wp2
 refine wp_loop_rounds 3 ?_
 rw [rounds_succ]
 go_wp2_with fail
 refine (H0 _).mono ?_
 rintro e w1 ⟨rfl,hb1⟩
 replace hS := hS.kept hb1
 clear z1_0_0 z1_0_1 z1_1_0 z1_1_1
 obtain ⟨⟨z2_0_0,z2_0_1,-⟩,⟨z2_1_0,z2_1_1,-⟩,-⟩ := hS.cells
 go_wp2
 rw [rounds_succ]
 go_wp2_with fail
 refine (H1 _).mono ?_
 rintro e w2 ⟨rfl,hb2⟩
 replace hS := hS.kept hb2
 clear z2_0_0 z2_0_1 z2_1_0 z2_1_1
 obtain ⟨⟨z3_0_0,z3_0_1,-⟩,⟨z3_1_0,z3_1_1,-⟩,-⟩ := hS.cells
 go_wp2
 rw [rounds_succ]
 go_wp2
 go_ret
 exact ⟨rfl,hS.fr⟩
set_option maxRecDepth 20000 in
set_option maxHeartbeats 400000 in
theorem numbers1_yes (E F : Int) (c0 : Int) (hc0 : (c0 == (5 : Int)) = false)  (p : Nat) (b0 : Int) (H0 : Tel 37 #[.agg #[.int .i64 E,.int .i64 F],.int .u64 b0] (.tuple #[.int .u8 c0,.int .i64 0])) (w : World) (hp : w.heap[p]? = some (.cells #[.int .u64 b0] 24 (0,0))) :
  Calls Tryz.prog 60 #[.agg #[.int .i64 E,.int .i64 F],.slice (some ⟨p,0,none⟩) 1 1] w fun e w' => e = .returned (.bool true) ∧ Below w.heap.size w w' := by
 go_enter Tryz.func60,Tryz.ntmps60
 have hS0 : Fs w w [⟨p,#[.int .u64 b0],24⟩] := ⟨fun x hx => by rcases List.mem_cons.1 hx with rfl | hx; exact hp; exact absurd hx List.not_mem_nil,Below.refl _ _⟩
 have hS := hS0.alloc #[.int .i64 E,.int .i64 F] 23
 clear hS0 hp
 obtain ⟨⟨z1_0_0,z1_0_1,-⟩,⟨z1_1_0,-⟩,-⟩ := hS.cells
 go_wp2
 refine wp_loop_rounds 2 ?_
 rw [rounds_succ]
 go_wp2_with fail
 refine (H0 _).mono ?_
 rintro e w1 ⟨rfl,hb1⟩
 replace hS := hS.kept hb1
 clear z1_0_0 z1_0_1 z1_1_0
 obtain ⟨⟨z2_0_0,z2_0_1,-⟩,⟨z2_1_0,-⟩,-⟩ := hS.cells
 go_wp2
 rw [rounds_succ]
 go_wp2
 go_ret
 exact ⟨rfl,hS.fr⟩
set_option maxRecDepth 20000 in
set_option maxHeartbeats 400000 in
theorem numbers1_no (E F : Int)  (p : Nat) (b0 : Int) (H0 : Tel 37 #[.agg #[.int .i64 E,.int .i64 F],.int .u64 b0] (.tuple #[.int .u8 5,.int .i64 0])) (w : World) (hp : w.heap[p]? = some (.cells #[.int .u64 b0] 24 (0,0))) :
  Calls Tryz.prog 60 #[.agg #[.int .i64 E,.int .i64 F],.slice (some ⟨p,0,none⟩) 1 1] w fun e w' => e = .returned (.bool false) ∧ Below w.heap.size w w' := by
 go_enter Tryz.func60,Tryz.ntmps60
 have hS0 : Fs w w [⟨p,#[.int .u64 b0],24⟩] := ⟨fun x hx => by rcases List.mem_cons.1 hx with rfl | hx; exact hp; exact absurd hx List.not_mem_nil,Below.refl _ _⟩
 have hS := hS0.alloc #[.int .i64 E,.int .i64 F] 23
 clear hS0 hp
 obtain ⟨⟨z1_0_0,z1_0_1,-⟩,⟨z1_1_0,-⟩,-⟩ := hS.cells
 go_wp2
 refine wp_loop_rounds 2 ?_
 rw [rounds_succ]
 go_wp2_with fail
 refine (H0 _).mono ?_
 rintro e w1 ⟨rfl,hb1⟩
 replace hS := hS.kept hb1
 clear z1_0_0 z1_0_1 z1_1_0
 obtain ⟨⟨z2_0_0,z2_0_1,-⟩,⟨z2_1_0,-⟩,-⟩ := hS.cells
 go_wp2
 go_ret
 exact ⟨rfl,hS.fr⟩
set_option maxRecDepth 20000 in
set_option maxHeartbeats 400000 in
theorem numbers2_yes (E F : Int) (c0 : Int) (hc0 : (c0 == (5 : Int)) = false) (c1 : Int) (hc1 : (c1 == (5 : Int)) = false)  (p : Nat) (b0 b1 : Int) (H0 : Tel 37 #[.agg #[.int .i64 E,.int .i64 F],.int .u64 b0] (.tuple #[.int .u8 c0,.int .i64 0])) (H1 : Tel 37 #[.agg #[.int .i64 E,.int .i64 F],.int .u64 b1] (.tuple #[.int .u8 c1,.int .i64 0])) (w : World) (hp : w.heap[p]? = some (.cells #[.int .u64 b0,.int .u64 b1] 24 (0,0))) :
  Calls Tryz.prog 60 #[.agg #[.int .i64 E,.int .i64 F],.slice (some ⟨p,0,none⟩) 2 2] w fun e w' => e = .returned (.bool true) ∧ Below w.heap.size w w' := by
 go_enter Tryz.func60,Tryz.ntmps60
 have hS0 : Fs w w [⟨p,#[.int .u64 b0,.int .u64 b1],24⟩] := ⟨fun x hx => by rcases List.mem_cons.1 hx with rfl | hx; exact hp; exact absurd hx List.not_mem_nil,Below.refl _ _⟩
 have hS := hS0.alloc #[.int .i64 E,.int .i64 F] 23
 clear hS0 hp
 obtain ⟨⟨z1_0_0,z1_0_1,-⟩,⟨z1_1_0,z1_1_1,-⟩,-⟩ := hS.cells
 go_wp2
 refine wp_loop_rounds 3 ?_
 rw [rounds_succ]
 go_wp2_with fail
 refine (H0 _).mono ?_
 rintro e w1 ⟨rfl,hb1⟩
 replace hS := hS.kept hb1
 clear z1_0_0 z1_0_1 z1_1_0 z1_1_1
 obtain ⟨⟨z2_0_0,z2_0_1,-⟩,⟨z2_1_0,z2_1_1,-⟩,-⟩ := hS.cells
 go_wp2
 rw [rounds_succ]
 go_wp2_with fail
 refine (H1 _).mono ?_
 rintro e w2 ⟨rfl,hb2⟩
 replace hS := hS.kept hb2
 clear z2_0_0 z2_0_1 z2_1_0 z2_1_1
 obtain ⟨⟨z3_0_0,z3_0_1,-⟩,⟨z3_1_0,z3_1_1,-⟩,-⟩ := hS.cells
 go_wp2
 rw [rounds_succ]
 go_wp2
 go_ret
 exact ⟨rfl,hS.fr⟩
end Go.Proofs.YtkebhccbhoamjaaGreatDoor
namespace Go.Proofs.YtkebhccbhoamjaaGreatDoor
open Go.RowKit
theorem spot_under : Tryz.prog.underlying 92 = some (.array 2 24) := by kernel_rfl
theorem word_is : (Tryz.prog.info? 24).isSome = true := by kernel_rfl
theorem word_info : ∃ i,Tryz.prog.info? 24 = some i := Option.isSome_iff_exists.1 word_is
theorem word_cells : Tryz.prog.cellsOf 24 = 1 := by kernel_rfl
theorem eq_spot (q r q' r' : Int) (W : World) :
  (Op.equalIn 10000 92 (.agg #[.int .u64 q,.int .u64 r]) (.agg #[.int .u64 q',.int .u64 r'])).run Tryz.prog W = .ok (q == q' && r == r') W := by
 obtain ⟨i,hi⟩ := word_info
 rw [show (10000 : Nat) = 9999 + 1 from rfl,run_equalIn_array W 9999 _ _ spot_under hi,word_cells]
 have hr : List.range 2 = [0,1] := rfl
 rw [hr]
 simp only [Op.eqItems]
 by_cases hq : q = q'
 ·by_cases hr : r = r'
  ·simp [go_sem,hq,hr,run_equalIn_int]
  ·simp [go_sem,hq,hr,run_equalIn_int]
 ·simp [go_sem,hq,run_equalIn_int]
end Go.Proofs.YtkebhccbhoamjaaGreatDoor
namespace Go.Proofs.YtkebhccbhoamjaaGreatDoor
open Go.RowKit
set_option maxRecDepth 20000 in
set_option maxHeartbeats 400000 in
theorem beside_err (E F b c : Int) (d : Bool) (H0 : Tel 80 #[.agg #[.int .i64 E,.int .i64 F],.int .u64 b] (.int .i64 c)) (hc : (c == (0 : Int)) = false) (w : World)  :
  Calls Tryz.prog 46 #[.agg #[.int .i64 E,.int .i64 F],.int .u64 b,.bool d] w fun e w' => e = .returned (.tuple #[.int .u64 0,.int .i64 c]) ∧ Below w.heap.size w w' := by
 go_enter Tryz.func46,Tryz.ntmps46
 go_wp2_with fail
 refine (check1_err E F c hc _ b H0 _ (by have := heap_alloc_new (w.alloc (.cells #[.int .i64 E,.int .i64 F] 23)) (.cells #[.int .u64 b] 24); simpa only [World.size_alloc] using this)).mono ?_
 rintro e w1 ⟨rfl,hb1⟩
 have hS : Fs w (w.alloc (.cells #[.int .i64 E,.int .i64 F] 23)) [⟨w.heap.size,#[.int .i64 E,.int .i64 F],23⟩] := Fs.one w _ _
 replace hS := ((hS.alloc #[.int .u64 b] 24).kept hb1).sub (fun x hx => List.mem_cons_of_mem _ hx)
 obtain ⟨⟨z1_0_0,z1_0_1,-⟩,-⟩ := hS.cells
 go_wp2
 go_ret2
 exact ⟨rfl,hS.fr⟩
set_option maxRecDepth 20000 in
set_option maxHeartbeats 400000 in
theorem beside_nan (E F b : Int) (d : Bool) (H0 : Tel 80 #[.agg #[.int .i64 E,.int .i64 F],.int .u64 b] (.int .i64 0)) (HC : Tel 37 #[.agg #[.int .i64 E,.int .i64 F],.int .u64 b] (.tuple #[.int .u8 5,.int .i64 0])) (w : World)  :
  Calls Tryz.prog 46 #[.agg #[.int .i64 E,.int .i64 F],.int .u64 b,.bool d] w fun e w' => e = .returned (.tuple #[.int .u64 0,.int .i64 2]) ∧ Below w.heap.size w w' := by
 go_enter Tryz.func46,Tryz.ntmps46
 go_wp2_with fail
 refine (check1_ok E F _ b H0 _ (by have := heap_alloc_new (w.alloc (.cells #[.int .i64 E,.int .i64 F] 23)) (.cells #[.int .u64 b] 24); simpa only [World.size_alloc] using this)).mono ?_
 rintro e w1 ⟨rfl,hb1⟩
 have hS : Fs w (w.alloc (.cells #[.int .i64 E,.int .i64 F] 23)) [⟨w.heap.size,#[.int .i64 E,.int .i64 F],23⟩] := Fs.one w _ _
 replace hS := ((hS.alloc #[.int .u64 b] 24).kept hb1).sub (fun x hx => List.mem_cons_of_mem _ hx)
 obtain ⟨⟨z1_0_0,z1_0_1,-⟩,-⟩ := hS.cells
 go_wp2_with fail
 refine (numbers1_no E F _ b HC _ (by have := heap_alloc_new w1 (.cells #[.int .u64 b] 24); simpa only [World.size_alloc] using this)).mono ?_
 rintro e w2 ⟨rfl,hb2⟩
 replace hS := ((hS.alloc #[.int .u64 b] 24).kept hb2).sub (fun x hx => List.mem_cons_of_mem _ hx)
 clear z1_0_0 z1_0_1
 obtain ⟨⟨z2_0_0,z2_0_1,-⟩,-⟩ := hS.cells
 go_wp2
 go_ret2
 exact ⟨rfl,hS.fr⟩
set_option maxRecDepth 20000 in
set_option maxHeartbeats 2000000 in
theorem beside_end (E F b : Int) (d : Bool) (H0 : Tel 80 #[.agg #[.int .i64 E,.int .i64 F],.int .u64 b] (.int .i64 0)) (c : Int) (hc : (c == (5 : Int)) = false) (HC : Tel 37 #[.agg #[.int .i64 E,.int .i64 F],.int .u64 b] (.tuple #[.int .u8 c,.int .i64 0])) (en : Int) (HI : Tel 104 #[.agg #[.int .i64 E,.int .i64 F],.bool d] (.tuple #[.int .u64 en,.int .i64 0])) (q r : Int) (HP : Tel 61 #[.agg #[.int .i64 E,.int .i64 F],.int .u64 b] (.agg #[.int .u64 q,.int .u64 r])) (HQ : Tel 61 #[.agg #[.int .i64 E,.int .i64 F],.int .u64 en] (.agg #[.int .u64 q,.int .u64 r])) (w : World)  :
  Calls Tryz.prog 46 #[.agg #[.int .i64 E,.int .i64 F],.int .u64 b,.bool d] w fun e w' => e = .returned (.tuple #[.int .u64 0,.int .i64 60]) ∧ Below w.heap.size w w' := by
 go_enter Tryz.func46,Tryz.ntmps46
 go_wp2_with fail
 refine (check1_ok E F _ b H0 _ (by have := heap_alloc_new (w.alloc (.cells #[.int .i64 E,.int .i64 F] 23)) (.cells #[.int .u64 b] 24); simpa only [World.size_alloc] using this)).mono ?_
 rintro e w1 ⟨rfl,hb1⟩
 have hS : Fs w (w.alloc (.cells #[.int .i64 E,.int .i64 F] 23)) [⟨w.heap.size,#[.int .i64 E,.int .i64 F],23⟩] := Fs.one w _ _
 replace hS := ((hS.alloc #[.int .u64 b] 24).kept hb1).sub (fun x hx => List.mem_cons_of_mem _ hx)
 obtain ⟨⟨z1_0_0,z1_0_1,-⟩,-⟩ := hS.cells
 go_wp2_with fail
 refine (numbers1_yes E F c hc _ b HC _ (by have := heap_alloc_new w1 (.cells #[.int .u64 b] 24); simpa only [World.size_alloc] using this)).mono ?_
 rintro e w2 ⟨rfl,hb2⟩
 replace hS := ((hS.alloc #[.int .u64 b] 24).kept hb2).sub (fun x hx => List.mem_cons_of_mem _ hx)
 clear z1_0_0 z1_0_1
 obtain ⟨⟨z2_0_0,z2_0_1,-⟩,-⟩ := hS.cells
 go_wp2_with fail
 refine (HI _).mono ?_
 rintro e w3 ⟨rfl,hb3⟩
 replace hS := hS.kept hb3
 clear z2_0_0 z2_0_1
 obtain ⟨⟨z3_0_0,z3_0_1,-⟩,-⟩ := hS.cells
 go_wp2_with fail
 refine (HP _).mono ?_
 rintro e w4 ⟨rfl,hb4⟩
 replace hS := hS.kept hb4
 clear z3_0_0 z3_0_1
 obtain ⟨⟨z4_0_0,z4_0_1,-⟩,-⟩ := hS.cells
 have hltw4_0 : w.heap.size < w4.heap.size := block_lt (hS.bx ⟨w.heap.size,#[.int .i64 E,.int .i64 F],23⟩ (by simp))
 replace hS := hS.alloc #[.int .u64 q,.int .u64 r] 92
 clear z4_0_0 z4_0_1
 obtain ⟨⟨z5_0_0,z5_0_1,-⟩,⟨z5_1_0,z5_1_1,-⟩,-⟩ := hS.cells
 have hEq := eq_spot q r q r
 go_wp2_with fail
 refine wp_region_any (by kernel_rfl) ?_
 refine wpAny_det [some (37,.agg #[.int .u64 q,.int .u64 r]),some (38,.agg #[.int .i64 E,.int .i64 F]),some (39,.int .u64 en),some (40,.agg #[.int .u64 q,.int .u64 r]),some (41,.bool true)]
  (fun _ W9 => Fs w W9 [⟨w4.heap.size,#[.int .u64 q,.int .u64 r],92⟩,⟨w.heap.size,#[.int .i64 E,.int .i64 F],23⟩]) _ _ rfl (by kernel_rfl) rfl rfl ?_ ?_ (hS).drew
 ·intro l9 t9 W9 i9 hD hi9 hl9 hM
  obtain ⟨o9,ho9,hd9⟩ := (mem_ready.1 hi9).2
  have hin9 : i9 < 5 := by
   by_cases h : i9 < 5
   ·exact h
   ·rw [Array.getElem?_eq_none (by rw [hD.len]; simp; omega)] at hl9; cases hl9
  have hcase : i9 = 0 ∨ i9 = 1 ∨ i9 = 2 ∨ i9 = 3 ∨ i9 = 4 := by omega
  clear hin9
  rcases hcase with rfl | rfl | rfl | rfl | rfl
  ·cases ho9
   have r11 := hD.old 11 _ rfl rfl
   have hM0 := hM
   have c9_0 := hM0.cellAt (b := w4.heap.size) (cs := #[.int .u64 q,.int .u64 r]) (t := 92) (by simp) 0 _ rfl
   have c9_1 := hM0.cellAt (b := w4.heap.size) (cs := #[.int .u64 q,.int .u64 r]) (t := 92) (by simp) 1 _ rfl
   clear hM0
   clear hD hd9 hi9
   refine wpOp_step rfl (fun K hK => ?_)
   go_simp
   exact hK _ _ ⟨rfl,hM⟩
  ·cases ho9
   have r3 := hD.old 3 _ rfl rfl
   have hM0 := hM
   have c9_0 := hM0.cellAt (b := w.heap.size) (cs := #[.int .i64 E,.int .i64 F]) (t := 23) (by simp) 0 _ rfl
   have c9_1 := hM0.cellAt (b := w.heap.size) (cs := #[.int .i64 E,.int .i64 F]) (t := 23) (by simp) 1 _ rfl
   clear hM0
   clear hD hd9 hi9
   refine wpOp_step rfl (fun K hK => ?_)
   go_simp
   exact hK _ _ ⟨rfl,hM⟩
  ·cases ho9
   have r9 := hD.old 9 _ rfl rfl
   clear hD hd9 hi9
   refine wpOp_step rfl (fun K hK => ?_)
   go_simp
   exact hK _ _ ⟨rfl,hM⟩
  ·cases ho9
   have r38 := hD.on 1 38 _ rfl (getD_true (hd9 ⟨1,.data⟩ (by simp) rfl))
   have r39 := hD.on 2 39 _ rfl (getD_true (hd9 ⟨2,.data⟩ (by simp) rfl))
   clear hD hd9 hi9
   refine wpOp_step rfl (fun K hK => ?_)
   go_simp
   go_wp2_with fail
   refine (HQ _).mono ?_
   rintro en w9 ⟨rfl,hb9⟩
   exact hK _ _ ⟨rfl,hM.kept hb9⟩
  ·cases ho9
   have r37 := hD.on 0 37 _ rfl (getD_true (hd9 ⟨0,.data⟩ (by simp) rfl))
   have r40 := hD.on 3 40 _ rfl (getD_true (hd9 ⟨3,.data⟩ (by simp) rfl))
   clear hD hd9 hi9
   refine wpOp_step rfl (fun K hK => ?_)
   go_simp
   exact hK _ _ ⟨act_eq (by simp),hM⟩
 ·intro l9 W9 hl9 hM
  clear hl9
  clear hS z5_0_0 z5_0_1 z5_1_0 z5_1_1
  have hS := hM
  clear hM
  simp only [Puts.lay,List.setIfInBounds_toArray,List.set_cons_zero,List.set_cons_succ]
  obtain ⟨⟨z6_0_0,z6_0_1,-⟩,⟨z6_1_0,z6_1_1,-⟩,-⟩ := hS.cells
  clear hEq
  go_wp2
  go_ret2
  exact ⟨rfl,hS.fr⟩
set_option maxRecDepth 20000 in
set_option maxHeartbeats 2000000 in
theorem beside_up (E F b : Int) (H0 : Tel 80 #[.agg #[.int .i64 E,.int .i64 F],.int .u64 b] (.int .i64 0)) (c : Int) (hc : (c == (5 : Int)) = false) (HC : Tel 37 #[.agg #[.int .i64 E,.int .i64 F],.int .u64 b] (.tuple #[.int .u8 c,.int .i64 0])) (en : Int) (HI : Tel 104 #[.agg #[.int .i64 E,.int .i64 F],.bool false] (.tuple #[.int .u64 en,.int .i64 0])) (q r : Int) (HP : Tel 61 #[.agg #[.int .i64 E,.int .i64 F],.int .u64 b] (.agg #[.int .u64 q,.int .u64 r])) (q' r' : Int) (HQ : Tel 61 #[.agg #[.int .i64 E,.int .i64 F],.int .u64 en] (.agg #[.int .u64 q',.int .u64 r'])) (hne : (q == q' && r == r') = false) (p v : Int) (hp : -9223372036854775000 ≤ p) (hp2 : p ≤ 9223372036854775000) (neg : Bool) (hneg : (q == (1 : Int)) = neg) (HL : Tel 62 #[.agg #[.int .u64 q,.int .u64 r]] (.int .i64 p)) (HA : Tel 105 #[.agg #[.int .i64 E,.int .i64 F],.int .i64 (p + 1),.bool neg] (.int .u64 v)) (w : World)  :
  Calls Tryz.prog 46 #[.agg #[.int .i64 E,.int .i64 F],.int .u64 b,.bool false] w fun e w' => e = .returned (.tuple #[.int .u64 v,.int .i64 0]) ∧ Below w.heap.size w w' := by
 go_enter Tryz.func46,Tryz.ntmps46
 go_wp2_with fail
 refine (check1_ok E F _ b H0 _ (by have := heap_alloc_new (w.alloc (.cells #[.int .i64 E,.int .i64 F] 23)) (.cells #[.int .u64 b] 24); simpa only [World.size_alloc] using this)).mono ?_
 rintro e w1 ⟨rfl,hb1⟩
 have hS : Fs w (w.alloc (.cells #[.int .i64 E,.int .i64 F] 23)) [⟨w.heap.size,#[.int .i64 E,.int .i64 F],23⟩] := Fs.one w _ _
 replace hS := ((hS.alloc #[.int .u64 b] 24).kept hb1).sub (fun x hx => List.mem_cons_of_mem _ hx)
 obtain ⟨⟨z1_0_0,z1_0_1,-⟩,-⟩ := hS.cells
 go_wp2_with fail
 refine (numbers1_yes E F c hc _ b HC _ (by have := heap_alloc_new w1 (.cells #[.int .u64 b] 24); simpa only [World.size_alloc] using this)).mono ?_
 rintro e w2 ⟨rfl,hb2⟩
 replace hS := ((hS.alloc #[.int .u64 b] 24).kept hb2).sub (fun x hx => List.mem_cons_of_mem _ hx)
 clear z1_0_0 z1_0_1
 obtain ⟨⟨z2_0_0,z2_0_1,-⟩,-⟩ := hS.cells
 go_wp2_with fail
 refine (HI _).mono ?_
 rintro e w3 ⟨rfl,hb3⟩
 replace hS := hS.kept hb3
 clear z2_0_0 z2_0_1
 obtain ⟨⟨z3_0_0,z3_0_1,-⟩,-⟩ := hS.cells
 go_wp2_with fail
 refine (HP _).mono ?_
 rintro e w4 ⟨rfl,hb4⟩
 replace hS := hS.kept hb4
 clear z3_0_0 z3_0_1
 obtain ⟨⟨z4_0_0,z4_0_1,-⟩,-⟩ := hS.cells
 have hltw4_0 : w.heap.size < w4.heap.size := block_lt (hS.bx ⟨w.heap.size,#[.int .i64 E,.int .i64 F],23⟩ (by simp))
 replace hS := hS.alloc #[.int .u64 q,.int .u64 r] 92
 clear z4_0_0 z4_0_1
 obtain ⟨⟨z5_0_0,z5_0_1,-⟩,⟨z5_1_0,z5_1_1,-⟩,-⟩ := hS.cells
 have hEq := eq_spot q r q' r'
 go_wp2_with fail
 refine wp_region_any (by kernel_rfl) ?_
 refine wpAny_det [some (37,.agg #[.int .u64 q,.int .u64 r]),some (38,.agg #[.int .i64 E,.int .i64 F]),some (39,.int .u64 en),some (40,.agg #[.int .u64 q',.int .u64 r']),some (41,.bool false)]
  (fun _ W9 => Fs w W9 [⟨w4.heap.size,#[.int .u64 q,.int .u64 r],92⟩,⟨w.heap.size,#[.int .i64 E,.int .i64 F],23⟩]) _ _ rfl (by kernel_rfl) rfl rfl ?_ ?_ (hS).drew
 ·intro l9 t9 W9 i9 hD hi9 hl9 hM
  obtain ⟨o9,ho9,hd9⟩ := (mem_ready.1 hi9).2
  have hin9 : i9 < 5 := by
   by_cases h : i9 < 5
   ·exact h
   ·rw [Array.getElem?_eq_none (by rw [hD.len]; simp; omega)] at hl9; cases hl9
  have hcase : i9 = 0 ∨ i9 = 1 ∨ i9 = 2 ∨ i9 = 3 ∨ i9 = 4 := by omega
  clear hin9
  rcases hcase with rfl | rfl | rfl | rfl | rfl
  ·cases ho9
   have r11 := hD.old 11 _ rfl rfl
   have hM0 := hM
   have c9_0 := hM0.cellAt (b := w4.heap.size) (cs := #[.int .u64 q,.int .u64 r]) (t := 92) (by simp) 0 _ rfl
   have c9_1 := hM0.cellAt (b := w4.heap.size) (cs := #[.int .u64 q,.int .u64 r]) (t := 92) (by simp) 1 _ rfl
   clear hM0
   clear hD hd9 hi9
   refine wpOp_step rfl (fun K hK => ?_)
   go_simp
   exact hK _ _ ⟨rfl,hM⟩
  ·cases ho9
   have r3 := hD.old 3 _ rfl rfl
   have hM0 := hM
   have c9_0 := hM0.cellAt (b := w.heap.size) (cs := #[.int .i64 E,.int .i64 F]) (t := 23) (by simp) 0 _ rfl
   have c9_1 := hM0.cellAt (b := w.heap.size) (cs := #[.int .i64 E,.int .i64 F]) (t := 23) (by simp) 1 _ rfl
   clear hM0
   clear hD hd9 hi9
   refine wpOp_step rfl (fun K hK => ?_)
   go_simp
   exact hK _ _ ⟨rfl,hM⟩
  ·cases ho9
   have r9 := hD.old 9 _ rfl rfl
   clear hD hd9 hi9
   refine wpOp_step rfl (fun K hK => ?_)
   go_simp
   exact hK _ _ ⟨rfl,hM⟩
  ·cases ho9
   have r38 := hD.on 1 38 _ rfl (getD_true (hd9 ⟨1,.data⟩ (by simp) rfl))
   have r39 := hD.on 2 39 _ rfl (getD_true (hd9 ⟨2,.data⟩ (by simp) rfl))
   clear hD hd9 hi9
   refine wpOp_step rfl (fun K hK => ?_)
   go_simp
   go_wp2_with fail
   refine (HQ _).mono ?_
   rintro en w9 ⟨rfl,hb9⟩
   exact hK _ _ ⟨rfl,hM.kept hb9⟩
  ·cases ho9
   have r37 := hD.on 0 37 _ rfl (getD_true (hd9 ⟨0,.data⟩ (by simp) rfl))
   have r40 := hD.on 3 40 _ rfl (getD_true (hd9 ⟨3,.data⟩ (by simp) rfl))
   clear hD hd9 hi9
   refine wpOp_step rfl (fun K hK => ?_)
   go_simp
   exact hK _ _ ⟨act_eq (by rfl),hM⟩
 ·intro l9 W9 hl9 hM
  clear hl9
  clear hS z5_0_0 z5_0_1 z5_1_0 z5_1_1
  have hS := hM
  clear hM
  simp only [Puts.lay,List.setIfInBounds_toArray,List.set_cons_zero,List.set_cons_succ]
  obtain ⟨⟨z6_0_0,z6_0_1,-⟩,⟨z6_1_0,z6_1_1,-⟩,-⟩ := hS.cells
  clear hEq
  go_wp2_with fail
  refine wp_region_any (by kernel_rfl) ?_
  refine wpAny_det [some (52,.agg #[.int .i64 E,.int .i64 F]),some (53,.agg #[.int .u64 q,.int .u64 r]),some (54,.int .i64 p),some (55,.int .i64 (p + 1)),some (56,.bool neg),some (57,.int .u64 v),some (6,.int .u64 v),some (7,.int .i64 0)]
   (fun _ W9 => Fs w W9 [⟨w4.heap.size,#[.int .u64 q,.int .u64 r],92⟩,⟨w.heap.size,#[.int .i64 E,.int .i64 F],23⟩]) _ _ rfl (by kernel_rfl) rfl rfl ?_ ?_ (hS).drew
  ·intro l9 t9 W9 i9 hD hi9 hl9 hM
   obtain ⟨o9,ho9,hd9⟩ := (mem_ready.1 hi9).2
   have hin9 : i9 < 8 := by
    by_cases h : i9 < 8
    ·exact h
    ·rw [Array.getElem?_eq_none (by rw [hD.len]; simp; omega)] at hl9; cases hl9
   have hcase : i9 = 0 ∨ i9 = 1 ∨ i9 = 2 ∨ i9 = 3 ∨ i9 = 4 ∨ i9 = 5 ∨ i9 = 6 ∨ i9 = 7 := by omega
   clear hin9
   rcases hcase with rfl | rfl | rfl | rfl | rfl | rfl | rfl | rfl
   ·cases ho9
    have r3 := hD.old 3 _ rfl rfl
    have hM0 := hM
    have c9_0 := hM0.cellAt (b := w.heap.size) (cs := #[.int .i64 E,.int .i64 F]) (t := 23) (by simp) 0 _ rfl
    have c9_1 := hM0.cellAt (b := w.heap.size) (cs := #[.int .i64 E,.int .i64 F]) (t := 23) (by simp) 1 _ rfl
    clear hM0
    clear hD hd9 hi9
    refine wpOp_step rfl (fun K hK => ?_)
    go_simp
    exact hK _ _ ⟨rfl,hM⟩
   ·cases ho9
    have r11 := hD.old 11 _ rfl rfl
    have hM0 := hM
    have c9_0 := hM0.cellAt (b := w4.heap.size) (cs := #[.int .u64 q,.int .u64 r]) (t := 92) (by simp) 0 _ rfl
    have c9_1 := hM0.cellAt (b := w4.heap.size) (cs := #[.int .u64 q,.int .u64 r]) (t := 92) (by simp) 1 _ rfl
    clear hM0
    clear hD hd9 hi9
    refine wpOp_step rfl (fun K hK => ?_)
    go_simp
    exact hK _ _ ⟨rfl,hM⟩
   ·cases ho9
    have r53 := hD.on 1 53 _ rfl (getD_true (hd9 ⟨1,.data⟩ (by simp) rfl))
    clear hD hd9 hi9
    refine wpOp_step rfl (fun K hK => ?_)
    go_simp
    go_wp2_with fail
    refine (HL _).mono ?_
    rintro en w9 ⟨rfl,hb9⟩
    exact hK _ _ ⟨rfl,hM.kept hb9⟩
   ·cases ho9
    have r54 := hD.on 2 54 _ rfl (getD_true (hd9 ⟨2,.data⟩ (by simp) rfl))
    clear hD hd9 hi9
    refine wpOp_step rfl (fun K hK => ?_)
    go_simp
    exact hK _ _ ⟨act_eq (by (show Value.int _ _ = Value.int _ _; congr 1; (first | rfl | omega | (rw [IntKind.wrap_i64]; omega) | (rw [IntKind.wrap_u64]; omega)))),hM⟩
   ·cases ho9
    have r12 := hD.old 12 _ rfl rfl
    clear hD hd9 hi9
    refine wpOp_step rfl (fun K hK => ?_)
    go_simp
    exact hK _ _ ⟨rfl,hM⟩
   ·cases ho9
    have r52 := hD.on 0 52 _ rfl (getD_true (hd9 ⟨0,.data⟩ (by simp) rfl))
    have r55 := hD.on 3 55 _ rfl (getD_true (hd9 ⟨3,.data⟩ (by simp) rfl))
    have r56 := hD.on 4 56 _ rfl (getD_true (hd9 ⟨4,.data⟩ (by simp) rfl))
    clear hD hd9 hi9
    refine wpOp_step rfl (fun K hK => ?_)
    go_simp
    go_wp2_with fail
    refine (HA _).mono ?_
    rintro en w9 ⟨rfl,hb9⟩
    exact hK _ _ ⟨rfl,hM.kept hb9⟩
   ·cases ho9
    have r57 := hD.on 5 57 _ rfl (getD_true (hd9 ⟨5,.data⟩ (by simp) rfl))
    clear hD hd9 hi9
    refine wpOp_step rfl (fun K hK => ?_)
    go_simp
    exact hK _ _ ⟨rfl,hM⟩
   ·cases ho9
    clear hD hd9 hi9
    refine wpOp_step rfl (fun K hK => ?_)
    go_simp
    exact hK _ _ ⟨rfl,hM⟩
  ·intro l9 W9 hl9 hM
   clear hl9
   clear hS z6_0_0 z6_0_1 z6_1_0 z6_1_1
   have hS := hM
   clear hM
   simp only [Puts.lay,List.setIfInBounds_toArray,List.set_cons_zero,List.set_cons_succ]
   obtain ⟨⟨z7_0_0,z7_0_1,-⟩,⟨z7_1_0,z7_1_1,-⟩,-⟩ := hS.cells
   go_wp2
   go_ret2
   exact ⟨rfl,hS.fr⟩
set_option maxRecDepth 20000 in
set_option maxHeartbeats 2000000 in
theorem beside_down (E F b : Int) (H0 : Tel 80 #[.agg #[.int .i64 E,.int .i64 F],.int .u64 b] (.int .i64 0)) (c : Int) (hc : (c == (5 : Int)) = false) (HC : Tel 37 #[.agg #[.int .i64 E,.int .i64 F],.int .u64 b] (.tuple #[.int .u8 c,.int .i64 0])) (en : Int) (HI : Tel 104 #[.agg #[.int .i64 E,.int .i64 F],.bool true] (.tuple #[.int .u64 en,.int .i64 0])) (q r : Int) (HP : Tel 61 #[.agg #[.int .i64 E,.int .i64 F],.int .u64 b] (.agg #[.int .u64 q,.int .u64 r])) (q' r' : Int) (HQ : Tel 61 #[.agg #[.int .i64 E,.int .i64 F],.int .u64 en] (.agg #[.int .u64 q',.int .u64 r'])) (hne : (q == q' && r == r') = false) (p v : Int) (hp : -9223372036854775000 ≤ p) (hp2 : p ≤ 9223372036854775000) (neg : Bool) (hneg : (q == (1 : Int)) = neg) (HL : Tel 62 #[.agg #[.int .u64 q,.int .u64 r]] (.int .i64 p)) (HA : Tel 105 #[.agg #[.int .i64 E,.int .i64 F],.int .i64 (p - 1),.bool neg] (.int .u64 v)) (w : World)  :
  Calls Tryz.prog 46 #[.agg #[.int .i64 E,.int .i64 F],.int .u64 b,.bool true] w fun e w' => e = .returned (.tuple #[.int .u64 v,.int .i64 0]) ∧ Below w.heap.size w w' := by
 go_enter Tryz.func46,Tryz.ntmps46
 go_wp2_with fail
 refine (check1_ok E F _ b H0 _ (by have := heap_alloc_new (w.alloc (.cells #[.int .i64 E,.int .i64 F] 23)) (.cells #[.int .u64 b] 24); simpa only [World.size_alloc] using this)).mono ?_
 rintro e w1 ⟨rfl,hb1⟩
 have hS : Fs w (w.alloc (.cells #[.int .i64 E,.int .i64 F] 23)) [⟨w.heap.size,#[.int .i64 E,.int .i64 F],23⟩] := Fs.one w _ _
 replace hS := ((hS.alloc #[.int .u64 b] 24).kept hb1).sub (fun x hx => List.mem_cons_of_mem _ hx)
 obtain ⟨⟨z1_0_0,z1_0_1,-⟩,-⟩ := hS.cells
 go_wp2_with fail
 refine (numbers1_yes E F c hc _ b HC _ (by have := heap_alloc_new w1 (.cells #[.int .u64 b] 24); simpa only [World.size_alloc] using this)).mono ?_
 rintro e w2 ⟨rfl,hb2⟩
 replace hS := ((hS.alloc #[.int .u64 b] 24).kept hb2).sub (fun x hx => List.mem_cons_of_mem _ hx)
 clear z1_0_0 z1_0_1
 obtain ⟨⟨z2_0_0,z2_0_1,-⟩,-⟩ := hS.cells
 go_wp2_with fail
 refine (HI _).mono ?_
 rintro e w3 ⟨rfl,hb3⟩
 replace hS := hS.kept hb3
 clear z2_0_0 z2_0_1
 obtain ⟨⟨z3_0_0,z3_0_1,-⟩,-⟩ := hS.cells
 go_wp2_with fail
 refine (HP _).mono ?_
 rintro e w4 ⟨rfl,hb4⟩
 replace hS := hS.kept hb4
 clear z3_0_0 z3_0_1
 obtain ⟨⟨z4_0_0,z4_0_1,-⟩,-⟩ := hS.cells
 have hltw4_0 : w.heap.size < w4.heap.size := block_lt (hS.bx ⟨w.heap.size,#[.int .i64 E,.int .i64 F],23⟩ (by simp))
 replace hS := hS.alloc #[.int .u64 q,.int .u64 r] 92
 clear z4_0_0 z4_0_1
 obtain ⟨⟨z5_0_0,z5_0_1,-⟩,⟨z5_1_0,z5_1_1,-⟩,-⟩ := hS.cells
 have hEq := eq_spot q r q' r'
 go_wp2_with fail
 refine wp_region_any (by kernel_rfl) ?_
 refine wpAny_det [some (37,.agg #[.int .u64 q,.int .u64 r]),some (38,.agg #[.int .i64 E,.int .i64 F]),some (39,.int .u64 en),some (40,.agg #[.int .u64 q',.int .u64 r']),some (41,.bool false)]
  (fun _ W9 => Fs w W9 [⟨w4.heap.size,#[.int .u64 q,.int .u64 r],92⟩,⟨w.heap.size,#[.int .i64 E,.int .i64 F],23⟩]) _ _ rfl (by kernel_rfl) rfl rfl ?_ ?_ (hS).drew
 ·intro l9 t9 W9 i9 hD hi9 hl9 hM
  obtain ⟨o9,ho9,hd9⟩ := (mem_ready.1 hi9).2
  have hin9 : i9 < 5 := by
   by_cases h : i9 < 5
   ·exact h
   ·rw [Array.getElem?_eq_none (by rw [hD.len]; simp; omega)] at hl9; cases hl9
  have hcase : i9 = 0 ∨ i9 = 1 ∨ i9 = 2 ∨ i9 = 3 ∨ i9 = 4 := by omega
  clear hin9
  rcases hcase with rfl | rfl | rfl | rfl | rfl
  ·cases ho9
   have r11 := hD.old 11 _ rfl rfl
   have hM0 := hM
   have c9_0 := hM0.cellAt (b := w4.heap.size) (cs := #[.int .u64 q,.int .u64 r]) (t := 92) (by simp) 0 _ rfl
   have c9_1 := hM0.cellAt (b := w4.heap.size) (cs := #[.int .u64 q,.int .u64 r]) (t := 92) (by simp) 1 _ rfl
   clear hM0
   clear hD hd9 hi9
   refine wpOp_step rfl (fun K hK => ?_)
   go_simp
   exact hK _ _ ⟨rfl,hM⟩
  ·cases ho9
   have r3 := hD.old 3 _ rfl rfl
   have hM0 := hM
   have c9_0 := hM0.cellAt (b := w.heap.size) (cs := #[.int .i64 E,.int .i64 F]) (t := 23) (by simp) 0 _ rfl
   have c9_1 := hM0.cellAt (b := w.heap.size) (cs := #[.int .i64 E,.int .i64 F]) (t := 23) (by simp) 1 _ rfl
   clear hM0
   clear hD hd9 hi9
   refine wpOp_step rfl (fun K hK => ?_)
   go_simp
   exact hK _ _ ⟨rfl,hM⟩
  ·cases ho9
   have r9 := hD.old 9 _ rfl rfl
   clear hD hd9 hi9
   refine wpOp_step rfl (fun K hK => ?_)
   go_simp
   exact hK _ _ ⟨rfl,hM⟩
  ·cases ho9
   have r38 := hD.on 1 38 _ rfl (getD_true (hd9 ⟨1,.data⟩ (by simp) rfl))
   have r39 := hD.on 2 39 _ rfl (getD_true (hd9 ⟨2,.data⟩ (by simp) rfl))
   clear hD hd9 hi9
   refine wpOp_step rfl (fun K hK => ?_)
   go_simp
   go_wp2_with fail
   refine (HQ _).mono ?_
   rintro en w9 ⟨rfl,hb9⟩
   exact hK _ _ ⟨rfl,hM.kept hb9⟩
  ·cases ho9
   have r37 := hD.on 0 37 _ rfl (getD_true (hd9 ⟨0,.data⟩ (by simp) rfl))
   have r40 := hD.on 3 40 _ rfl (getD_true (hd9 ⟨3,.data⟩ (by simp) rfl))
   clear hD hd9 hi9
   refine wpOp_step rfl (fun K hK => ?_)
   go_simp
   exact hK _ _ ⟨act_eq (by rfl),hM⟩
 ·intro l9 W9 hl9 hM
  clear hl9
  clear hS z5_0_0 z5_0_1 z5_1_0 z5_1_1
  have hS := hM
  clear hM
  simp only [Puts.lay,List.setIfInBounds_toArray,List.set_cons_zero,List.set_cons_succ]
  obtain ⟨⟨z6_0_0,z6_0_1,-⟩,⟨z6_1_0,z6_1_1,-⟩,-⟩ := hS.cells
  clear hEq
  go_wp2_with fail
  refine wp_region_any (by kernel_rfl) ?_
  refine wpAny_det [some (46,.agg #[.int .i64 E,.int .i64 F]),some (47,.agg #[.int .u64 q,.int .u64 r]),some (48,.int .i64 p),some (49,.int .i64 (p - 1)),some (50,.bool neg),some (51,.int .u64 v),some (6,.int .u64 v),some (7,.int .i64 0)]
   (fun _ W9 => Fs w W9 [⟨w4.heap.size,#[.int .u64 q,.int .u64 r],92⟩,⟨w.heap.size,#[.int .i64 E,.int .i64 F],23⟩]) _ _ rfl (by kernel_rfl) rfl rfl ?_ ?_ (hS).drew
  ·intro l9 t9 W9 i9 hD hi9 hl9 hM
   obtain ⟨o9,ho9,hd9⟩ := (mem_ready.1 hi9).2
   have hin9 : i9 < 8 := by
    by_cases h : i9 < 8
    ·exact h
    ·rw [Array.getElem?_eq_none (by rw [hD.len]; simp; omega)] at hl9; cases hl9
   have hcase : i9 = 0 ∨ i9 = 1 ∨ i9 = 2 ∨ i9 = 3 ∨ i9 = 4 ∨ i9 = 5 ∨ i9 = 6 ∨ i9 = 7 := by omega
   clear hin9
   rcases hcase with rfl | rfl | rfl | rfl | rfl | rfl | rfl | rfl
   ·cases ho9
    have r3 := hD.old 3 _ rfl rfl
    have hM0 := hM
    have c9_0 := hM0.cellAt (b := w.heap.size) (cs := #[.int .i64 E,.int .i64 F]) (t := 23) (by simp) 0 _ rfl
    have c9_1 := hM0.cellAt (b := w.heap.size) (cs := #[.int .i64 E,.int .i64 F]) (t := 23) (by simp) 1 _ rfl
    clear hM0
    clear hD hd9 hi9
    refine wpOp_step rfl (fun K hK => ?_)
    go_simp
    exact hK _ _ ⟨rfl,hM⟩
   ·cases ho9
    have r11 := hD.old 11 _ rfl rfl
    have hM0 := hM
    have c9_0 := hM0.cellAt (b := w4.heap.size) (cs := #[.int .u64 q,.int .u64 r]) (t := 92) (by simp) 0 _ rfl
    have c9_1 := hM0.cellAt (b := w4.heap.size) (cs := #[.int .u64 q,.int .u64 r]) (t := 92) (by simp) 1 _ rfl
    clear hM0
    clear hD hd9 hi9
    refine wpOp_step rfl (fun K hK => ?_)
    go_simp
    exact hK _ _ ⟨rfl,hM⟩
   ·cases ho9
    have r47 := hD.on 1 47 _ rfl (getD_true (hd9 ⟨1,.data⟩ (by simp) rfl))
    clear hD hd9 hi9
    refine wpOp_step rfl (fun K hK => ?_)
    go_simp
    go_wp2_with fail
    refine (HL _).mono ?_
    rintro en w9 ⟨rfl,hb9⟩
    exact hK _ _ ⟨rfl,hM.kept hb9⟩
   ·cases ho9
    have r48 := hD.on 2 48 _ rfl (getD_true (hd9 ⟨2,.data⟩ (by simp) rfl))
    clear hD hd9 hi9
    refine wpOp_step rfl (fun K hK => ?_)
    go_simp
    exact hK _ _ ⟨act_eq (by (show Value.int _ _ = Value.int _ _; congr 1; (first | rfl | omega | (rw [IntKind.wrap_i64]; omega) | (rw [IntKind.wrap_u64]; omega)))),hM⟩
   ·cases ho9
    have r12 := hD.old 12 _ rfl rfl
    clear hD hd9 hi9
    refine wpOp_step rfl (fun K hK => ?_)
    go_simp
    exact hK _ _ ⟨rfl,hM⟩
   ·cases ho9
    have r46 := hD.on 0 46 _ rfl (getD_true (hd9 ⟨0,.data⟩ (by simp) rfl))
    have r49 := hD.on 3 49 _ rfl (getD_true (hd9 ⟨3,.data⟩ (by simp) rfl))
    have r50 := hD.on 4 50 _ rfl (getD_true (hd9 ⟨4,.data⟩ (by simp) rfl))
    clear hD hd9 hi9
    refine wpOp_step rfl (fun K hK => ?_)
    go_simp
    go_wp2_with fail
    refine (HA _).mono ?_
    rintro en w9 ⟨rfl,hb9⟩
    exact hK _ _ ⟨rfl,hM.kept hb9⟩
   ·cases ho9
    have r51 := hD.on 5 51 _ rfl (getD_true (hd9 ⟨5,.data⟩ (by simp) rfl))
    clear hD hd9 hi9
    refine wpOp_step rfl (fun K hK => ?_)
    go_simp
    exact hK _ _ ⟨rfl,hM⟩
   ·cases ho9
    clear hD hd9 hi9
    refine wpOp_step rfl (fun K hK => ?_)
    go_simp
    exact hK _ _ ⟨rfl,hM⟩
  ·intro l9 W9 hl9 hM
   clear hl9
   clear hS z6_0_0 z6_0_1 z6_1_0 z6_1_1
   have hS := hM
   clear hM
   simp only [Puts.lay,List.setIfInBounds_toArray,List.set_cons_zero,List.set_cons_succ]
   obtain ⟨⟨z7_0_0,z7_0_1,-⟩,⟨z7_1_0,z7_1_1,-⟩,-⟩ := hS.cells
   go_wp2
   go_ret2
   exact ⟨rfl,hS.fr⟩
end Go.Proofs.YtkebhccbhoamjaaGreatDoor
namespace Go.Proofs.YtkebhccbhoamjaaGreatDoor
open Go.RowKit
set_option maxHeartbeats 400000 in
theorem Up_is (E F b x y : Int) (H : Tel 46 #[.agg #[.int .i64 E,.int .i64 F],.int .u64 b,.bool false] (.tuple #[.int .u64 x,.int .i64 y])) (w : World)  :
  Calls Tryz.prog 10 #[.agg #[.int .i64 E,.int .i64 F],.int .u64 b] w fun e w' => e = .returned (.tuple #[.int .u64 x,.int .i64 y]) ∧ Below w.heap.size w w' := by
 go_enter Tryz.func10,Tryz.ntmps10
 go_wp2_with fail
 refine (H _).mono ?_
 rintro e w1 ⟨rfl,hb1⟩
 have hS := (Fs.one w _ _).kept hb1
 obtain ⟨⟨z1_0_0,z1_0_1,-⟩,-⟩ := hS.cells
 go_wp2
 go_ret2
 exact ⟨rfl,hS.fr⟩
set_option maxHeartbeats 400000 in
theorem Down_is (E F b x y : Int) (H : Tel 46 #[.agg #[.int .i64 E,.int .i64 F],.int .u64 b,.bool true] (.tuple #[.int .u64 x,.int .i64 y])) (w : World)  :
  Calls Tryz.prog 12 #[.agg #[.int .i64 E,.int .i64 F],.int .u64 b] w fun e w' => e = .returned (.tuple #[.int .u64 x,.int .i64 y]) ∧ Below w.heap.size w w' := by
 go_enter Tryz.func12,Tryz.ntmps12
 go_wp2_with fail
 refine (H _).mono ?_
 rintro e w1 ⟨rfl,hb1⟩
 have hS := (Fs.one w _ _).kept hb1
 obtain ⟨⟨z1_0_0,z1_0_1,-⟩,-⟩ := hS.cells
 go_wp2
 go_ret2
 exact ⟨rfl,hS.fr⟩
set_option maxRecDepth 20000 in
set_option maxHeartbeats 2000000 in
theorem Steps_down (E F a b : Int) (c1 : Int) (h1 : (c1 == (5 : Int)) = false) (c2 : Int) (h2 : (c2 == (5 : Int)) = false) (H0 : Tel 80 #[.agg #[.int .i64 E,.int .i64 F],.int .u64 a] (.int .i64 0)) (H1 : Tel 80 #[.agg #[.int .i64 E,.int .i64 F],.int .u64 b] (.int .i64 0)) (HC : Tel 37 #[.agg #[.int .i64 E,.int .i64 F],.int .u64 a] (.tuple #[.int .u8 c1,.int .i64 0])) (HD : Tel 37 #[.agg #[.int .i64 E,.int .i64 F],.int .u64 b] (.tuple #[.int .u8 c2,.int .i64 0])) (qa ra qb rb x y : Int) (HP : Tel 61 #[.agg #[.int .i64 E,.int .i64 F],.int .u64 a] (.agg #[.int .u64 qa,.int .u64 ra])) (HQ : Tel 61 #[.agg #[.int .i64 E,.int .i64 F],.int .u64 b] (.agg #[.int .u64 qb,.int .u64 rb])) (HX : Tel 62 #[.agg #[.int .u64 qa,.int .u64 ra]] (.int .i64 x)) (HY : Tel 62 #[.agg #[.int .u64 qb,.int .u64 rb]] (.int .i64 y)) (h : y < x) (hx : -9223372036854775808 ≤ x) (hx2 : x < 9223372036854775808) (hy : -9223372036854775808 ≤ y) (hy2 : y < 9223372036854775808) (n : Int) (hn : n = x - y) (w : World)  :
  Calls Tryz.prog 22 #[.agg #[.int .i64 E,.int .i64 F],.int .u64 a,.int .u64 b] w fun e w' => e = .returned (.tuple #[.bool true,.int .u64 n,.int .i64 0]) ∧ Below w.heap.size w w' := by
 have e1 : IntKind.u64.wrap (IntKind.u64.wrap (x) - IntKind.u64.wrap (y)) = n := by rw [IntKind.wrap_u64,IntKind.wrap_u64,IntKind.wrap_u64]; omega
 clear hn hx hx2 hy hy2
 go_enter Tryz.func22,Tryz.ntmps22
 go_wp2_with fail
 refine (check2_ok E F _ a b H0 H1 _ (by have := heap_alloc_new (w.alloc (.cells #[.int .i64 E,.int .i64 F] 23)) (.cells #[.int .u64 a,.int .u64 b] 24); simpa only [World.size_alloc] using this)).mono ?_
 rintro e w1 ⟨rfl,hb1⟩
 have hS : Fs w (w.alloc (.cells #[.int .i64 E,.int .i64 F] 23)) [⟨w.heap.size,#[.int .i64 E,.int .i64 F],23⟩] := Fs.one w _ _
 replace hS := ((hS.alloc #[.int .u64 a,.int .u64 b] 24).kept hb1).sub (fun x hx => List.mem_cons_of_mem _ hx)
 obtain ⟨⟨z1_0_0,z1_0_1,-⟩,-⟩ := hS.cells
 go_wp2_with fail
 refine (numbers2_yes E F c1 h1 c2 h2 _ a b HC HD _ (by have := heap_alloc_new w1 (.cells #[.int .u64 a,.int .u64 b] 24); simpa only [World.size_alloc] using this)).mono ?_
 rintro e w2 ⟨rfl,hb2⟩
 replace hS := ((hS.alloc #[.int .u64 a,.int .u64 b] 24).kept hb2).sub (fun x hx => List.mem_cons_of_mem _ hx)
 clear z1_0_0 z1_0_1
 obtain ⟨⟨z2_0_0,z2_0_1,-⟩,-⟩ := hS.cells
 go_wp2_with fail
 refine wp_region_any (by kernel_rfl) ?_
 refine wpAny_det [some (26,.agg #[.int .i64 E,.int .i64 F]),some (27,.int .u64 a),some (28,.agg #[.int .u64 qa,.int .u64 ra]),some (29,.int .i64 x),some (30,.agg #[.int .i64 E,.int .i64 F]),some (31,.int .u64 b),some (32,.agg #[.int .u64 qb,.int .u64 rb]),some (33,.int .i64 y),some (10,.int .i64 x),some (11,.int .i64 y)]
  (fun _ W9 => Fs w W9 [⟨w.heap.size,#[.int .i64 E,.int .i64 F],23⟩]) _ _ rfl (by kernel_rfl) rfl rfl ?_ ?_ (hS).drew
 ·intro l9 t9 W9 i9 hD hi9 hl9 hM
  obtain ⟨o9,ho9,hd9⟩ := (mem_ready.1 hi9).2
  have hin9 : i9 < 10 := by
   by_cases h : i9 < 10
   ·exact h
   ·rw [Array.getElem?_eq_none (by rw [hD.len]; simp; omega)] at hl9; cases hl9
  have hcase : i9 = 0 ∨ i9 = 1 ∨ i9 = 2 ∨ i9 = 3 ∨ i9 = 4 ∨ i9 = 5 ∨ i9 = 6 ∨ i9 = 7 ∨ i9 = 8 ∨ i9 = 9 := by omega
  clear hin9
  rcases hcase with rfl | rfl | rfl | rfl | rfl | rfl | rfl | rfl | rfl | rfl
  ·cases ho9
   have r3 := hD.old 3 _ rfl rfl
   have hM0 := hM
   have c9_0 := hM0.cellAt (b := w.heap.size) (cs := #[.int .i64 E,.int .i64 F]) (t := 23) (by simp) 0 _ rfl
   have c9_1 := hM0.cellAt (b := w.heap.size) (cs := #[.int .i64 E,.int .i64 F]) (t := 23) (by simp) 1 _ rfl
   clear hM0
   clear hD hd9 hi9
   refine wpOp_step rfl (fun K hK => ?_)
   go_simp
   exact hK _ _ ⟨rfl,hM⟩
  ·cases ho9
   have r1 := hD.old 1 _ rfl rfl
   clear hD hd9 hi9
   refine wpOp_step rfl (fun K hK => ?_)
   go_simp
   exact hK _ _ ⟨rfl,hM⟩
  ·cases ho9
   have r26 := hD.on 0 26 _ rfl (getD_true (hd9 ⟨0,.data⟩ (by simp) rfl))
   have r27 := hD.on 1 27 _ rfl (getD_true (hd9 ⟨1,.data⟩ (by simp) rfl))
   clear hD hd9 hi9
   refine wpOp_step rfl (fun K hK => ?_)
   go_simp
   go_wp2_with fail
   refine (HP _).mono ?_
   rintro en w9 ⟨rfl,hb9⟩
   exact hK _ _ ⟨rfl,hM.kept hb9⟩
  ·cases ho9
   have r28 := hD.on 2 28 _ rfl (getD_true (hd9 ⟨2,.data⟩ (by simp) rfl))
   clear hD hd9 hi9
   refine wpOp_step rfl (fun K hK => ?_)
   go_simp
   go_wp2_with fail
   refine (HX _).mono ?_
   rintro en w9 ⟨rfl,hb9⟩
   exact hK _ _ ⟨rfl,hM.kept hb9⟩
  ·cases ho9
   have r3 := hD.old 3 _ rfl rfl
   have hM0 := hM
   have c9_0 := hM0.cellAt (b := w.heap.size) (cs := #[.int .i64 E,.int .i64 F]) (t := 23) (by simp) 0 _ rfl
   have c9_1 := hM0.cellAt (b := w.heap.size) (cs := #[.int .i64 E,.int .i64 F]) (t := 23) (by simp) 1 _ rfl
   clear hM0
   clear hD hd9 hi9
   refine wpOp_step rfl (fun K hK => ?_)
   go_simp
   exact hK _ _ ⟨rfl,hM⟩
  ·cases ho9
   have r2 := hD.old 2 _ rfl rfl
   clear hD hd9 hi9
   refine wpOp_step rfl (fun K hK => ?_)
   go_simp
   exact hK _ _ ⟨rfl,hM⟩
  ·cases ho9
   have r30 := hD.on 4 30 _ rfl (getD_true (hd9 ⟨4,.data⟩ (by simp) rfl))
   have r31 := hD.on 5 31 _ rfl (getD_true (hd9 ⟨5,.data⟩ (by simp) rfl))
   clear hD hd9 hi9
   refine wpOp_step rfl (fun K hK => ?_)
   go_simp
   go_wp2_with fail
   refine (HQ _).mono ?_
   rintro en w9 ⟨rfl,hb9⟩
   exact hK _ _ ⟨rfl,hM.kept hb9⟩
  ·cases ho9
   have r32 := hD.on 6 32 _ rfl (getD_true (hd9 ⟨6,.data⟩ (by simp) rfl))
   clear hD hd9 hi9
   refine wpOp_step rfl (fun K hK => ?_)
   go_simp
   go_wp2_with fail
   refine (HY _).mono ?_
   rintro en w9 ⟨rfl,hb9⟩
   exact hK _ _ ⟨rfl,hM.kept hb9⟩
  ·cases ho9
   have r29 := hD.on 3 29 _ rfl (getD_true (hd9 ⟨3,.data⟩ (by simp) rfl))
   clear hD hd9 hi9
   refine wpOp_step rfl (fun K hK => ?_)
   go_simp
   exact hK _ _ ⟨rfl,hM⟩
  ·cases ho9
   have r33 := hD.on 7 33 _ rfl (getD_true (hd9 ⟨7,.data⟩ (by simp) rfl))
   clear hD hd9 hi9
   refine wpOp_step rfl (fun K hK => ?_)
   go_simp
   exact hK _ _ ⟨rfl,hM⟩
 ·intro l9 W9 hl9 hM
  clear hl9
  clear hS z2_0_0 z2_0_1
  have hS := hM
  clear hM
  simp only [Puts.lay,List.setIfInBounds_toArray,List.set_cons_zero,List.set_cons_succ]
  obtain ⟨⟨z3_0_0,z3_0_1,-⟩,-⟩ := hS.cells
  go_wp2
  go_ret3
  exact ⟨rfl,hS.fr⟩
set_option maxRecDepth 20000 in
set_option maxHeartbeats 2000000 in
theorem Steps_up (E F a b : Int) (c1 : Int) (h1 : (c1 == (5 : Int)) = false) (c2 : Int) (h2 : (c2 == (5 : Int)) = false) (H0 : Tel 80 #[.agg #[.int .i64 E,.int .i64 F],.int .u64 a] (.int .i64 0)) (H1 : Tel 80 #[.agg #[.int .i64 E,.int .i64 F],.int .u64 b] (.int .i64 0)) (HC : Tel 37 #[.agg #[.int .i64 E,.int .i64 F],.int .u64 a] (.tuple #[.int .u8 c1,.int .i64 0])) (HD : Tel 37 #[.agg #[.int .i64 E,.int .i64 F],.int .u64 b] (.tuple #[.int .u8 c2,.int .i64 0])) (qa ra qb rb x y : Int) (HP : Tel 61 #[.agg #[.int .i64 E,.int .i64 F],.int .u64 a] (.agg #[.int .u64 qa,.int .u64 ra])) (HQ : Tel 61 #[.agg #[.int .i64 E,.int .i64 F],.int .u64 b] (.agg #[.int .u64 qb,.int .u64 rb])) (HX : Tel 62 #[.agg #[.int .u64 qa,.int .u64 ra]] (.int .i64 x)) (HY : Tel 62 #[.agg #[.int .u64 qb,.int .u64 rb]] (.int .i64 y)) (h : ¬ y < x) (hx : -9223372036854775808 ≤ x) (hx2 : x < 9223372036854775808) (hy : -9223372036854775808 ≤ y) (hy2 : y < 9223372036854775808) (n : Int) (hn : n = y - x) (w : World)  :
  Calls Tryz.prog 22 #[.agg #[.int .i64 E,.int .i64 F],.int .u64 a,.int .u64 b] w fun e w' => e = .returned (.tuple #[.bool false,.int .u64 n,.int .i64 0]) ∧ Below w.heap.size w w' := by
 have e1 : IntKind.u64.wrap (IntKind.u64.wrap (y) - IntKind.u64.wrap (x)) = n := by rw [IntKind.wrap_u64,IntKind.wrap_u64,IntKind.wrap_u64]; omega
 clear hn hx hx2 hy hy2
 go_enter Tryz.func22,Tryz.ntmps22
 go_wp2_with fail
 refine (check2_ok E F _ a b H0 H1 _ (by have := heap_alloc_new (w.alloc (.cells #[.int .i64 E,.int .i64 F] 23)) (.cells #[.int .u64 a,.int .u64 b] 24); simpa only [World.size_alloc] using this)).mono ?_
 rintro e w1 ⟨rfl,hb1⟩
 have hS : Fs w (w.alloc (.cells #[.int .i64 E,.int .i64 F] 23)) [⟨w.heap.size,#[.int .i64 E,.int .i64 F],23⟩] := Fs.one w _ _
 replace hS := ((hS.alloc #[.int .u64 a,.int .u64 b] 24).kept hb1).sub (fun x hx => List.mem_cons_of_mem _ hx)
 obtain ⟨⟨z1_0_0,z1_0_1,-⟩,-⟩ := hS.cells
 go_wp2_with fail
 refine (numbers2_yes E F c1 h1 c2 h2 _ a b HC HD _ (by have := heap_alloc_new w1 (.cells #[.int .u64 a,.int .u64 b] 24); simpa only [World.size_alloc] using this)).mono ?_
 rintro e w2 ⟨rfl,hb2⟩
 replace hS := ((hS.alloc #[.int .u64 a,.int .u64 b] 24).kept hb2).sub (fun x hx => List.mem_cons_of_mem _ hx)
 clear z1_0_0 z1_0_1
 obtain ⟨⟨z2_0_0,z2_0_1,-⟩,-⟩ := hS.cells
 go_wp2_with fail
 refine wp_region_any (by kernel_rfl) ?_
 refine wpAny_det [some (26,.agg #[.int .i64 E,.int .i64 F]),some (27,.int .u64 a),some (28,.agg #[.int .u64 qa,.int .u64 ra]),some (29,.int .i64 x),some (30,.agg #[.int .i64 E,.int .i64 F]),some (31,.int .u64 b),some (32,.agg #[.int .u64 qb,.int .u64 rb]),some (33,.int .i64 y),some (10,.int .i64 x),some (11,.int .i64 y)]
  (fun _ W9 => Fs w W9 [⟨w.heap.size,#[.int .i64 E,.int .i64 F],23⟩]) _ _ rfl (by kernel_rfl) rfl rfl ?_ ?_ (hS).drew
 ·intro l9 t9 W9 i9 hD hi9 hl9 hM
  obtain ⟨o9,ho9,hd9⟩ := (mem_ready.1 hi9).2
  have hin9 : i9 < 10 := by
   by_cases h : i9 < 10
   ·exact h
   ·rw [Array.getElem?_eq_none (by rw [hD.len]; simp; omega)] at hl9; cases hl9
  have hcase : i9 = 0 ∨ i9 = 1 ∨ i9 = 2 ∨ i9 = 3 ∨ i9 = 4 ∨ i9 = 5 ∨ i9 = 6 ∨ i9 = 7 ∨ i9 = 8 ∨ i9 = 9 := by omega
  clear hin9
  rcases hcase with rfl | rfl | rfl | rfl | rfl | rfl | rfl | rfl | rfl | rfl
  ·cases ho9
   have r3 := hD.old 3 _ rfl rfl
   have hM0 := hM
   have c9_0 := hM0.cellAt (b := w.heap.size) (cs := #[.int .i64 E,.int .i64 F]) (t := 23) (by simp) 0 _ rfl
   have c9_1 := hM0.cellAt (b := w.heap.size) (cs := #[.int .i64 E,.int .i64 F]) (t := 23) (by simp) 1 _ rfl
   clear hM0
   clear hD hd9 hi9
   refine wpOp_step rfl (fun K hK => ?_)
   go_simp
   exact hK _ _ ⟨rfl,hM⟩
  ·cases ho9
   have r1 := hD.old 1 _ rfl rfl
   clear hD hd9 hi9
   refine wpOp_step rfl (fun K hK => ?_)
   go_simp
   exact hK _ _ ⟨rfl,hM⟩
  ·cases ho9
   have r26 := hD.on 0 26 _ rfl (getD_true (hd9 ⟨0,.data⟩ (by simp) rfl))
   have r27 := hD.on 1 27 _ rfl (getD_true (hd9 ⟨1,.data⟩ (by simp) rfl))
   clear hD hd9 hi9
   refine wpOp_step rfl (fun K hK => ?_)
   go_simp
   go_wp2_with fail
   refine (HP _).mono ?_
   rintro en w9 ⟨rfl,hb9⟩
   exact hK _ _ ⟨rfl,hM.kept hb9⟩
  ·cases ho9
   have r28 := hD.on 2 28 _ rfl (getD_true (hd9 ⟨2,.data⟩ (by simp) rfl))
   clear hD hd9 hi9
   refine wpOp_step rfl (fun K hK => ?_)
   go_simp
   go_wp2_with fail
   refine (HX _).mono ?_
   rintro en w9 ⟨rfl,hb9⟩
   exact hK _ _ ⟨rfl,hM.kept hb9⟩
  ·cases ho9
   have r3 := hD.old 3 _ rfl rfl
   have hM0 := hM
   have c9_0 := hM0.cellAt (b := w.heap.size) (cs := #[.int .i64 E,.int .i64 F]) (t := 23) (by simp) 0 _ rfl
   have c9_1 := hM0.cellAt (b := w.heap.size) (cs := #[.int .i64 E,.int .i64 F]) (t := 23) (by simp) 1 _ rfl
   clear hM0
   clear hD hd9 hi9
   refine wpOp_step rfl (fun K hK => ?_)
   go_simp
   exact hK _ _ ⟨rfl,hM⟩
  ·cases ho9
   have r2 := hD.old 2 _ rfl rfl
   clear hD hd9 hi9
   refine wpOp_step rfl (fun K hK => ?_)
   go_simp
   exact hK _ _ ⟨rfl,hM⟩
  ·cases ho9
   have r30 := hD.on 4 30 _ rfl (getD_true (hd9 ⟨4,.data⟩ (by simp) rfl))
   have r31 := hD.on 5 31 _ rfl (getD_true (hd9 ⟨5,.data⟩ (by simp) rfl))
   clear hD hd9 hi9
   refine wpOp_step rfl (fun K hK => ?_)
   go_simp
   go_wp2_with fail
   refine (HQ _).mono ?_
   rintro en w9 ⟨rfl,hb9⟩
   exact hK _ _ ⟨rfl,hM.kept hb9⟩
  ·cases ho9
   have r32 := hD.on 6 32 _ rfl (getD_true (hd9 ⟨6,.data⟩ (by simp) rfl))
   clear hD hd9 hi9
   refine wpOp_step rfl (fun K hK => ?_)
   go_simp
   go_wp2_with fail
   refine (HY _).mono ?_
   rintro en w9 ⟨rfl,hb9⟩
   exact hK _ _ ⟨rfl,hM.kept hb9⟩
  ·cases ho9
   have r29 := hD.on 3 29 _ rfl (getD_true (hd9 ⟨3,.data⟩ (by simp) rfl))
   clear hD hd9 hi9
   refine wpOp_step rfl (fun K hK => ?_)
   go_simp
   exact hK _ _ ⟨rfl,hM⟩
  ·cases ho9
   have r33 := hD.on 7 33 _ rfl (getD_true (hd9 ⟨7,.data⟩ (by simp) rfl))
   clear hD hd9 hi9
   refine wpOp_step rfl (fun K hK => ?_)
   go_simp
   exact hK _ _ ⟨rfl,hM⟩
 ·intro l9 W9 hl9 hM
  clear hl9
  clear hS z2_0_0 z2_0_1
  have hS := hM
  clear hM
  simp only [Puts.lay,List.setIfInBounds_toArray,List.set_cons_zero,List.set_cons_succ]
  obtain ⟨⟨z3_0_0,z3_0_1,-⟩,-⟩ := hS.cells
  go_wp2
  go_ret3
  exact ⟨by show Ending.returned (.tuple #[.bool (decide (y < x)),_,_]) = _; rw [decide_eq_false (show ¬ y < x by omega)]; rfl,hS.fr⟩
end Go.Proofs.YtkebhccbhoamjaaGreatDoor
