/- Of what NearStepsRow stands on: NrStepZ NrStepD NrStepU. -/
import Derived.Test.YtdfmanglfdeooaaGreatDoorPaf
namespace Go.Proofs.YtdfmanglfdeooaaGreatDoor
open Go.RowKit
set_option maxRecDepth 20000 in
set_option maxHeartbeats 4000000 in
theorem steps_Z_ok_2 (E F a b c : Int) (o : Int) (H1 : Tel 6 #[.agg #[.int .i64 E,.int .i64 F],.int .u64 a,.int .u64 b] (.tuple #[.bool false,.int .u64 0,.int .i64 0])) (H2 : Tel 6 #[.agg #[.int .i64 E,.int .i64 F],.int .u64 b,.int .u64 a] (.tuple #[.bool false,.int .u64 0,.int .i64 0])) (HK : Tel 9 #[.agg #[.int .i64 E,.int .i64 F],.int .u64 a,.int .u64 b] (.tuple #[.int .i64 0,.bool true,.int .i64 0])) (HO : Tel 10 #[.agg #[.int .i64 E,.int .i64 F],.int .u64 a,.int .u64 b] (.tuple #[.int .i64 o,.int .i64 0])) (u v : Int) (d1 : Bool) (HU : Tel 7 #[.agg #[.int .i64 E,.int .i64 F],.int .u64 a] (.tuple #[.int .u64 u,.int .i64 0])) (HD : Tel 8 #[.agg #[.int .i64 E,.int .i64 F],.int .u64 u] (.tuple #[.int .u64 v,.int .i64 0])) (HA : Tel 6 #[.agg #[.int .i64 E,.int .i64 F],.int .u64 a,.int .u64 u] (.tuple #[.bool false,.int .u64 1,.int .i64 0])) (HB : Tel 6 #[.agg #[.int .i64 E,.int .i64 F],.int .u64 a,.int .u64 v] (.tuple #[.bool d1,.int .u64 0,.int .i64 0])) (d2 d3 : Bool) (k l e3 : Int) (HF : Tel 6 #[.agg #[.int .i64 E,.int .i64 F],.int .u64 b,.int .u64 c] (.tuple #[.bool d2,.int .u64 k,.int .i64 2])) (HG : Tel 6 #[.agg #[.int .i64 E,.int .i64 F],.int .u64 a,.int .u64 c] (.tuple #[.bool d3,.int .u64 l,.int .i64 e3])) (w : World) (HW : Hid (∀ W : World,Below w.heap.size w W → Calls Tryz.prog 5 #[] W fun e w' => e = .returned (.bool true) ∧ Below W.heap.size W w')) :
  Calls Tryz.prog 3 #[.agg #[.int .i64 E,.int .i64 F],.int .u64 a,.int .u64 b,.int .u64 c] w fun e w' => e = .returned (.bool true) ∧ Below w.heap.size w w' := by
 go_enter Tryz.func3,Tryz.ntmps3
 go_wp2_with fail
 refine (unhide HW _ (Fs.one w _ _).fr).mono ?_
 rintro e w1 ⟨rfl,hb1⟩
 have hS := (Fs.one w _ _).kept hb1
 obtain ⟨⟨z1_0_0,z1_0_1,-⟩,-⟩ := hS.cells
 go_wp2_with fail
 refine (H1 _).mono ?_
 rintro e w2 ⟨rfl,hb2⟩
 replace hS := hS.kept hb2
 clear z1_0_0 z1_0_1
 obtain ⟨⟨z2_0_0,z2_0_1,-⟩,-⟩ := hS.cells
 go_wp2_with fail
 refine (H2 _).mono ?_
 rintro e w3 ⟨rfl,hb3⟩
 replace hS := hS.kept hb3
 clear z2_0_0 z2_0_1
 obtain ⟨⟨z3_0_0,z3_0_1,-⟩,-⟩ := hS.cells
 go_wp2_with fail
 refine (HU _).mono ?_
 rintro e w4 ⟨rfl,hb4⟩
 replace hS := hS.kept hb4
 clear z3_0_0 z3_0_1
 obtain ⟨⟨z4_0_0,z4_0_1,-⟩,-⟩ := hS.cells
 go_wp2_with fail
 refine (HD _).mono ?_
 rintro e w5 ⟨rfl,hb5⟩
 replace hS := hS.kept hb5
 clear z4_0_0 z4_0_1
 obtain ⟨⟨z5_0_0,z5_0_1,-⟩,-⟩ := hS.cells
 go_wp2_with fail
 refine (HA _).mono ?_
 rintro e w6 ⟨rfl,hb6⟩
 replace hS := hS.kept hb6
 clear z5_0_0 z5_0_1
 obtain ⟨⟨z6_0_0,z6_0_1,-⟩,-⟩ := hS.cells
 go_wp2_with fail
 refine (HB _).mono ?_
 rintro e w7 ⟨rfl,hb7⟩
 replace hS := hS.kept hb7
 clear z6_0_0 z6_0_1
 obtain ⟨⟨z7_0_0,z7_0_1,-⟩,-⟩ := hS.cells
 go_wp2_with fail
 refine (HK _).mono ?_
 rintro e w8 ⟨rfl,hb8⟩
 replace hS := hS.kept hb8
 clear z7_0_0 z7_0_1
 obtain ⟨⟨z8_0_0,z8_0_1,-⟩,-⟩ := hS.cells
 go_wp2_with fail
 refine (HO _).mono ?_
 rintro e w9 ⟨rfl,hb9⟩
 replace hS := hS.kept hb9
 clear z8_0_0 z8_0_1
 obtain ⟨⟨z9_0_0,z9_0_1,-⟩,-⟩ := hS.cells
 go_wp2_with fail
 refine (HF _).mono ?_
 rintro e w10 ⟨rfl,hb10⟩
 replace hS := hS.kept hb10
 clear z9_0_0 z9_0_1
 obtain ⟨⟨z10_0_0,z10_0_1,-⟩,-⟩ := hS.cells
 go_wp2_with fail
 refine (HG _).mono ?_
 rintro e w11 ⟨rfl,hb11⟩
 replace hS := hS.kept hb11
 clear z10_0_0 z10_0_1
 obtain ⟨⟨z11_0_0,z11_0_1,-⟩,-⟩ := hS.cells
 go_wp2
 go_ret
 exact ⟨rfl,hS.fr⟩
set_option maxRecDepth 20000 in
set_option maxHeartbeats 4000000 in
theorem steps_Z_ok_6 (E F a b c : Int) (o : Int) (H1 : Tel 6 #[.agg #[.int .i64 E,.int .i64 F],.int .u64 a,.int .u64 b] (.tuple #[.bool false,.int .u64 0,.int .i64 0])) (H2 : Tel 6 #[.agg #[.int .i64 E,.int .i64 F],.int .u64 b,.int .u64 a] (.tuple #[.bool false,.int .u64 0,.int .i64 0])) (HK : Tel 9 #[.agg #[.int .i64 E,.int .i64 F],.int .u64 a,.int .u64 b] (.tuple #[.int .i64 0,.bool true,.int .i64 0])) (HO : Tel 10 #[.agg #[.int .i64 E,.int .i64 F],.int .u64 a,.int .u64 b] (.tuple #[.int .i64 o,.int .i64 0])) (u v : Int) (d1 : Bool) (HU : Tel 7 #[.agg #[.int .i64 E,.int .i64 F],.int .u64 a] (.tuple #[.int .u64 u,.int .i64 0])) (HD : Tel 8 #[.agg #[.int .i64 E,.int .i64 F],.int .u64 u] (.tuple #[.int .u64 v,.int .i64 0])) (HA : Tel 6 #[.agg #[.int .i64 E,.int .i64 F],.int .u64 a,.int .u64 u] (.tuple #[.bool false,.int .u64 1,.int .i64 0])) (HB : Tel 6 #[.agg #[.int .i64 E,.int .i64 F],.int .u64 a,.int .u64 v] (.tuple #[.bool d1,.int .u64 0,.int .i64 0])) (d2 d3 : Bool) (k l e3 : Int) (HF : Tel 6 #[.agg #[.int .i64 E,.int .i64 F],.int .u64 b,.int .u64 c] (.tuple #[.bool d2,.int .u64 k,.int .i64 6])) (HG : Tel 6 #[.agg #[.int .i64 E,.int .i64 F],.int .u64 a,.int .u64 c] (.tuple #[.bool d3,.int .u64 l,.int .i64 e3])) (w : World) (HW : Hid (∀ W : World,Below w.heap.size w W → Calls Tryz.prog 5 #[] W fun e w' => e = .returned (.bool true) ∧ Below W.heap.size W w')) :
  Calls Tryz.prog 3 #[.agg #[.int .i64 E,.int .i64 F],.int .u64 a,.int .u64 b,.int .u64 c] w fun e w' => e = .returned (.bool true) ∧ Below w.heap.size w w' := by
 go_enter Tryz.func3,Tryz.ntmps3
 go_wp2_with fail
 refine (unhide HW _ (Fs.one w _ _).fr).mono ?_
 rintro e w1 ⟨rfl,hb1⟩
 have hS := (Fs.one w _ _).kept hb1
 obtain ⟨⟨z1_0_0,z1_0_1,-⟩,-⟩ := hS.cells
 go_wp2_with fail
 refine (H1 _).mono ?_
 rintro e w2 ⟨rfl,hb2⟩
 replace hS := hS.kept hb2
 clear z1_0_0 z1_0_1
 obtain ⟨⟨z2_0_0,z2_0_1,-⟩,-⟩ := hS.cells
 go_wp2_with fail
 refine (H2 _).mono ?_
 rintro e w3 ⟨rfl,hb3⟩
 replace hS := hS.kept hb3
 clear z2_0_0 z2_0_1
 obtain ⟨⟨z3_0_0,z3_0_1,-⟩,-⟩ := hS.cells
 go_wp2_with fail
 refine (HU _).mono ?_
 rintro e w4 ⟨rfl,hb4⟩
 replace hS := hS.kept hb4
 clear z3_0_0 z3_0_1
 obtain ⟨⟨z4_0_0,z4_0_1,-⟩,-⟩ := hS.cells
 go_wp2_with fail
 refine (HD _).mono ?_
 rintro e w5 ⟨rfl,hb5⟩
 replace hS := hS.kept hb5
 clear z4_0_0 z4_0_1
 obtain ⟨⟨z5_0_0,z5_0_1,-⟩,-⟩ := hS.cells
 go_wp2_with fail
 refine (HA _).mono ?_
 rintro e w6 ⟨rfl,hb6⟩
 replace hS := hS.kept hb6
 clear z5_0_0 z5_0_1
 obtain ⟨⟨z6_0_0,z6_0_1,-⟩,-⟩ := hS.cells
 go_wp2_with fail
 refine (HB _).mono ?_
 rintro e w7 ⟨rfl,hb7⟩
 replace hS := hS.kept hb7
 clear z6_0_0 z6_0_1
 obtain ⟨⟨z7_0_0,z7_0_1,-⟩,-⟩ := hS.cells
 go_wp2_with fail
 refine (HK _).mono ?_
 rintro e w8 ⟨rfl,hb8⟩
 replace hS := hS.kept hb8
 clear z7_0_0 z7_0_1
 obtain ⟨⟨z8_0_0,z8_0_1,-⟩,-⟩ := hS.cells
 go_wp2_with fail
 refine (HO _).mono ?_
 rintro e w9 ⟨rfl,hb9⟩
 replace hS := hS.kept hb9
 clear z8_0_0 z8_0_1
 obtain ⟨⟨z9_0_0,z9_0_1,-⟩,-⟩ := hS.cells
 go_wp2_with fail
 refine (HF _).mono ?_
 rintro e w10 ⟨rfl,hb10⟩
 replace hS := hS.kept hb10
 clear z9_0_0 z9_0_1
 obtain ⟨⟨z10_0_0,z10_0_1,-⟩,-⟩ := hS.cells
 go_wp2_with fail
 refine (HG _).mono ?_
 rintro e w11 ⟨rfl,hb11⟩
 replace hS := hS.kept hb11
 clear z10_0_0 z10_0_1
 obtain ⟨⟨z11_0_0,z11_0_1,-⟩,-⟩ := hS.cells
 go_wp2
 go_ret
 exact ⟨rfl,hS.fr⟩
set_option maxRecDepth 20000 in
set_option maxHeartbeats 4000000 in
theorem steps_Z_ok_ff (E F a b c : Int) (o : Int) (H1 : Tel 6 #[.agg #[.int .i64 E,.int .i64 F],.int .u64 a,.int .u64 b] (.tuple #[.bool false,.int .u64 0,.int .i64 0])) (H2 : Tel 6 #[.agg #[.int .i64 E,.int .i64 F],.int .u64 b,.int .u64 a] (.tuple #[.bool false,.int .u64 0,.int .i64 0])) (HK : Tel 9 #[.agg #[.int .i64 E,.int .i64 F],.int .u64 a,.int .u64 b] (.tuple #[.int .i64 0,.bool true,.int .i64 0])) (HO : Tel 10 #[.agg #[.int .i64 E,.int .i64 F],.int .u64 a,.int .u64 b] (.tuple #[.int .i64 o,.int .i64 0])) (u v : Int) (d1 : Bool) (HU : Tel 7 #[.agg #[.int .i64 E,.int .i64 F],.int .u64 a] (.tuple #[.int .u64 u,.int .i64 0])) (HD : Tel 8 #[.agg #[.int .i64 E,.int .i64 F],.int .u64 u] (.tuple #[.int .u64 v,.int .i64 0])) (HA : Tel 6 #[.agg #[.int .i64 E,.int .i64 F],.int .u64 a,.int .u64 u] (.tuple #[.bool false,.int .u64 1,.int .i64 0])) (HB : Tel 6 #[.agg #[.int .i64 E,.int .i64 F],.int .u64 a,.int .u64 v] (.tuple #[.bool d1,.int .u64 0,.int .i64 0])) (k l : Int) (hf : IntKind.u64.wrap (k) = l) (HF : Tel 6 #[.agg #[.int .i64 E,.int .i64 F],.int .u64 b,.int .u64 c] (.tuple #[.bool false,.int .u64 k,.int .i64 0])) (HG : Tel 6 #[.agg #[.int .i64 E,.int .i64 F],.int .u64 a,.int .u64 c] (.tuple #[.bool false,.int .u64 l,.int .i64 0])) (w : World) (HW : Hid (∀ W : World,Below w.heap.size w W → Calls Tryz.prog 5 #[] W fun e w' => e = .returned (.bool true) ∧ Below W.heap.size W w')) :
  Calls Tryz.prog 3 #[.agg #[.int .i64 E,.int .i64 F],.int .u64 a,.int .u64 b,.int .u64 c] w fun e w' => e = .returned (.bool true) ∧ Below w.heap.size w w' := by
 go_enter Tryz.func3,Tryz.ntmps3
 go_wp2_with fail
 refine (unhide HW _ (Fs.one w _ _).fr).mono ?_
 rintro e w1 ⟨rfl,hb1⟩
 have hS := (Fs.one w _ _).kept hb1
 obtain ⟨⟨z1_0_0,z1_0_1,-⟩,-⟩ := hS.cells
 go_wp2_with fail
 refine (H1 _).mono ?_
 rintro e w2 ⟨rfl,hb2⟩
 replace hS := hS.kept hb2
 clear z1_0_0 z1_0_1
 obtain ⟨⟨z2_0_0,z2_0_1,-⟩,-⟩ := hS.cells
 go_wp2_with fail
 refine (H2 _).mono ?_
 rintro e w3 ⟨rfl,hb3⟩
 replace hS := hS.kept hb3
 clear z2_0_0 z2_0_1
 obtain ⟨⟨z3_0_0,z3_0_1,-⟩,-⟩ := hS.cells
 go_wp2_with fail
 refine (HU _).mono ?_
 rintro e w4 ⟨rfl,hb4⟩
 replace hS := hS.kept hb4
 clear z3_0_0 z3_0_1
 obtain ⟨⟨z4_0_0,z4_0_1,-⟩,-⟩ := hS.cells
 go_wp2_with fail
 refine (HD _).mono ?_
 rintro e w5 ⟨rfl,hb5⟩
 replace hS := hS.kept hb5
 clear z4_0_0 z4_0_1
 obtain ⟨⟨z5_0_0,z5_0_1,-⟩,-⟩ := hS.cells
 go_wp2_with fail
 refine (HA _).mono ?_
 rintro e w6 ⟨rfl,hb6⟩
 replace hS := hS.kept hb6
 clear z5_0_0 z5_0_1
 obtain ⟨⟨z6_0_0,z6_0_1,-⟩,-⟩ := hS.cells
 go_wp2_with fail
 refine (HB _).mono ?_
 rintro e w7 ⟨rfl,hb7⟩
 replace hS := hS.kept hb7
 clear z6_0_0 z6_0_1
 obtain ⟨⟨z7_0_0,z7_0_1,-⟩,-⟩ := hS.cells
 go_wp2_with fail
 refine (HK _).mono ?_
 rintro e w8 ⟨rfl,hb8⟩
 replace hS := hS.kept hb8
 clear z7_0_0 z7_0_1
 obtain ⟨⟨z8_0_0,z8_0_1,-⟩,-⟩ := hS.cells
 go_wp2_with fail
 refine (HO _).mono ?_
 rintro e w9 ⟨rfl,hb9⟩
 replace hS := hS.kept hb9
 clear z8_0_0 z8_0_1
 obtain ⟨⟨z9_0_0,z9_0_1,-⟩,-⟩ := hS.cells
 go_wp2_with fail
 refine (HF _).mono ?_
 rintro e w10 ⟨rfl,hb10⟩
 replace hS := hS.kept hb10
 clear z9_0_0 z9_0_1
 obtain ⟨⟨z10_0_0,z10_0_1,-⟩,-⟩ := hS.cells
 go_wp2_with fail
 refine (HG _).mono ?_
 rintro e w11 ⟨rfl,hb11⟩
 replace hS := hS.kept hb11
 clear z10_0_0 z10_0_1
 obtain ⟨⟨z11_0_0,z11_0_1,-⟩,-⟩ := hS.cells
 go_wp2
 go_ret
 exact ⟨rfl,hS.fr⟩
set_option maxRecDepth 20000 in
set_option maxHeartbeats 4000000 in
theorem steps_Z_ok_ft (E F a b c : Int) (o : Int) (H1 : Tel 6 #[.agg #[.int .i64 E,.int .i64 F],.int .u64 a,.int .u64 b] (.tuple #[.bool false,.int .u64 0,.int .i64 0])) (H2 : Tel 6 #[.agg #[.int .i64 E,.int .i64 F],.int .u64 b,.int .u64 a] (.tuple #[.bool false,.int .u64 0,.int .i64 0])) (HK : Tel 9 #[.agg #[.int .i64 E,.int .i64 F],.int .u64 a,.int .u64 b] (.tuple #[.int .i64 0,.bool true,.int .i64 0])) (HO : Tel 10 #[.agg #[.int .i64 E,.int .i64 F],.int .u64 a,.int .u64 b] (.tuple #[.int .i64 o,.int .i64 0])) (u v : Int) (d1 : Bool) (HU : Tel 7 #[.agg #[.int .i64 E,.int .i64 F],.int .u64 a] (.tuple #[.int .u64 u,.int .i64 0])) (HD : Tel 8 #[.agg #[.int .i64 E,.int .i64 F],.int .u64 u] (.tuple #[.int .u64 v,.int .i64 0])) (HA : Tel 6 #[.agg #[.int .i64 E,.int .i64 F],.int .u64 a,.int .u64 u] (.tuple #[.bool false,.int .u64 1,.int .i64 0])) (HB : Tel 6 #[.agg #[.int .i64 E,.int .i64 F],.int .u64 a,.int .u64 v] (.tuple #[.bool d1,.int .u64 0,.int .i64 0])) (k l z' : Int) (hz : IntKind.u64.wrap (-l) = z') (hf : IntKind.u64.wrap (k) = z') (HF : Tel 6 #[.agg #[.int .i64 E,.int .i64 F],.int .u64 b,.int .u64 c] (.tuple #[.bool false,.int .u64 k,.int .i64 0])) (HG : Tel 6 #[.agg #[.int .i64 E,.int .i64 F],.int .u64 a,.int .u64 c] (.tuple #[.bool true,.int .u64 l,.int .i64 0])) (w : World) (HW : Hid (∀ W : World,Below w.heap.size w W → Calls Tryz.prog 5 #[] W fun e w' => e = .returned (.bool true) ∧ Below W.heap.size W w')) :
  Calls Tryz.prog 3 #[.agg #[.int .i64 E,.int .i64 F],.int .u64 a,.int .u64 b,.int .u64 c] w fun e w' => e = .returned (.bool true) ∧ Below w.heap.size w w' := by
 go_enter Tryz.func3,Tryz.ntmps3
 go_wp2_with fail
 refine (unhide HW _ (Fs.one w _ _).fr).mono ?_
 rintro e w1 ⟨rfl,hb1⟩
 have hS := (Fs.one w _ _).kept hb1
 obtain ⟨⟨z1_0_0,z1_0_1,-⟩,-⟩ := hS.cells
 go_wp2_with fail
 refine (H1 _).mono ?_
 rintro e w2 ⟨rfl,hb2⟩
 replace hS := hS.kept hb2
 clear z1_0_0 z1_0_1
 obtain ⟨⟨z2_0_0,z2_0_1,-⟩,-⟩ := hS.cells
 go_wp2_with fail
 refine (H2 _).mono ?_
 rintro e w3 ⟨rfl,hb3⟩
 replace hS := hS.kept hb3
 clear z2_0_0 z2_0_1
 obtain ⟨⟨z3_0_0,z3_0_1,-⟩,-⟩ := hS.cells
 go_wp2_with fail
 refine (HU _).mono ?_
 rintro e w4 ⟨rfl,hb4⟩
 replace hS := hS.kept hb4
 clear z3_0_0 z3_0_1
 obtain ⟨⟨z4_0_0,z4_0_1,-⟩,-⟩ := hS.cells
 go_wp2_with fail
 refine (HD _).mono ?_
 rintro e w5 ⟨rfl,hb5⟩
 replace hS := hS.kept hb5
 clear z4_0_0 z4_0_1
 obtain ⟨⟨z5_0_0,z5_0_1,-⟩,-⟩ := hS.cells
 go_wp2_with fail
 refine (HA _).mono ?_
 rintro e w6 ⟨rfl,hb6⟩
 replace hS := hS.kept hb6
 clear z5_0_0 z5_0_1
 obtain ⟨⟨z6_0_0,z6_0_1,-⟩,-⟩ := hS.cells
 go_wp2_with fail
 refine (HB _).mono ?_
 rintro e w7 ⟨rfl,hb7⟩
 replace hS := hS.kept hb7
 clear z6_0_0 z6_0_1
 obtain ⟨⟨z7_0_0,z7_0_1,-⟩,-⟩ := hS.cells
 go_wp2_with fail
 refine (HK _).mono ?_
 rintro e w8 ⟨rfl,hb8⟩
 replace hS := hS.kept hb8
 clear z7_0_0 z7_0_1
 obtain ⟨⟨z8_0_0,z8_0_1,-⟩,-⟩ := hS.cells
 go_wp2_with fail
 refine (HO _).mono ?_
 rintro e w9 ⟨rfl,hb9⟩
 replace hS := hS.kept hb9
 clear z8_0_0 z8_0_1
 obtain ⟨⟨z9_0_0,z9_0_1,-⟩,-⟩ := hS.cells
 go_wp2_with fail
 refine (HF _).mono ?_
 rintro e w10 ⟨rfl,hb10⟩
 replace hS := hS.kept hb10
 clear z9_0_0 z9_0_1
 obtain ⟨⟨z10_0_0,z10_0_1,-⟩,-⟩ := hS.cells
 go_wp2_with fail
 refine (HG _).mono ?_
 rintro e w11 ⟨rfl,hb11⟩
 replace hS := hS.kept hb11
 clear z10_0_0 z10_0_1
 obtain ⟨⟨z11_0_0,z11_0_1,-⟩,-⟩ := hS.cells
 go_wp2
 go_ret
 exact ⟨rfl,hS.fr⟩
set_option maxRecDepth 20000 in
set_option maxHeartbeats 4000000 in
theorem steps_Z_ok_tf (E F a b c : Int) (o : Int) (H1 : Tel 6 #[.agg #[.int .i64 E,.int .i64 F],.int .u64 a,.int .u64 b] (.tuple #[.bool false,.int .u64 0,.int .i64 0])) (H2 : Tel 6 #[.agg #[.int .i64 E,.int .i64 F],.int .u64 b,.int .u64 a] (.tuple #[.bool false,.int .u64 0,.int .i64 0])) (HK : Tel 9 #[.agg #[.int .i64 E,.int .i64 F],.int .u64 a,.int .u64 b] (.tuple #[.int .i64 0,.bool true,.int .i64 0])) (HO : Tel 10 #[.agg #[.int .i64 E,.int .i64 F],.int .u64 a,.int .u64 b] (.tuple #[.int .i64 o,.int .i64 0])) (u v : Int) (d1 : Bool) (HU : Tel 7 #[.agg #[.int .i64 E,.int .i64 F],.int .u64 a] (.tuple #[.int .u64 u,.int .i64 0])) (HD : Tel 8 #[.agg #[.int .i64 E,.int .i64 F],.int .u64 u] (.tuple #[.int .u64 v,.int .i64 0])) (HA : Tel 6 #[.agg #[.int .i64 E,.int .i64 F],.int .u64 a,.int .u64 u] (.tuple #[.bool false,.int .u64 1,.int .i64 0])) (HB : Tel 6 #[.agg #[.int .i64 E,.int .i64 F],.int .u64 a,.int .u64 v] (.tuple #[.bool d1,.int .u64 0,.int .i64 0])) (k l y' : Int) (hy : IntKind.u64.wrap (-k) = y') (hf : IntKind.u64.wrap (y') = l) (HF : Tel 6 #[.agg #[.int .i64 E,.int .i64 F],.int .u64 b,.int .u64 c] (.tuple #[.bool true,.int .u64 k,.int .i64 0])) (HG : Tel 6 #[.agg #[.int .i64 E,.int .i64 F],.int .u64 a,.int .u64 c] (.tuple #[.bool false,.int .u64 l,.int .i64 0])) (w : World) (HW : Hid (∀ W : World,Below w.heap.size w W → Calls Tryz.prog 5 #[] W fun e w' => e = .returned (.bool true) ∧ Below W.heap.size W w')) :
  Calls Tryz.prog 3 #[.agg #[.int .i64 E,.int .i64 F],.int .u64 a,.int .u64 b,.int .u64 c] w fun e w' => e = .returned (.bool true) ∧ Below w.heap.size w w' := by
 go_enter Tryz.func3,Tryz.ntmps3
 go_wp2_with fail
 refine (unhide HW _ (Fs.one w _ _).fr).mono ?_
 rintro e w1 ⟨rfl,hb1⟩
 have hS := (Fs.one w _ _).kept hb1
 obtain ⟨⟨z1_0_0,z1_0_1,-⟩,-⟩ := hS.cells
 go_wp2_with fail
 refine (H1 _).mono ?_
 rintro e w2 ⟨rfl,hb2⟩
 replace hS := hS.kept hb2
 clear z1_0_0 z1_0_1
 obtain ⟨⟨z2_0_0,z2_0_1,-⟩,-⟩ := hS.cells
 go_wp2_with fail
 refine (H2 _).mono ?_
 rintro e w3 ⟨rfl,hb3⟩
 replace hS := hS.kept hb3
 clear z2_0_0 z2_0_1
 obtain ⟨⟨z3_0_0,z3_0_1,-⟩,-⟩ := hS.cells
 go_wp2_with fail
 refine (HU _).mono ?_
 rintro e w4 ⟨rfl,hb4⟩
 replace hS := hS.kept hb4
 clear z3_0_0 z3_0_1
 obtain ⟨⟨z4_0_0,z4_0_1,-⟩,-⟩ := hS.cells
 go_wp2_with fail
 refine (HD _).mono ?_
 rintro e w5 ⟨rfl,hb5⟩
 replace hS := hS.kept hb5
 clear z4_0_0 z4_0_1
 obtain ⟨⟨z5_0_0,z5_0_1,-⟩,-⟩ := hS.cells
 go_wp2_with fail
 refine (HA _).mono ?_
 rintro e w6 ⟨rfl,hb6⟩
 replace hS := hS.kept hb6
 clear z5_0_0 z5_0_1
 obtain ⟨⟨z6_0_0,z6_0_1,-⟩,-⟩ := hS.cells
 go_wp2_with fail
 refine (HB _).mono ?_
 rintro e w7 ⟨rfl,hb7⟩
 replace hS := hS.kept hb7
 clear z6_0_0 z6_0_1
 obtain ⟨⟨z7_0_0,z7_0_1,-⟩,-⟩ := hS.cells
 go_wp2_with fail
 refine (HK _).mono ?_
 rintro e w8 ⟨rfl,hb8⟩
 replace hS := hS.kept hb8
 clear z7_0_0 z7_0_1
 obtain ⟨⟨z8_0_0,z8_0_1,-⟩,-⟩ := hS.cells
 go_wp2_with fail
 refine (HO _).mono ?_
 rintro e w9 ⟨rfl,hb9⟩
 replace hS := hS.kept hb9
 clear z8_0_0 z8_0_1
 obtain ⟨⟨z9_0_0,z9_0_1,-⟩,-⟩ := hS.cells
 go_wp2_with fail
 refine (HF _).mono ?_
 rintro e w10 ⟨rfl,hb10⟩
 replace hS := hS.kept hb10
 clear z9_0_0 z9_0_1
 obtain ⟨⟨z10_0_0,z10_0_1,-⟩,-⟩ := hS.cells
 go_wp2_with fail
 refine (HG _).mono ?_
 rintro e w11 ⟨rfl,hb11⟩
 replace hS := hS.kept hb11
 clear z10_0_0 z10_0_1
 obtain ⟨⟨z11_0_0,z11_0_1,-⟩,-⟩ := hS.cells
 go_wp2
 go_ret
 exact ⟨rfl,hS.fr⟩
set_option maxRecDepth 20000 in
set_option maxHeartbeats 4000000 in
theorem steps_Z_ok_tt (E F a b c : Int) (o : Int) (H1 : Tel 6 #[.agg #[.int .i64 E,.int .i64 F],.int .u64 a,.int .u64 b] (.tuple #[.bool false,.int .u64 0,.int .i64 0])) (H2 : Tel 6 #[.agg #[.int .i64 E,.int .i64 F],.int .u64 b,.int .u64 a] (.tuple #[.bool false,.int .u64 0,.int .i64 0])) (HK : Tel 9 #[.agg #[.int .i64 E,.int .i64 F],.int .u64 a,.int .u64 b] (.tuple #[.int .i64 0,.bool true,.int .i64 0])) (HO : Tel 10 #[.agg #[.int .i64 E,.int .i64 F],.int .u64 a,.int .u64 b] (.tuple #[.int .i64 o,.int .i64 0])) (u v : Int) (d1 : Bool) (HU : Tel 7 #[.agg #[.int .i64 E,.int .i64 F],.int .u64 a] (.tuple #[.int .u64 u,.int .i64 0])) (HD : Tel 8 #[.agg #[.int .i64 E,.int .i64 F],.int .u64 u] (.tuple #[.int .u64 v,.int .i64 0])) (HA : Tel 6 #[.agg #[.int .i64 E,.int .i64 F],.int .u64 a,.int .u64 u] (.tuple #[.bool false,.int .u64 1,.int .i64 0])) (HB : Tel 6 #[.agg #[.int .i64 E,.int .i64 F],.int .u64 a,.int .u64 v] (.tuple #[.bool d1,.int .u64 0,.int .i64 0])) (k l y' z' : Int) (hy : IntKind.u64.wrap (-k) = y') (hz : IntKind.u64.wrap (-l) = z') (hf : IntKind.u64.wrap (y') = z') (HF : Tel 6 #[.agg #[.int .i64 E,.int .i64 F],.int .u64 b,.int .u64 c] (.tuple #[.bool true,.int .u64 k,.int .i64 0])) (HG : Tel 6 #[.agg #[.int .i64 E,.int .i64 F],.int .u64 a,.int .u64 c] (.tuple #[.bool true,.int .u64 l,.int .i64 0])) (w : World) (HW : Hid (∀ W : World,Below w.heap.size w W → Calls Tryz.prog 5 #[] W fun e w' => e = .returned (.bool true) ∧ Below W.heap.size W w')) :
  Calls Tryz.prog 3 #[.agg #[.int .i64 E,.int .i64 F],.int .u64 a,.int .u64 b,.int .u64 c] w fun e w' => e = .returned (.bool true) ∧ Below w.heap.size w w' := by
 go_enter Tryz.func3,Tryz.ntmps3
 go_wp2_with fail
 refine (unhide HW _ (Fs.one w _ _).fr).mono ?_
 rintro e w1 ⟨rfl,hb1⟩
 have hS := (Fs.one w _ _).kept hb1
 obtain ⟨⟨z1_0_0,z1_0_1,-⟩,-⟩ := hS.cells
 go_wp2_with fail
 refine (H1 _).mono ?_
 rintro e w2 ⟨rfl,hb2⟩
 replace hS := hS.kept hb2
 clear z1_0_0 z1_0_1
 obtain ⟨⟨z2_0_0,z2_0_1,-⟩,-⟩ := hS.cells
 go_wp2_with fail
 refine (H2 _).mono ?_
 rintro e w3 ⟨rfl,hb3⟩
 replace hS := hS.kept hb3
 clear z2_0_0 z2_0_1
 obtain ⟨⟨z3_0_0,z3_0_1,-⟩,-⟩ := hS.cells
 go_wp2_with fail
 refine (HU _).mono ?_
 rintro e w4 ⟨rfl,hb4⟩
 replace hS := hS.kept hb4
 clear z3_0_0 z3_0_1
 obtain ⟨⟨z4_0_0,z4_0_1,-⟩,-⟩ := hS.cells
 go_wp2_with fail
 refine (HD _).mono ?_
 rintro e w5 ⟨rfl,hb5⟩
 replace hS := hS.kept hb5
 clear z4_0_0 z4_0_1
 obtain ⟨⟨z5_0_0,z5_0_1,-⟩,-⟩ := hS.cells
 go_wp2_with fail
 refine (HA _).mono ?_
 rintro e w6 ⟨rfl,hb6⟩
 replace hS := hS.kept hb6
 clear z5_0_0 z5_0_1
 obtain ⟨⟨z6_0_0,z6_0_1,-⟩,-⟩ := hS.cells
 go_wp2_with fail
 refine (HB _).mono ?_
 rintro e w7 ⟨rfl,hb7⟩
 replace hS := hS.kept hb7
 clear z6_0_0 z6_0_1
 obtain ⟨⟨z7_0_0,z7_0_1,-⟩,-⟩ := hS.cells
 go_wp2_with fail
 refine (HK _).mono ?_
 rintro e w8 ⟨rfl,hb8⟩
 replace hS := hS.kept hb8
 clear z7_0_0 z7_0_1
 obtain ⟨⟨z8_0_0,z8_0_1,-⟩,-⟩ := hS.cells
 go_wp2_with fail
 refine (HO _).mono ?_
 rintro e w9 ⟨rfl,hb9⟩
 replace hS := hS.kept hb9
 clear z8_0_0 z8_0_1
 obtain ⟨⟨z9_0_0,z9_0_1,-⟩,-⟩ := hS.cells
 go_wp2_with fail
 refine (HF _).mono ?_
 rintro e w10 ⟨rfl,hb10⟩
 replace hS := hS.kept hb10
 clear z9_0_0 z9_0_1
 obtain ⟨⟨z10_0_0,z10_0_1,-⟩,-⟩ := hS.cells
 go_wp2_with fail
 refine (HG _).mono ?_
 rintro e w11 ⟨rfl,hb11⟩
 replace hS := hS.kept hb11
 clear z10_0_0 z10_0_1
 obtain ⟨⟨z11_0_0,z11_0_1,-⟩,-⟩ := hS.cells
 go_wp2
 go_ret
 exact ⟨rfl,hS.fr⟩
set_option maxRecDepth 20000 in
set_option maxHeartbeats 4000000 in
theorem steps_Z_end_2 (E F a b c : Int) (o : Int) (H1 : Tel 6 #[.agg #[.int .i64 E,.int .i64 F],.int .u64 a,.int .u64 b] (.tuple #[.bool false,.int .u64 0,.int .i64 0])) (H2 : Tel 6 #[.agg #[.int .i64 E,.int .i64 F],.int .u64 b,.int .u64 a] (.tuple #[.bool false,.int .u64 0,.int .i64 0])) (HK : Tel 9 #[.agg #[.int .i64 E,.int .i64 F],.int .u64 a,.int .u64 b] (.tuple #[.int .i64 0,.bool true,.int .i64 0])) (HO : Tel 10 #[.agg #[.int .i64 E,.int .i64 F],.int .u64 a,.int .u64 b] (.tuple #[.int .i64 o,.int .i64 0])) (u eu : Int) (heu : (eu == (0 : Int)) = false) (HU : Tel 7 #[.agg #[.int .i64 E,.int .i64 F],.int .u64 a] (.tuple #[.int .u64 u,.int .i64 eu])) (d2 d3 : Bool) (k l e3 : Int) (HF : Tel 6 #[.agg #[.int .i64 E,.int .i64 F],.int .u64 b,.int .u64 c] (.tuple #[.bool d2,.int .u64 k,.int .i64 2])) (HG : Tel 6 #[.agg #[.int .i64 E,.int .i64 F],.int .u64 a,.int .u64 c] (.tuple #[.bool d3,.int .u64 l,.int .i64 e3])) (w : World) (HW : Hid (∀ W : World,Below w.heap.size w W → Calls Tryz.prog 5 #[] W fun e w' => e = .returned (.bool true) ∧ Below W.heap.size W w')) :
  Calls Tryz.prog 3 #[.agg #[.int .i64 E,.int .i64 F],.int .u64 a,.int .u64 b,.int .u64 c] w fun e w' => e = .returned (.bool true) ∧ Below w.heap.size w w' := by
 go_enter Tryz.func3,Tryz.ntmps3
 go_wp2_with fail
 refine (unhide HW _ (Fs.one w _ _).fr).mono ?_
 rintro e w1 ⟨rfl,hb1⟩
 have hS := (Fs.one w _ _).kept hb1
 obtain ⟨⟨z1_0_0,z1_0_1,-⟩,-⟩ := hS.cells
 go_wp2_with fail
 refine (H1 _).mono ?_
 rintro e w2 ⟨rfl,hb2⟩
 replace hS := hS.kept hb2
 clear z1_0_0 z1_0_1
 obtain ⟨⟨z2_0_0,z2_0_1,-⟩,-⟩ := hS.cells
 go_wp2_with fail
 refine (H2 _).mono ?_
 rintro e w3 ⟨rfl,hb3⟩
 replace hS := hS.kept hb3
 clear z2_0_0 z2_0_1
 obtain ⟨⟨z3_0_0,z3_0_1,-⟩,-⟩ := hS.cells
 go_wp2_with fail
 refine (HU _).mono ?_
 rintro e w4 ⟨rfl,hb4⟩
 replace hS := hS.kept hb4
 clear z3_0_0 z3_0_1
 obtain ⟨⟨z4_0_0,z4_0_1,-⟩,-⟩ := hS.cells
 go_wp2_with fail
 refine (HK _).mono ?_
 rintro e w5 ⟨rfl,hb5⟩
 replace hS := hS.kept hb5
 clear z4_0_0 z4_0_1
 obtain ⟨⟨z5_0_0,z5_0_1,-⟩,-⟩ := hS.cells
 go_wp2_with fail
 refine (HO _).mono ?_
 rintro e w6 ⟨rfl,hb6⟩
 replace hS := hS.kept hb6
 clear z5_0_0 z5_0_1
 obtain ⟨⟨z6_0_0,z6_0_1,-⟩,-⟩ := hS.cells
 go_wp2_with fail
 refine (HF _).mono ?_
 rintro e w7 ⟨rfl,hb7⟩
 replace hS := hS.kept hb7
 clear z6_0_0 z6_0_1
 obtain ⟨⟨z7_0_0,z7_0_1,-⟩,-⟩ := hS.cells
 go_wp2_with fail
 refine (HG _).mono ?_
 rintro e w8 ⟨rfl,hb8⟩
 replace hS := hS.kept hb8
 clear z7_0_0 z7_0_1
 obtain ⟨⟨z8_0_0,z8_0_1,-⟩,-⟩ := hS.cells
 go_wp2
 go_ret
 exact ⟨rfl,hS.fr⟩
set_option maxRecDepth 20000 in
set_option maxHeartbeats 4000000 in
theorem steps_Z_end_6 (E F a b c : Int) (o : Int) (H1 : Tel 6 #[.agg #[.int .i64 E,.int .i64 F],.int .u64 a,.int .u64 b] (.tuple #[.bool false,.int .u64 0,.int .i64 0])) (H2 : Tel 6 #[.agg #[.int .i64 E,.int .i64 F],.int .u64 b,.int .u64 a] (.tuple #[.bool false,.int .u64 0,.int .i64 0])) (HK : Tel 9 #[.agg #[.int .i64 E,.int .i64 F],.int .u64 a,.int .u64 b] (.tuple #[.int .i64 0,.bool true,.int .i64 0])) (HO : Tel 10 #[.agg #[.int .i64 E,.int .i64 F],.int .u64 a,.int .u64 b] (.tuple #[.int .i64 o,.int .i64 0])) (u eu : Int) (heu : (eu == (0 : Int)) = false) (HU : Tel 7 #[.agg #[.int .i64 E,.int .i64 F],.int .u64 a] (.tuple #[.int .u64 u,.int .i64 eu])) (d2 d3 : Bool) (k l e3 : Int) (HF : Tel 6 #[.agg #[.int .i64 E,.int .i64 F],.int .u64 b,.int .u64 c] (.tuple #[.bool d2,.int .u64 k,.int .i64 6])) (HG : Tel 6 #[.agg #[.int .i64 E,.int .i64 F],.int .u64 a,.int .u64 c] (.tuple #[.bool d3,.int .u64 l,.int .i64 e3])) (w : World) (HW : Hid (∀ W : World,Below w.heap.size w W → Calls Tryz.prog 5 #[] W fun e w' => e = .returned (.bool true) ∧ Below W.heap.size W w')) :
  Calls Tryz.prog 3 #[.agg #[.int .i64 E,.int .i64 F],.int .u64 a,.int .u64 b,.int .u64 c] w fun e w' => e = .returned (.bool true) ∧ Below w.heap.size w w' := by
 go_enter Tryz.func3,Tryz.ntmps3
 go_wp2_with fail
 refine (unhide HW _ (Fs.one w _ _).fr).mono ?_
 rintro e w1 ⟨rfl,hb1⟩
 have hS := (Fs.one w _ _).kept hb1
 obtain ⟨⟨z1_0_0,z1_0_1,-⟩,-⟩ := hS.cells
 go_wp2_with fail
 refine (H1 _).mono ?_
 rintro e w2 ⟨rfl,hb2⟩
 replace hS := hS.kept hb2
 clear z1_0_0 z1_0_1
 obtain ⟨⟨z2_0_0,z2_0_1,-⟩,-⟩ := hS.cells
 go_wp2_with fail
 refine (H2 _).mono ?_
 rintro e w3 ⟨rfl,hb3⟩
 replace hS := hS.kept hb3
 clear z2_0_0 z2_0_1
 obtain ⟨⟨z3_0_0,z3_0_1,-⟩,-⟩ := hS.cells
 go_wp2_with fail
 refine (HU _).mono ?_
 rintro e w4 ⟨rfl,hb4⟩
 replace hS := hS.kept hb4
 clear z3_0_0 z3_0_1
 obtain ⟨⟨z4_0_0,z4_0_1,-⟩,-⟩ := hS.cells
 go_wp2_with fail
 refine (HK _).mono ?_
 rintro e w5 ⟨rfl,hb5⟩
 replace hS := hS.kept hb5
 clear z4_0_0 z4_0_1
 obtain ⟨⟨z5_0_0,z5_0_1,-⟩,-⟩ := hS.cells
 go_wp2_with fail
 refine (HO _).mono ?_
 rintro e w6 ⟨rfl,hb6⟩
 replace hS := hS.kept hb6
 clear z5_0_0 z5_0_1
 obtain ⟨⟨z6_0_0,z6_0_1,-⟩,-⟩ := hS.cells
 go_wp2_with fail
 refine (HF _).mono ?_
 rintro e w7 ⟨rfl,hb7⟩
 replace hS := hS.kept hb7
 clear z6_0_0 z6_0_1
 obtain ⟨⟨z7_0_0,z7_0_1,-⟩,-⟩ := hS.cells
 go_wp2_with fail
 refine (HG _).mono ?_
 rintro e w8 ⟨rfl,hb8⟩
 replace hS := hS.kept hb8
 clear z7_0_0 z7_0_1
 obtain ⟨⟨z8_0_0,z8_0_1,-⟩,-⟩ := hS.cells
 go_wp2
 go_ret
 exact ⟨rfl,hS.fr⟩
set_option maxRecDepth 20000 in
set_option maxHeartbeats 4000000 in
theorem steps_Z_end_ff (E F a b c : Int) (o : Int) (H1 : Tel 6 #[.agg #[.int .i64 E,.int .i64 F],.int .u64 a,.int .u64 b] (.tuple #[.bool false,.int .u64 0,.int .i64 0])) (H2 : Tel 6 #[.agg #[.int .i64 E,.int .i64 F],.int .u64 b,.int .u64 a] (.tuple #[.bool false,.int .u64 0,.int .i64 0])) (HK : Tel 9 #[.agg #[.int .i64 E,.int .i64 F],.int .u64 a,.int .u64 b] (.tuple #[.int .i64 0,.bool true,.int .i64 0])) (HO : Tel 10 #[.agg #[.int .i64 E,.int .i64 F],.int .u64 a,.int .u64 b] (.tuple #[.int .i64 o,.int .i64 0])) (u eu : Int) (heu : (eu == (0 : Int)) = false) (HU : Tel 7 #[.agg #[.int .i64 E,.int .i64 F],.int .u64 a] (.tuple #[.int .u64 u,.int .i64 eu])) (k l : Int) (hf : IntKind.u64.wrap (k) = l) (HF : Tel 6 #[.agg #[.int .i64 E,.int .i64 F],.int .u64 b,.int .u64 c] (.tuple #[.bool false,.int .u64 k,.int .i64 0])) (HG : Tel 6 #[.agg #[.int .i64 E,.int .i64 F],.int .u64 a,.int .u64 c] (.tuple #[.bool false,.int .u64 l,.int .i64 0])) (w : World) (HW : Hid (∀ W : World,Below w.heap.size w W → Calls Tryz.prog 5 #[] W fun e w' => e = .returned (.bool true) ∧ Below W.heap.size W w')) :
  Calls Tryz.prog 3 #[.agg #[.int .i64 E,.int .i64 F],.int .u64 a,.int .u64 b,.int .u64 c] w fun e w' => e = .returned (.bool true) ∧ Below w.heap.size w w' := by
 go_enter Tryz.func3,Tryz.ntmps3
 go_wp2_with fail
 refine (unhide HW _ (Fs.one w _ _).fr).mono ?_
 rintro e w1 ⟨rfl,hb1⟩
 have hS := (Fs.one w _ _).kept hb1
 obtain ⟨⟨z1_0_0,z1_0_1,-⟩,-⟩ := hS.cells
 go_wp2_with fail
 refine (H1 _).mono ?_
 rintro e w2 ⟨rfl,hb2⟩
 replace hS := hS.kept hb2
 clear z1_0_0 z1_0_1
 obtain ⟨⟨z2_0_0,z2_0_1,-⟩,-⟩ := hS.cells
 go_wp2_with fail
 refine (H2 _).mono ?_
 rintro e w3 ⟨rfl,hb3⟩
 replace hS := hS.kept hb3
 clear z2_0_0 z2_0_1
 obtain ⟨⟨z3_0_0,z3_0_1,-⟩,-⟩ := hS.cells
 go_wp2_with fail
 refine (HU _).mono ?_
 rintro e w4 ⟨rfl,hb4⟩
 replace hS := hS.kept hb4
 clear z3_0_0 z3_0_1
 obtain ⟨⟨z4_0_0,z4_0_1,-⟩,-⟩ := hS.cells
 go_wp2_with fail
 refine (HK _).mono ?_
 rintro e w5 ⟨rfl,hb5⟩
 replace hS := hS.kept hb5
 clear z4_0_0 z4_0_1
 obtain ⟨⟨z5_0_0,z5_0_1,-⟩,-⟩ := hS.cells
 go_wp2_with fail
 refine (HO _).mono ?_
 rintro e w6 ⟨rfl,hb6⟩
 replace hS := hS.kept hb6
 clear z5_0_0 z5_0_1
 obtain ⟨⟨z6_0_0,z6_0_1,-⟩,-⟩ := hS.cells
 go_wp2_with fail
 refine (HF _).mono ?_
 rintro e w7 ⟨rfl,hb7⟩
 replace hS := hS.kept hb7
 clear z6_0_0 z6_0_1
 obtain ⟨⟨z7_0_0,z7_0_1,-⟩,-⟩ := hS.cells
 go_wp2_with fail
 refine (HG _).mono ?_
 rintro e w8 ⟨rfl,hb8⟩
 replace hS := hS.kept hb8
 clear z7_0_0 z7_0_1
 obtain ⟨⟨z8_0_0,z8_0_1,-⟩,-⟩ := hS.cells
 go_wp2
 go_ret
 exact ⟨rfl,hS.fr⟩
set_option maxRecDepth 20000 in
set_option maxHeartbeats 4000000 in
theorem steps_Z_end_ft (E F a b c : Int) (o : Int) (H1 : Tel 6 #[.agg #[.int .i64 E,.int .i64 F],.int .u64 a,.int .u64 b] (.tuple #[.bool false,.int .u64 0,.int .i64 0])) (H2 : Tel 6 #[.agg #[.int .i64 E,.int .i64 F],.int .u64 b,.int .u64 a] (.tuple #[.bool false,.int .u64 0,.int .i64 0])) (HK : Tel 9 #[.agg #[.int .i64 E,.int .i64 F],.int .u64 a,.int .u64 b] (.tuple #[.int .i64 0,.bool true,.int .i64 0])) (HO : Tel 10 #[.agg #[.int .i64 E,.int .i64 F],.int .u64 a,.int .u64 b] (.tuple #[.int .i64 o,.int .i64 0])) (u eu : Int) (heu : (eu == (0 : Int)) = false) (HU : Tel 7 #[.agg #[.int .i64 E,.int .i64 F],.int .u64 a] (.tuple #[.int .u64 u,.int .i64 eu])) (k l z' : Int) (hz : IntKind.u64.wrap (-l) = z') (hf : IntKind.u64.wrap (k) = z') (HF : Tel 6 #[.agg #[.int .i64 E,.int .i64 F],.int .u64 b,.int .u64 c] (.tuple #[.bool false,.int .u64 k,.int .i64 0])) (HG : Tel 6 #[.agg #[.int .i64 E,.int .i64 F],.int .u64 a,.int .u64 c] (.tuple #[.bool true,.int .u64 l,.int .i64 0])) (w : World) (HW : Hid (∀ W : World,Below w.heap.size w W → Calls Tryz.prog 5 #[] W fun e w' => e = .returned (.bool true) ∧ Below W.heap.size W w')) :
  Calls Tryz.prog 3 #[.agg #[.int .i64 E,.int .i64 F],.int .u64 a,.int .u64 b,.int .u64 c] w fun e w' => e = .returned (.bool true) ∧ Below w.heap.size w w' := by
 go_enter Tryz.func3,Tryz.ntmps3
 go_wp2_with fail
 refine (unhide HW _ (Fs.one w _ _).fr).mono ?_
 rintro e w1 ⟨rfl,hb1⟩
 have hS := (Fs.one w _ _).kept hb1
 obtain ⟨⟨z1_0_0,z1_0_1,-⟩,-⟩ := hS.cells
 go_wp2_with fail
 refine (H1 _).mono ?_
 rintro e w2 ⟨rfl,hb2⟩
 replace hS := hS.kept hb2
 clear z1_0_0 z1_0_1
 obtain ⟨⟨z2_0_0,z2_0_1,-⟩,-⟩ := hS.cells
 go_wp2_with fail
 refine (H2 _).mono ?_
 rintro e w3 ⟨rfl,hb3⟩
 replace hS := hS.kept hb3
 clear z2_0_0 z2_0_1
 obtain ⟨⟨z3_0_0,z3_0_1,-⟩,-⟩ := hS.cells
 go_wp2_with fail
 refine (HU _).mono ?_
 rintro e w4 ⟨rfl,hb4⟩
 replace hS := hS.kept hb4
 clear z3_0_0 z3_0_1
 obtain ⟨⟨z4_0_0,z4_0_1,-⟩,-⟩ := hS.cells
 go_wp2_with fail
 refine (HK _).mono ?_
 rintro e w5 ⟨rfl,hb5⟩
 replace hS := hS.kept hb5
 clear z4_0_0 z4_0_1
 obtain ⟨⟨z5_0_0,z5_0_1,-⟩,-⟩ := hS.cells
 go_wp2_with fail
 refine (HO _).mono ?_
 rintro e w6 ⟨rfl,hb6⟩
 replace hS := hS.kept hb6
 clear z5_0_0 z5_0_1
 obtain ⟨⟨z6_0_0,z6_0_1,-⟩,-⟩ := hS.cells
 go_wp2_with fail
 refine (HF _).mono ?_
 rintro e w7 ⟨rfl,hb7⟩
 replace hS := hS.kept hb7
 clear z6_0_0 z6_0_1
 obtain ⟨⟨z7_0_0,z7_0_1,-⟩,-⟩ := hS.cells
 go_wp2_with fail
 refine (HG _).mono ?_
 rintro e w8 ⟨rfl,hb8⟩
 replace hS := hS.kept hb8
 clear z7_0_0 z7_0_1
 obtain ⟨⟨z8_0_0,z8_0_1,-⟩,-⟩ := hS.cells
 go_wp2
 go_ret
 exact ⟨rfl,hS.fr⟩
set_option maxRecDepth 20000 in
set_option maxHeartbeats 4000000 in
theorem steps_Z_end_tf (E F a b c : Int) (o : Int) (H1 : Tel 6 #[.agg #[.int .i64 E,.int .i64 F],.int .u64 a,.int .u64 b] (.tuple #[.bool false,.int .u64 0,.int .i64 0])) (H2 : Tel 6 #[.agg #[.int .i64 E,.int .i64 F],.int .u64 b,.int .u64 a] (.tuple #[.bool false,.int .u64 0,.int .i64 0])) (HK : Tel 9 #[.agg #[.int .i64 E,.int .i64 F],.int .u64 a,.int .u64 b] (.tuple #[.int .i64 0,.bool true,.int .i64 0])) (HO : Tel 10 #[.agg #[.int .i64 E,.int .i64 F],.int .u64 a,.int .u64 b] (.tuple #[.int .i64 o,.int .i64 0])) (u eu : Int) (heu : (eu == (0 : Int)) = false) (HU : Tel 7 #[.agg #[.int .i64 E,.int .i64 F],.int .u64 a] (.tuple #[.int .u64 u,.int .i64 eu])) (k l y' : Int) (hy : IntKind.u64.wrap (-k) = y') (hf : IntKind.u64.wrap (y') = l) (HF : Tel 6 #[.agg #[.int .i64 E,.int .i64 F],.int .u64 b,.int .u64 c] (.tuple #[.bool true,.int .u64 k,.int .i64 0])) (HG : Tel 6 #[.agg #[.int .i64 E,.int .i64 F],.int .u64 a,.int .u64 c] (.tuple #[.bool false,.int .u64 l,.int .i64 0])) (w : World) (HW : Hid (∀ W : World,Below w.heap.size w W → Calls Tryz.prog 5 #[] W fun e w' => e = .returned (.bool true) ∧ Below W.heap.size W w')) :
  Calls Tryz.prog 3 #[.agg #[.int .i64 E,.int .i64 F],.int .u64 a,.int .u64 b,.int .u64 c] w fun e w' => e = .returned (.bool true) ∧ Below w.heap.size w w' := by
 go_enter Tryz.func3,Tryz.ntmps3
 go_wp2_with fail
 refine (unhide HW _ (Fs.one w _ _).fr).mono ?_
 rintro e w1 ⟨rfl,hb1⟩
 have hS := (Fs.one w _ _).kept hb1
 obtain ⟨⟨z1_0_0,z1_0_1,-⟩,-⟩ := hS.cells
 go_wp2_with fail
 refine (H1 _).mono ?_
 rintro e w2 ⟨rfl,hb2⟩
 replace hS := hS.kept hb2
 clear z1_0_0 z1_0_1
 obtain ⟨⟨z2_0_0,z2_0_1,-⟩,-⟩ := hS.cells
 go_wp2_with fail
 refine (H2 _).mono ?_
 rintro e w3 ⟨rfl,hb3⟩
 replace hS := hS.kept hb3
 clear z2_0_0 z2_0_1
 obtain ⟨⟨z3_0_0,z3_0_1,-⟩,-⟩ := hS.cells
 go_wp2_with fail
 refine (HU _).mono ?_
 rintro e w4 ⟨rfl,hb4⟩
 replace hS := hS.kept hb4
 clear z3_0_0 z3_0_1
 obtain ⟨⟨z4_0_0,z4_0_1,-⟩,-⟩ := hS.cells
 go_wp2_with fail
 refine (HK _).mono ?_
 rintro e w5 ⟨rfl,hb5⟩
 replace hS := hS.kept hb5
 clear z4_0_0 z4_0_1
 obtain ⟨⟨z5_0_0,z5_0_1,-⟩,-⟩ := hS.cells
 go_wp2_with fail
 refine (HO _).mono ?_
 rintro e w6 ⟨rfl,hb6⟩
 replace hS := hS.kept hb6
 clear z5_0_0 z5_0_1
 obtain ⟨⟨z6_0_0,z6_0_1,-⟩,-⟩ := hS.cells
 go_wp2_with fail
 refine (HF _).mono ?_
 rintro e w7 ⟨rfl,hb7⟩
 replace hS := hS.kept hb7
 clear z6_0_0 z6_0_1
 obtain ⟨⟨z7_0_0,z7_0_1,-⟩,-⟩ := hS.cells
 go_wp2_with fail
 refine (HG _).mono ?_
 rintro e w8 ⟨rfl,hb8⟩
 replace hS := hS.kept hb8
 clear z7_0_0 z7_0_1
 obtain ⟨⟨z8_0_0,z8_0_1,-⟩,-⟩ := hS.cells
 go_wp2
 go_ret
 exact ⟨rfl,hS.fr⟩
set_option maxRecDepth 20000 in
set_option maxHeartbeats 4000000 in
theorem steps_Z_end_tt (E F a b c : Int) (o : Int) (H1 : Tel 6 #[.agg #[.int .i64 E,.int .i64 F],.int .u64 a,.int .u64 b] (.tuple #[.bool false,.int .u64 0,.int .i64 0])) (H2 : Tel 6 #[.agg #[.int .i64 E,.int .i64 F],.int .u64 b,.int .u64 a] (.tuple #[.bool false,.int .u64 0,.int .i64 0])) (HK : Tel 9 #[.agg #[.int .i64 E,.int .i64 F],.int .u64 a,.int .u64 b] (.tuple #[.int .i64 0,.bool true,.int .i64 0])) (HO : Tel 10 #[.agg #[.int .i64 E,.int .i64 F],.int .u64 a,.int .u64 b] (.tuple #[.int .i64 o,.int .i64 0])) (u eu : Int) (heu : (eu == (0 : Int)) = false) (HU : Tel 7 #[.agg #[.int .i64 E,.int .i64 F],.int .u64 a] (.tuple #[.int .u64 u,.int .i64 eu])) (k l y' z' : Int) (hy : IntKind.u64.wrap (-k) = y') (hz : IntKind.u64.wrap (-l) = z') (hf : IntKind.u64.wrap (y') = z') (HF : Tel 6 #[.agg #[.int .i64 E,.int .i64 F],.int .u64 b,.int .u64 c] (.tuple #[.bool true,.int .u64 k,.int .i64 0])) (HG : Tel 6 #[.agg #[.int .i64 E,.int .i64 F],.int .u64 a,.int .u64 c] (.tuple #[.bool true,.int .u64 l,.int .i64 0])) (w : World) (HW : Hid (∀ W : World,Below w.heap.size w W → Calls Tryz.prog 5 #[] W fun e w' => e = .returned (.bool true) ∧ Below W.heap.size W w')) :
  Calls Tryz.prog 3 #[.agg #[.int .i64 E,.int .i64 F],.int .u64 a,.int .u64 b,.int .u64 c] w fun e w' => e = .returned (.bool true) ∧ Below w.heap.size w w' := by
 go_enter Tryz.func3,Tryz.ntmps3
 go_wp2_with fail
 refine (unhide HW _ (Fs.one w _ _).fr).mono ?_
 rintro e w1 ⟨rfl,hb1⟩
 have hS := (Fs.one w _ _).kept hb1
 obtain ⟨⟨z1_0_0,z1_0_1,-⟩,-⟩ := hS.cells
 go_wp2_with fail
 refine (H1 _).mono ?_
 rintro e w2 ⟨rfl,hb2⟩
 replace hS := hS.kept hb2
 clear z1_0_0 z1_0_1
 obtain ⟨⟨z2_0_0,z2_0_1,-⟩,-⟩ := hS.cells
 go_wp2_with fail
 refine (H2 _).mono ?_
 rintro e w3 ⟨rfl,hb3⟩
 replace hS := hS.kept hb3
 clear z2_0_0 z2_0_1
 obtain ⟨⟨z3_0_0,z3_0_1,-⟩,-⟩ := hS.cells
 go_wp2_with fail
 refine (HU _).mono ?_
 rintro e w4 ⟨rfl,hb4⟩
 replace hS := hS.kept hb4
 clear z3_0_0 z3_0_1
 obtain ⟨⟨z4_0_0,z4_0_1,-⟩,-⟩ := hS.cells
 go_wp2_with fail
 refine (HK _).mono ?_
 rintro e w5 ⟨rfl,hb5⟩
 replace hS := hS.kept hb5
 clear z4_0_0 z4_0_1
 obtain ⟨⟨z5_0_0,z5_0_1,-⟩,-⟩ := hS.cells
 go_wp2_with fail
 refine (HO _).mono ?_
 rintro e w6 ⟨rfl,hb6⟩
 replace hS := hS.kept hb6
 clear z5_0_0 z5_0_1
 obtain ⟨⟨z6_0_0,z6_0_1,-⟩,-⟩ := hS.cells
 go_wp2_with fail
 refine (HF _).mono ?_
 rintro e w7 ⟨rfl,hb7⟩
 replace hS := hS.kept hb7
 clear z6_0_0 z6_0_1
 obtain ⟨⟨z7_0_0,z7_0_1,-⟩,-⟩ := hS.cells
 go_wp2_with fail
 refine (HG _).mono ?_
 rintro e w8 ⟨rfl,hb8⟩
 replace hS := hS.kept hb8
 clear z7_0_0 z7_0_1
 obtain ⟨⟨z8_0_0,z8_0_1,-⟩,-⟩ := hS.cells
 go_wp2
 go_ret
 exact ⟨rfl,hS.fr⟩
end Go.Proofs.YtdfmanglfdeooaaGreatDoor
namespace Go.Proofs.YtdfmanglfdeooaaGreatDoor
open Go.RowKit
set_option maxRecDepth 20000 in
set_option maxHeartbeats 4000000 in
theorem steps_D_ok_2 (E F a b c : Int) (n : Int) (hn : 0 < n) (hn0 : (n == (0 : Int)) = false) (H1 : Tel 6 #[.agg #[.int .i64 E,.int .i64 F],.int .u64 a,.int .u64 b] (.tuple #[.bool true,.int .u64 n,.int .i64 0])) (H2 : Tel 6 #[.agg #[.int .i64 E,.int .i64 F],.int .u64 b,.int .u64 a] (.tuple #[.bool false,.int .u64 n,.int .i64 0])) (HK : Tel 9 #[.agg #[.int .i64 E,.int .i64 F],.int .u64 a,.int .u64 b] (.tuple #[.int .i64 1,.bool true,.int .i64 0])) (HO : Tel 10 #[.agg #[.int .i64 E,.int .i64 F],.int .u64 a,.int .u64 b] (.tuple #[.int .i64 1,.int .i64 0])) (u v : Int) (d1 : Bool) (HU : Tel 7 #[.agg #[.int .i64 E,.int .i64 F],.int .u64 a] (.tuple #[.int .u64 u,.int .i64 0])) (HD : Tel 8 #[.agg #[.int .i64 E,.int .i64 F],.int .u64 u] (.tuple #[.int .u64 v,.int .i64 0])) (HA : Tel 6 #[.agg #[.int .i64 E,.int .i64 F],.int .u64 a,.int .u64 u] (.tuple #[.bool false,.int .u64 1,.int .i64 0])) (HB : Tel 6 #[.agg #[.int .i64 E,.int .i64 F],.int .u64 a,.int .u64 v] (.tuple #[.bool d1,.int .u64 0,.int .i64 0])) (d2 d3 : Bool) (k l e3 : Int) (HF : Tel 6 #[.agg #[.int .i64 E,.int .i64 F],.int .u64 b,.int .u64 c] (.tuple #[.bool d2,.int .u64 k,.int .i64 2])) (HG : Tel 6 #[.agg #[.int .i64 E,.int .i64 F],.int .u64 a,.int .u64 c] (.tuple #[.bool d3,.int .u64 l,.int .i64 e3])) (w : World) (HW : Hid (∀ W : World,Below w.heap.size w W → Calls Tryz.prog 5 #[] W fun e w' => e = .returned (.bool true) ∧ Below W.heap.size W w')) :
  Calls Tryz.prog 3 #[.agg #[.int .i64 E,.int .i64 F],.int .u64 a,.int .u64 b,.int .u64 c] w fun e w' => e = .returned (.bool true) ∧ Below w.heap.size w w' := by
 go_enter Tryz.func3,Tryz.ntmps3
 go_wp2_with fail
 refine (unhide HW _ (Fs.one w _ _).fr).mono ?_
 rintro e w1 ⟨rfl,hb1⟩
 have hS := (Fs.one w _ _).kept hb1
 obtain ⟨⟨z1_0_0,z1_0_1,-⟩,-⟩ := hS.cells
 go_wp2_with fail
 refine (H1 _).mono ?_
 rintro e w2 ⟨rfl,hb2⟩
 replace hS := hS.kept hb2
 clear z1_0_0 z1_0_1
 obtain ⟨⟨z2_0_0,z2_0_1,-⟩,-⟩ := hS.cells
 go_wp2_with fail
 refine (H2 _).mono ?_
 rintro e w3 ⟨rfl,hb3⟩
 replace hS := hS.kept hb3
 clear z2_0_0 z2_0_1
 obtain ⟨⟨z3_0_0,z3_0_1,-⟩,-⟩ := hS.cells
 go_wp2_with fail
 refine (HU _).mono ?_
 rintro e w4 ⟨rfl,hb4⟩
 replace hS := hS.kept hb4
 clear z3_0_0 z3_0_1
 obtain ⟨⟨z4_0_0,z4_0_1,-⟩,-⟩ := hS.cells
 go_wp2_with fail
 refine (HD _).mono ?_
 rintro e w5 ⟨rfl,hb5⟩
 replace hS := hS.kept hb5
 clear z4_0_0 z4_0_1
 obtain ⟨⟨z5_0_0,z5_0_1,-⟩,-⟩ := hS.cells
 go_wp2_with fail
 refine (HA _).mono ?_
 rintro e w6 ⟨rfl,hb6⟩
 replace hS := hS.kept hb6
 clear z5_0_0 z5_0_1
 obtain ⟨⟨z6_0_0,z6_0_1,-⟩,-⟩ := hS.cells
 go_wp2_with fail
 refine (HB _).mono ?_
 rintro e w7 ⟨rfl,hb7⟩
 replace hS := hS.kept hb7
 clear z6_0_0 z6_0_1
 obtain ⟨⟨z7_0_0,z7_0_1,-⟩,-⟩ := hS.cells
 go_wp2_with fail
 refine (HK _).mono ?_
 rintro e w8 ⟨rfl,hb8⟩
 replace hS := hS.kept hb8
 clear z7_0_0 z7_0_1
 obtain ⟨⟨z8_0_0,z8_0_1,-⟩,-⟩ := hS.cells
 go_wp2_with fail
 refine (HO _).mono ?_
 rintro e w9 ⟨rfl,hb9⟩
 replace hS := hS.kept hb9
 clear z8_0_0 z8_0_1
 obtain ⟨⟨z9_0_0,z9_0_1,-⟩,-⟩ := hS.cells
 go_wp2_with fail
 refine (HF _).mono ?_
 rintro e w10 ⟨rfl,hb10⟩
 replace hS := hS.kept hb10
 clear z9_0_0 z9_0_1
 obtain ⟨⟨z10_0_0,z10_0_1,-⟩,-⟩ := hS.cells
 go_wp2_with fail
 refine (HG _).mono ?_
 rintro e w11 ⟨rfl,hb11⟩
 replace hS := hS.kept hb11
 clear z10_0_0 z10_0_1
 obtain ⟨⟨z11_0_0,z11_0_1,-⟩,-⟩ := hS.cells
 go_wp2
 go_ret
 exact ⟨rfl,hS.fr⟩
set_option maxRecDepth 20000 in
set_option maxHeartbeats 4000000 in
theorem steps_D_ok_6 (E F a b c : Int) (n : Int) (hn : 0 < n) (hn0 : (n == (0 : Int)) = false) (H1 : Tel 6 #[.agg #[.int .i64 E,.int .i64 F],.int .u64 a,.int .u64 b] (.tuple #[.bool true,.int .u64 n,.int .i64 0])) (H2 : Tel 6 #[.agg #[.int .i64 E,.int .i64 F],.int .u64 b,.int .u64 a] (.tuple #[.bool false,.int .u64 n,.int .i64 0])) (HK : Tel 9 #[.agg #[.int .i64 E,.int .i64 F],.int .u64 a,.int .u64 b] (.tuple #[.int .i64 1,.bool true,.int .i64 0])) (HO : Tel 10 #[.agg #[.int .i64 E,.int .i64 F],.int .u64 a,.int .u64 b] (.tuple #[.int .i64 1,.int .i64 0])) (u v : Int) (d1 : Bool) (HU : Tel 7 #[.agg #[.int .i64 E,.int .i64 F],.int .u64 a] (.tuple #[.int .u64 u,.int .i64 0])) (HD : Tel 8 #[.agg #[.int .i64 E,.int .i64 F],.int .u64 u] (.tuple #[.int .u64 v,.int .i64 0])) (HA : Tel 6 #[.agg #[.int .i64 E,.int .i64 F],.int .u64 a,.int .u64 u] (.tuple #[.bool false,.int .u64 1,.int .i64 0])) (HB : Tel 6 #[.agg #[.int .i64 E,.int .i64 F],.int .u64 a,.int .u64 v] (.tuple #[.bool d1,.int .u64 0,.int .i64 0])) (d2 d3 : Bool) (k l e3 : Int) (HF : Tel 6 #[.agg #[.int .i64 E,.int .i64 F],.int .u64 b,.int .u64 c] (.tuple #[.bool d2,.int .u64 k,.int .i64 6])) (HG : Tel 6 #[.agg #[.int .i64 E,.int .i64 F],.int .u64 a,.int .u64 c] (.tuple #[.bool d3,.int .u64 l,.int .i64 e3])) (w : World) (HW : Hid (∀ W : World,Below w.heap.size w W → Calls Tryz.prog 5 #[] W fun e w' => e = .returned (.bool true) ∧ Below W.heap.size W w')) :
  Calls Tryz.prog 3 #[.agg #[.int .i64 E,.int .i64 F],.int .u64 a,.int .u64 b,.int .u64 c] w fun e w' => e = .returned (.bool true) ∧ Below w.heap.size w w' := by
 go_enter Tryz.func3,Tryz.ntmps3
 go_wp2_with fail
 refine (unhide HW _ (Fs.one w _ _).fr).mono ?_
 rintro e w1 ⟨rfl,hb1⟩
 have hS := (Fs.one w _ _).kept hb1
 obtain ⟨⟨z1_0_0,z1_0_1,-⟩,-⟩ := hS.cells
 go_wp2_with fail
 refine (H1 _).mono ?_
 rintro e w2 ⟨rfl,hb2⟩
 replace hS := hS.kept hb2
 clear z1_0_0 z1_0_1
 obtain ⟨⟨z2_0_0,z2_0_1,-⟩,-⟩ := hS.cells
 go_wp2_with fail
 refine (H2 _).mono ?_
 rintro e w3 ⟨rfl,hb3⟩
 replace hS := hS.kept hb3
 clear z2_0_0 z2_0_1
 obtain ⟨⟨z3_0_0,z3_0_1,-⟩,-⟩ := hS.cells
 go_wp2_with fail
 refine (HU _).mono ?_
 rintro e w4 ⟨rfl,hb4⟩
 replace hS := hS.kept hb4
 clear z3_0_0 z3_0_1
 obtain ⟨⟨z4_0_0,z4_0_1,-⟩,-⟩ := hS.cells
 go_wp2_with fail
 refine (HD _).mono ?_
 rintro e w5 ⟨rfl,hb5⟩
 replace hS := hS.kept hb5
 clear z4_0_0 z4_0_1
 obtain ⟨⟨z5_0_0,z5_0_1,-⟩,-⟩ := hS.cells
 go_wp2_with fail
 refine (HA _).mono ?_
 rintro e w6 ⟨rfl,hb6⟩
 replace hS := hS.kept hb6
 clear z5_0_0 z5_0_1
 obtain ⟨⟨z6_0_0,z6_0_1,-⟩,-⟩ := hS.cells
 go_wp2_with fail
 refine (HB _).mono ?_
 rintro e w7 ⟨rfl,hb7⟩
 replace hS := hS.kept hb7
 clear z6_0_0 z6_0_1
 obtain ⟨⟨z7_0_0,z7_0_1,-⟩,-⟩ := hS.cells
 go_wp2_with fail
 refine (HK _).mono ?_
 rintro e w8 ⟨rfl,hb8⟩
 replace hS := hS.kept hb8
 clear z7_0_0 z7_0_1
 obtain ⟨⟨z8_0_0,z8_0_1,-⟩,-⟩ := hS.cells
 go_wp2_with fail
 refine (HO _).mono ?_
 rintro e w9 ⟨rfl,hb9⟩
 replace hS := hS.kept hb9
 clear z8_0_0 z8_0_1
 obtain ⟨⟨z9_0_0,z9_0_1,-⟩,-⟩ := hS.cells
 go_wp2_with fail
 refine (HF _).mono ?_
 rintro e w10 ⟨rfl,hb10⟩
 replace hS := hS.kept hb10
 clear z9_0_0 z9_0_1
 obtain ⟨⟨z10_0_0,z10_0_1,-⟩,-⟩ := hS.cells
 go_wp2_with fail
 refine (HG _).mono ?_
 rintro e w11 ⟨rfl,hb11⟩
 replace hS := hS.kept hb11
 clear z10_0_0 z10_0_1
 obtain ⟨⟨z11_0_0,z11_0_1,-⟩,-⟩ := hS.cells
 go_wp2
 go_ret
 exact ⟨rfl,hS.fr⟩
set_option maxRecDepth 20000 in
set_option maxHeartbeats 4000000 in
theorem steps_D_ok_ff (E F a b c : Int) (n : Int) (hn : 0 < n) (hn0 : (n == (0 : Int)) = false) (H1 : Tel 6 #[.agg #[.int .i64 E,.int .i64 F],.int .u64 a,.int .u64 b] (.tuple #[.bool true,.int .u64 n,.int .i64 0])) (H2 : Tel 6 #[.agg #[.int .i64 E,.int .i64 F],.int .u64 b,.int .u64 a] (.tuple #[.bool false,.int .u64 n,.int .i64 0])) (HK : Tel 9 #[.agg #[.int .i64 E,.int .i64 F],.int .u64 a,.int .u64 b] (.tuple #[.int .i64 1,.bool true,.int .i64 0])) (HO : Tel 10 #[.agg #[.int .i64 E,.int .i64 F],.int .u64 a,.int .u64 b] (.tuple #[.int .i64 1,.int .i64 0])) (u v : Int) (d1 : Bool) (HU : Tel 7 #[.agg #[.int .i64 E,.int .i64 F],.int .u64 a] (.tuple #[.int .u64 u,.int .i64 0])) (HD : Tel 8 #[.agg #[.int .i64 E,.int .i64 F],.int .u64 u] (.tuple #[.int .u64 v,.int .i64 0])) (HA : Tel 6 #[.agg #[.int .i64 E,.int .i64 F],.int .u64 a,.int .u64 u] (.tuple #[.bool false,.int .u64 1,.int .i64 0])) (HB : Tel 6 #[.agg #[.int .i64 E,.int .i64 F],.int .u64 a,.int .u64 v] (.tuple #[.bool d1,.int .u64 0,.int .i64 0])) (k l x' : Int) (hx : IntKind.u64.wrap (-n) = x') (hf : IntKind.u64.wrap (x' + k) = l) (HF : Tel 6 #[.agg #[.int .i64 E,.int .i64 F],.int .u64 b,.int .u64 c] (.tuple #[.bool false,.int .u64 k,.int .i64 0])) (HG : Tel 6 #[.agg #[.int .i64 E,.int .i64 F],.int .u64 a,.int .u64 c] (.tuple #[.bool false,.int .u64 l,.int .i64 0])) (w : World) (HW : Hid (∀ W : World,Below w.heap.size w W → Calls Tryz.prog 5 #[] W fun e w' => e = .returned (.bool true) ∧ Below W.heap.size W w')) :
  Calls Tryz.prog 3 #[.agg #[.int .i64 E,.int .i64 F],.int .u64 a,.int .u64 b,.int .u64 c] w fun e w' => e = .returned (.bool true) ∧ Below w.heap.size w w' := by
 go_enter Tryz.func3,Tryz.ntmps3
 go_wp2_with fail
 refine (unhide HW _ (Fs.one w _ _).fr).mono ?_
 rintro e w1 ⟨rfl,hb1⟩
 have hS := (Fs.one w _ _).kept hb1
 obtain ⟨⟨z1_0_0,z1_0_1,-⟩,-⟩ := hS.cells
 go_wp2_with fail
 refine (H1 _).mono ?_
 rintro e w2 ⟨rfl,hb2⟩
 replace hS := hS.kept hb2
 clear z1_0_0 z1_0_1
 obtain ⟨⟨z2_0_0,z2_0_1,-⟩,-⟩ := hS.cells
 go_wp2_with fail
 refine (H2 _).mono ?_
 rintro e w3 ⟨rfl,hb3⟩
 replace hS := hS.kept hb3
 clear z2_0_0 z2_0_1
 obtain ⟨⟨z3_0_0,z3_0_1,-⟩,-⟩ := hS.cells
 go_wp2_with fail
 refine (HU _).mono ?_
 rintro e w4 ⟨rfl,hb4⟩
 replace hS := hS.kept hb4
 clear z3_0_0 z3_0_1
 obtain ⟨⟨z4_0_0,z4_0_1,-⟩,-⟩ := hS.cells
 go_wp2_with fail
 refine (HD _).mono ?_
 rintro e w5 ⟨rfl,hb5⟩
 replace hS := hS.kept hb5
 clear z4_0_0 z4_0_1
 obtain ⟨⟨z5_0_0,z5_0_1,-⟩,-⟩ := hS.cells
 go_wp2_with fail
 refine (HA _).mono ?_
 rintro e w6 ⟨rfl,hb6⟩
 replace hS := hS.kept hb6
 clear z5_0_0 z5_0_1
 obtain ⟨⟨z6_0_0,z6_0_1,-⟩,-⟩ := hS.cells
 go_wp2_with fail
 refine (HB _).mono ?_
 rintro e w7 ⟨rfl,hb7⟩
 replace hS := hS.kept hb7
 clear z6_0_0 z6_0_1
 obtain ⟨⟨z7_0_0,z7_0_1,-⟩,-⟩ := hS.cells
 go_wp2_with fail
 refine (HK _).mono ?_
 rintro e w8 ⟨rfl,hb8⟩
 replace hS := hS.kept hb8
 clear z7_0_0 z7_0_1
 obtain ⟨⟨z8_0_0,z8_0_1,-⟩,-⟩ := hS.cells
 go_wp2_with fail
 refine (HO _).mono ?_
 rintro e w9 ⟨rfl,hb9⟩
 replace hS := hS.kept hb9
 clear z8_0_0 z8_0_1
 obtain ⟨⟨z9_0_0,z9_0_1,-⟩,-⟩ := hS.cells
 go_wp2_with fail
 refine (HF _).mono ?_
 rintro e w10 ⟨rfl,hb10⟩
 replace hS := hS.kept hb10
 clear z9_0_0 z9_0_1
 obtain ⟨⟨z10_0_0,z10_0_1,-⟩,-⟩ := hS.cells
 go_wp2_with fail
 refine (HG _).mono ?_
 rintro e w11 ⟨rfl,hb11⟩
 replace hS := hS.kept hb11
 clear z10_0_0 z10_0_1
 obtain ⟨⟨z11_0_0,z11_0_1,-⟩,-⟩ := hS.cells
 go_wp2
 go_ret
 exact ⟨rfl,hS.fr⟩
set_option maxRecDepth 20000 in
set_option maxHeartbeats 4000000 in
theorem steps_D_ok_ft (E F a b c : Int) (n : Int) (hn : 0 < n) (hn0 : (n == (0 : Int)) = false) (H1 : Tel 6 #[.agg #[.int .i64 E,.int .i64 F],.int .u64 a,.int .u64 b] (.tuple #[.bool true,.int .u64 n,.int .i64 0])) (H2 : Tel 6 #[.agg #[.int .i64 E,.int .i64 F],.int .u64 b,.int .u64 a] (.tuple #[.bool false,.int .u64 n,.int .i64 0])) (HK : Tel 9 #[.agg #[.int .i64 E,.int .i64 F],.int .u64 a,.int .u64 b] (.tuple #[.int .i64 1,.bool true,.int .i64 0])) (HO : Tel 10 #[.agg #[.int .i64 E,.int .i64 F],.int .u64 a,.int .u64 b] (.tuple #[.int .i64 1,.int .i64 0])) (u v : Int) (d1 : Bool) (HU : Tel 7 #[.agg #[.int .i64 E,.int .i64 F],.int .u64 a] (.tuple #[.int .u64 u,.int .i64 0])) (HD : Tel 8 #[.agg #[.int .i64 E,.int .i64 F],.int .u64 u] (.tuple #[.int .u64 v,.int .i64 0])) (HA : Tel 6 #[.agg #[.int .i64 E,.int .i64 F],.int .u64 a,.int .u64 u] (.tuple #[.bool false,.int .u64 1,.int .i64 0])) (HB : Tel 6 #[.agg #[.int .i64 E,.int .i64 F],.int .u64 a,.int .u64 v] (.tuple #[.bool d1,.int .u64 0,.int .i64 0])) (k l x' z' : Int) (hx : IntKind.u64.wrap (-n) = x') (hz : IntKind.u64.wrap (-l) = z') (hf : IntKind.u64.wrap (x' + k) = z') (HF : Tel 6 #[.agg #[.int .i64 E,.int .i64 F],.int .u64 b,.int .u64 c] (.tuple #[.bool false,.int .u64 k,.int .i64 0])) (HG : Tel 6 #[.agg #[.int .i64 E,.int .i64 F],.int .u64 a,.int .u64 c] (.tuple #[.bool true,.int .u64 l,.int .i64 0])) (w : World) (HW : Hid (∀ W : World,Below w.heap.size w W → Calls Tryz.prog 5 #[] W fun e w' => e = .returned (.bool true) ∧ Below W.heap.size W w')) :
  Calls Tryz.prog 3 #[.agg #[.int .i64 E,.int .i64 F],.int .u64 a,.int .u64 b,.int .u64 c] w fun e w' => e = .returned (.bool true) ∧ Below w.heap.size w w' := by
 go_enter Tryz.func3,Tryz.ntmps3
 go_wp2_with fail
 refine (unhide HW _ (Fs.one w _ _).fr).mono ?_
 rintro e w1 ⟨rfl,hb1⟩
 have hS := (Fs.one w _ _).kept hb1
 obtain ⟨⟨z1_0_0,z1_0_1,-⟩,-⟩ := hS.cells
 go_wp2_with fail
 refine (H1 _).mono ?_
 rintro e w2 ⟨rfl,hb2⟩
 replace hS := hS.kept hb2
 clear z1_0_0 z1_0_1
 obtain ⟨⟨z2_0_0,z2_0_1,-⟩,-⟩ := hS.cells
 go_wp2_with fail
 refine (H2 _).mono ?_
 rintro e w3 ⟨rfl,hb3⟩
 replace hS := hS.kept hb3
 clear z2_0_0 z2_0_1
 obtain ⟨⟨z3_0_0,z3_0_1,-⟩,-⟩ := hS.cells
 go_wp2_with fail
 refine (HU _).mono ?_
 rintro e w4 ⟨rfl,hb4⟩
 replace hS := hS.kept hb4
 clear z3_0_0 z3_0_1
 obtain ⟨⟨z4_0_0,z4_0_1,-⟩,-⟩ := hS.cells
 go_wp2_with fail
 refine (HD _).mono ?_
 rintro e w5 ⟨rfl,hb5⟩
 replace hS := hS.kept hb5
 clear z4_0_0 z4_0_1
 obtain ⟨⟨z5_0_0,z5_0_1,-⟩,-⟩ := hS.cells
 go_wp2_with fail
 refine (HA _).mono ?_
 rintro e w6 ⟨rfl,hb6⟩
 replace hS := hS.kept hb6
 clear z5_0_0 z5_0_1
 obtain ⟨⟨z6_0_0,z6_0_1,-⟩,-⟩ := hS.cells
 go_wp2_with fail
 refine (HB _).mono ?_
 rintro e w7 ⟨rfl,hb7⟩
 replace hS := hS.kept hb7
 clear z6_0_0 z6_0_1
 obtain ⟨⟨z7_0_0,z7_0_1,-⟩,-⟩ := hS.cells
 go_wp2_with fail
 refine (HK _).mono ?_
 rintro e w8 ⟨rfl,hb8⟩
 replace hS := hS.kept hb8
 clear z7_0_0 z7_0_1
 obtain ⟨⟨z8_0_0,z8_0_1,-⟩,-⟩ := hS.cells
 go_wp2_with fail
 refine (HO _).mono ?_
 rintro e w9 ⟨rfl,hb9⟩
 replace hS := hS.kept hb9
 clear z8_0_0 z8_0_1
 obtain ⟨⟨z9_0_0,z9_0_1,-⟩,-⟩ := hS.cells
 go_wp2_with fail
 refine (HF _).mono ?_
 rintro e w10 ⟨rfl,hb10⟩
 replace hS := hS.kept hb10
 clear z9_0_0 z9_0_1
 obtain ⟨⟨z10_0_0,z10_0_1,-⟩,-⟩ := hS.cells
 go_wp2_with fail
 refine (HG _).mono ?_
 rintro e w11 ⟨rfl,hb11⟩
 replace hS := hS.kept hb11
 clear z10_0_0 z10_0_1
 obtain ⟨⟨z11_0_0,z11_0_1,-⟩,-⟩ := hS.cells
 go_wp2
 go_ret
 exact ⟨rfl,hS.fr⟩
set_option maxRecDepth 20000 in
set_option maxHeartbeats 4000000 in
theorem steps_D_ok_tf (E F a b c : Int) (n : Int) (hn : 0 < n) (hn0 : (n == (0 : Int)) = false) (H1 : Tel 6 #[.agg #[.int .i64 E,.int .i64 F],.int .u64 a,.int .u64 b] (.tuple #[.bool true,.int .u64 n,.int .i64 0])) (H2 : Tel 6 #[.agg #[.int .i64 E,.int .i64 F],.int .u64 b,.int .u64 a] (.tuple #[.bool false,.int .u64 n,.int .i64 0])) (HK : Tel 9 #[.agg #[.int .i64 E,.int .i64 F],.int .u64 a,.int .u64 b] (.tuple #[.int .i64 1,.bool true,.int .i64 0])) (HO : Tel 10 #[.agg #[.int .i64 E,.int .i64 F],.int .u64 a,.int .u64 b] (.tuple #[.int .i64 1,.int .i64 0])) (u v : Int) (d1 : Bool) (HU : Tel 7 #[.agg #[.int .i64 E,.int .i64 F],.int .u64 a] (.tuple #[.int .u64 u,.int .i64 0])) (HD : Tel 8 #[.agg #[.int .i64 E,.int .i64 F],.int .u64 u] (.tuple #[.int .u64 v,.int .i64 0])) (HA : Tel 6 #[.agg #[.int .i64 E,.int .i64 F],.int .u64 a,.int .u64 u] (.tuple #[.bool false,.int .u64 1,.int .i64 0])) (HB : Tel 6 #[.agg #[.int .i64 E,.int .i64 F],.int .u64 a,.int .u64 v] (.tuple #[.bool d1,.int .u64 0,.int .i64 0])) (k l x' y' : Int) (hx : IntKind.u64.wrap (-n) = x') (hy : IntKind.u64.wrap (-k) = y') (hf : IntKind.u64.wrap (x' + y') = l) (HF : Tel 6 #[.agg #[.int .i64 E,.int .i64 F],.int .u64 b,.int .u64 c] (.tuple #[.bool true,.int .u64 k,.int .i64 0])) (HG : Tel 6 #[.agg #[.int .i64 E,.int .i64 F],.int .u64 a,.int .u64 c] (.tuple #[.bool false,.int .u64 l,.int .i64 0])) (w : World) (HW : Hid (∀ W : World,Below w.heap.size w W → Calls Tryz.prog 5 #[] W fun e w' => e = .returned (.bool true) ∧ Below W.heap.size W w')) :
  Calls Tryz.prog 3 #[.agg #[.int .i64 E,.int .i64 F],.int .u64 a,.int .u64 b,.int .u64 c] w fun e w' => e = .returned (.bool true) ∧ Below w.heap.size w w' := by
 go_enter Tryz.func3,Tryz.ntmps3
 go_wp2_with fail
 refine (unhide HW _ (Fs.one w _ _).fr).mono ?_
 rintro e w1 ⟨rfl,hb1⟩
 have hS := (Fs.one w _ _).kept hb1
 obtain ⟨⟨z1_0_0,z1_0_1,-⟩,-⟩ := hS.cells
 go_wp2_with fail
 refine (H1 _).mono ?_
 rintro e w2 ⟨rfl,hb2⟩
 replace hS := hS.kept hb2
 clear z1_0_0 z1_0_1
 obtain ⟨⟨z2_0_0,z2_0_1,-⟩,-⟩ := hS.cells
 go_wp2_with fail
 refine (H2 _).mono ?_
 rintro e w3 ⟨rfl,hb3⟩
 replace hS := hS.kept hb3
 clear z2_0_0 z2_0_1
 obtain ⟨⟨z3_0_0,z3_0_1,-⟩,-⟩ := hS.cells
 go_wp2_with fail
 refine (HU _).mono ?_
 rintro e w4 ⟨rfl,hb4⟩
 replace hS := hS.kept hb4
 clear z3_0_0 z3_0_1
 obtain ⟨⟨z4_0_0,z4_0_1,-⟩,-⟩ := hS.cells
 go_wp2_with fail
 refine (HD _).mono ?_
 rintro e w5 ⟨rfl,hb5⟩
 replace hS := hS.kept hb5
 clear z4_0_0 z4_0_1
 obtain ⟨⟨z5_0_0,z5_0_1,-⟩,-⟩ := hS.cells
 go_wp2_with fail
 refine (HA _).mono ?_
 rintro e w6 ⟨rfl,hb6⟩
 replace hS := hS.kept hb6
 clear z5_0_0 z5_0_1
 obtain ⟨⟨z6_0_0,z6_0_1,-⟩,-⟩ := hS.cells
 go_wp2_with fail
 refine (HB _).mono ?_
 rintro e w7 ⟨rfl,hb7⟩
 replace hS := hS.kept hb7
 clear z6_0_0 z6_0_1
 obtain ⟨⟨z7_0_0,z7_0_1,-⟩,-⟩ := hS.cells
 go_wp2_with fail
 refine (HK _).mono ?_
 rintro e w8 ⟨rfl,hb8⟩
 replace hS := hS.kept hb8
 clear z7_0_0 z7_0_1
 obtain ⟨⟨z8_0_0,z8_0_1,-⟩,-⟩ := hS.cells
 go_wp2_with fail
 refine (HO _).mono ?_
 rintro e w9 ⟨rfl,hb9⟩
 replace hS := hS.kept hb9
 clear z8_0_0 z8_0_1
 obtain ⟨⟨z9_0_0,z9_0_1,-⟩,-⟩ := hS.cells
 go_wp2_with fail
 refine (HF _).mono ?_
 rintro e w10 ⟨rfl,hb10⟩
 replace hS := hS.kept hb10
 clear z9_0_0 z9_0_1
 obtain ⟨⟨z10_0_0,z10_0_1,-⟩,-⟩ := hS.cells
 go_wp2_with fail
 refine (HG _).mono ?_
 rintro e w11 ⟨rfl,hb11⟩
 replace hS := hS.kept hb11
 clear z10_0_0 z10_0_1
 obtain ⟨⟨z11_0_0,z11_0_1,-⟩,-⟩ := hS.cells
 go_wp2
 go_ret
 exact ⟨rfl,hS.fr⟩
set_option maxRecDepth 20000 in
set_option maxHeartbeats 4000000 in
theorem steps_D_ok_tt (E F a b c : Int) (n : Int) (hn : 0 < n) (hn0 : (n == (0 : Int)) = false) (H1 : Tel 6 #[.agg #[.int .i64 E,.int .i64 F],.int .u64 a,.int .u64 b] (.tuple #[.bool true,.int .u64 n,.int .i64 0])) (H2 : Tel 6 #[.agg #[.int .i64 E,.int .i64 F],.int .u64 b,.int .u64 a] (.tuple #[.bool false,.int .u64 n,.int .i64 0])) (HK : Tel 9 #[.agg #[.int .i64 E,.int .i64 F],.int .u64 a,.int .u64 b] (.tuple #[.int .i64 1,.bool true,.int .i64 0])) (HO : Tel 10 #[.agg #[.int .i64 E,.int .i64 F],.int .u64 a,.int .u64 b] (.tuple #[.int .i64 1,.int .i64 0])) (u v : Int) (d1 : Bool) (HU : Tel 7 #[.agg #[.int .i64 E,.int .i64 F],.int .u64 a] (.tuple #[.int .u64 u,.int .i64 0])) (HD : Tel 8 #[.agg #[.int .i64 E,.int .i64 F],.int .u64 u] (.tuple #[.int .u64 v,.int .i64 0])) (HA : Tel 6 #[.agg #[.int .i64 E,.int .i64 F],.int .u64 a,.int .u64 u] (.tuple #[.bool false,.int .u64 1,.int .i64 0])) (HB : Tel 6 #[.agg #[.int .i64 E,.int .i64 F],.int .u64 a,.int .u64 v] (.tuple #[.bool d1,.int .u64 0,.int .i64 0])) (k l x' y' z' : Int) (hx : IntKind.u64.wrap (-n) = x') (hy : IntKind.u64.wrap (-k) = y') (hz : IntKind.u64.wrap (-l) = z') (hf : IntKind.u64.wrap (x' + y') = z') (HF : Tel 6 #[.agg #[.int .i64 E,.int .i64 F],.int .u64 b,.int .u64 c] (.tuple #[.bool true,.int .u64 k,.int .i64 0])) (HG : Tel 6 #[.agg #[.int .i64 E,.int .i64 F],.int .u64 a,.int .u64 c] (.tuple #[.bool true,.int .u64 l,.int .i64 0])) (w : World) (HW : Hid (∀ W : World,Below w.heap.size w W → Calls Tryz.prog 5 #[] W fun e w' => e = .returned (.bool true) ∧ Below W.heap.size W w')) :
  Calls Tryz.prog 3 #[.agg #[.int .i64 E,.int .i64 F],.int .u64 a,.int .u64 b,.int .u64 c] w fun e w' => e = .returned (.bool true) ∧ Below w.heap.size w w' := by
 go_enter Tryz.func3,Tryz.ntmps3
 go_wp2_with fail
 refine (unhide HW _ (Fs.one w _ _).fr).mono ?_
 rintro e w1 ⟨rfl,hb1⟩
 have hS := (Fs.one w _ _).kept hb1
 obtain ⟨⟨z1_0_0,z1_0_1,-⟩,-⟩ := hS.cells
 go_wp2_with fail
 refine (H1 _).mono ?_
 rintro e w2 ⟨rfl,hb2⟩
 replace hS := hS.kept hb2
 clear z1_0_0 z1_0_1
 obtain ⟨⟨z2_0_0,z2_0_1,-⟩,-⟩ := hS.cells
 go_wp2_with fail
 refine (H2 _).mono ?_
 rintro e w3 ⟨rfl,hb3⟩
 replace hS := hS.kept hb3
 clear z2_0_0 z2_0_1
 obtain ⟨⟨z3_0_0,z3_0_1,-⟩,-⟩ := hS.cells
 go_wp2_with fail
 refine (HU _).mono ?_
 rintro e w4 ⟨rfl,hb4⟩
 replace hS := hS.kept hb4
 clear z3_0_0 z3_0_1
 obtain ⟨⟨z4_0_0,z4_0_1,-⟩,-⟩ := hS.cells
 go_wp2_with fail
 refine (HD _).mono ?_
 rintro e w5 ⟨rfl,hb5⟩
 replace hS := hS.kept hb5
 clear z4_0_0 z4_0_1
 obtain ⟨⟨z5_0_0,z5_0_1,-⟩,-⟩ := hS.cells
 go_wp2_with fail
 refine (HA _).mono ?_
 rintro e w6 ⟨rfl,hb6⟩
 replace hS := hS.kept hb6
 clear z5_0_0 z5_0_1
 obtain ⟨⟨z6_0_0,z6_0_1,-⟩,-⟩ := hS.cells
 go_wp2_with fail
 refine (HB _).mono ?_
 rintro e w7 ⟨rfl,hb7⟩
 replace hS := hS.kept hb7
 clear z6_0_0 z6_0_1
 obtain ⟨⟨z7_0_0,z7_0_1,-⟩,-⟩ := hS.cells
 go_wp2_with fail
 refine (HK _).mono ?_
 rintro e w8 ⟨rfl,hb8⟩
 replace hS := hS.kept hb8
 clear z7_0_0 z7_0_1
 obtain ⟨⟨z8_0_0,z8_0_1,-⟩,-⟩ := hS.cells
 go_wp2_with fail
 refine (HO _).mono ?_
 rintro e w9 ⟨rfl,hb9⟩
 replace hS := hS.kept hb9
 clear z8_0_0 z8_0_1
 obtain ⟨⟨z9_0_0,z9_0_1,-⟩,-⟩ := hS.cells
 go_wp2_with fail
 refine (HF _).mono ?_
 rintro e w10 ⟨rfl,hb10⟩
 replace hS := hS.kept hb10
 clear z9_0_0 z9_0_1
 obtain ⟨⟨z10_0_0,z10_0_1,-⟩,-⟩ := hS.cells
 go_wp2_with fail
 refine (HG _).mono ?_
 rintro e w11 ⟨rfl,hb11⟩
 replace hS := hS.kept hb11
 clear z10_0_0 z10_0_1
 obtain ⟨⟨z11_0_0,z11_0_1,-⟩,-⟩ := hS.cells
 go_wp2
 go_ret
 exact ⟨rfl,hS.fr⟩
set_option maxRecDepth 20000 in
set_option maxHeartbeats 4000000 in
theorem steps_D_end_2 (E F a b c : Int) (n : Int) (hn : 0 < n) (hn0 : (n == (0 : Int)) = false) (H1 : Tel 6 #[.agg #[.int .i64 E,.int .i64 F],.int .u64 a,.int .u64 b] (.tuple #[.bool true,.int .u64 n,.int .i64 0])) (H2 : Tel 6 #[.agg #[.int .i64 E,.int .i64 F],.int .u64 b,.int .u64 a] (.tuple #[.bool false,.int .u64 n,.int .i64 0])) (HK : Tel 9 #[.agg #[.int .i64 E,.int .i64 F],.int .u64 a,.int .u64 b] (.tuple #[.int .i64 1,.bool true,.int .i64 0])) (HO : Tel 10 #[.agg #[.int .i64 E,.int .i64 F],.int .u64 a,.int .u64 b] (.tuple #[.int .i64 1,.int .i64 0])) (u eu : Int) (heu : (eu == (0 : Int)) = false) (HU : Tel 7 #[.agg #[.int .i64 E,.int .i64 F],.int .u64 a] (.tuple #[.int .u64 u,.int .i64 eu])) (d2 d3 : Bool) (k l e3 : Int) (HF : Tel 6 #[.agg #[.int .i64 E,.int .i64 F],.int .u64 b,.int .u64 c] (.tuple #[.bool d2,.int .u64 k,.int .i64 2])) (HG : Tel 6 #[.agg #[.int .i64 E,.int .i64 F],.int .u64 a,.int .u64 c] (.tuple #[.bool d3,.int .u64 l,.int .i64 e3])) (w : World) (HW : Hid (∀ W : World,Below w.heap.size w W → Calls Tryz.prog 5 #[] W fun e w' => e = .returned (.bool true) ∧ Below W.heap.size W w')) :
  Calls Tryz.prog 3 #[.agg #[.int .i64 E,.int .i64 F],.int .u64 a,.int .u64 b,.int .u64 c] w fun e w' => e = .returned (.bool true) ∧ Below w.heap.size w w' := by
 go_enter Tryz.func3,Tryz.ntmps3
 go_wp2_with fail
 refine (unhide HW _ (Fs.one w _ _).fr).mono ?_
 rintro e w1 ⟨rfl,hb1⟩
 have hS := (Fs.one w _ _).kept hb1
 obtain ⟨⟨z1_0_0,z1_0_1,-⟩,-⟩ := hS.cells
 go_wp2_with fail
 refine (H1 _).mono ?_
 rintro e w2 ⟨rfl,hb2⟩
 replace hS := hS.kept hb2
 clear z1_0_0 z1_0_1
 obtain ⟨⟨z2_0_0,z2_0_1,-⟩,-⟩ := hS.cells
 go_wp2_with fail
 refine (H2 _).mono ?_
 rintro e w3 ⟨rfl,hb3⟩
 replace hS := hS.kept hb3
 clear z2_0_0 z2_0_1
 obtain ⟨⟨z3_0_0,z3_0_1,-⟩,-⟩ := hS.cells
 go_wp2_with fail
 refine (HU _).mono ?_
 rintro e w4 ⟨rfl,hb4⟩
 replace hS := hS.kept hb4
 clear z3_0_0 z3_0_1
 obtain ⟨⟨z4_0_0,z4_0_1,-⟩,-⟩ := hS.cells
 go_wp2_with fail
 refine (HK _).mono ?_
 rintro e w5 ⟨rfl,hb5⟩
 replace hS := hS.kept hb5
 clear z4_0_0 z4_0_1
 obtain ⟨⟨z5_0_0,z5_0_1,-⟩,-⟩ := hS.cells
 go_wp2_with fail
 refine (HO _).mono ?_
 rintro e w6 ⟨rfl,hb6⟩
 replace hS := hS.kept hb6
 clear z5_0_0 z5_0_1
 obtain ⟨⟨z6_0_0,z6_0_1,-⟩,-⟩ := hS.cells
 go_wp2_with fail
 refine (HF _).mono ?_
 rintro e w7 ⟨rfl,hb7⟩
 replace hS := hS.kept hb7
 clear z6_0_0 z6_0_1
 obtain ⟨⟨z7_0_0,z7_0_1,-⟩,-⟩ := hS.cells
 go_wp2_with fail
 refine (HG _).mono ?_
 rintro e w8 ⟨rfl,hb8⟩
 replace hS := hS.kept hb8
 clear z7_0_0 z7_0_1
 obtain ⟨⟨z8_0_0,z8_0_1,-⟩,-⟩ := hS.cells
 go_wp2
 go_ret
 exact ⟨rfl,hS.fr⟩
set_option maxRecDepth 20000 in
set_option maxHeartbeats 4000000 in
theorem steps_D_end_6 (E F a b c : Int) (n : Int) (hn : 0 < n) (hn0 : (n == (0 : Int)) = false) (H1 : Tel 6 #[.agg #[.int .i64 E,.int .i64 F],.int .u64 a,.int .u64 b] (.tuple #[.bool true,.int .u64 n,.int .i64 0])) (H2 : Tel 6 #[.agg #[.int .i64 E,.int .i64 F],.int .u64 b,.int .u64 a] (.tuple #[.bool false,.int .u64 n,.int .i64 0])) (HK : Tel 9 #[.agg #[.int .i64 E,.int .i64 F],.int .u64 a,.int .u64 b] (.tuple #[.int .i64 1,.bool true,.int .i64 0])) (HO : Tel 10 #[.agg #[.int .i64 E,.int .i64 F],.int .u64 a,.int .u64 b] (.tuple #[.int .i64 1,.int .i64 0])) (u eu : Int) (heu : (eu == (0 : Int)) = false) (HU : Tel 7 #[.agg #[.int .i64 E,.int .i64 F],.int .u64 a] (.tuple #[.int .u64 u,.int .i64 eu])) (d2 d3 : Bool) (k l e3 : Int) (HF : Tel 6 #[.agg #[.int .i64 E,.int .i64 F],.int .u64 b,.int .u64 c] (.tuple #[.bool d2,.int .u64 k,.int .i64 6])) (HG : Tel 6 #[.agg #[.int .i64 E,.int .i64 F],.int .u64 a,.int .u64 c] (.tuple #[.bool d3,.int .u64 l,.int .i64 e3])) (w : World) (HW : Hid (∀ W : World,Below w.heap.size w W → Calls Tryz.prog 5 #[] W fun e w' => e = .returned (.bool true) ∧ Below W.heap.size W w')) :
  Calls Tryz.prog 3 #[.agg #[.int .i64 E,.int .i64 F],.int .u64 a,.int .u64 b,.int .u64 c] w fun e w' => e = .returned (.bool true) ∧ Below w.heap.size w w' := by
 go_enter Tryz.func3,Tryz.ntmps3
 go_wp2_with fail
 refine (unhide HW _ (Fs.one w _ _).fr).mono ?_
 rintro e w1 ⟨rfl,hb1⟩
 have hS := (Fs.one w _ _).kept hb1
 obtain ⟨⟨z1_0_0,z1_0_1,-⟩,-⟩ := hS.cells
 go_wp2_with fail
 refine (H1 _).mono ?_
 rintro e w2 ⟨rfl,hb2⟩
 replace hS := hS.kept hb2
 clear z1_0_0 z1_0_1
 obtain ⟨⟨z2_0_0,z2_0_1,-⟩,-⟩ := hS.cells
 go_wp2_with fail
 refine (H2 _).mono ?_
 rintro e w3 ⟨rfl,hb3⟩
 replace hS := hS.kept hb3
 clear z2_0_0 z2_0_1
 obtain ⟨⟨z3_0_0,z3_0_1,-⟩,-⟩ := hS.cells
 go_wp2_with fail
 refine (HU _).mono ?_
 rintro e w4 ⟨rfl,hb4⟩
 replace hS := hS.kept hb4
 clear z3_0_0 z3_0_1
 obtain ⟨⟨z4_0_0,z4_0_1,-⟩,-⟩ := hS.cells
 go_wp2_with fail
 refine (HK _).mono ?_
 rintro e w5 ⟨rfl,hb5⟩
 replace hS := hS.kept hb5
 clear z4_0_0 z4_0_1
 obtain ⟨⟨z5_0_0,z5_0_1,-⟩,-⟩ := hS.cells
 go_wp2_with fail
 refine (HO _).mono ?_
 rintro e w6 ⟨rfl,hb6⟩
 replace hS := hS.kept hb6
 clear z5_0_0 z5_0_1
 obtain ⟨⟨z6_0_0,z6_0_1,-⟩,-⟩ := hS.cells
 go_wp2_with fail
 refine (HF _).mono ?_
 rintro e w7 ⟨rfl,hb7⟩
 replace hS := hS.kept hb7
 clear z6_0_0 z6_0_1
 obtain ⟨⟨z7_0_0,z7_0_1,-⟩,-⟩ := hS.cells
 go_wp2_with fail
 refine (HG _).mono ?_
 rintro e w8 ⟨rfl,hb8⟩
 replace hS := hS.kept hb8
 clear z7_0_0 z7_0_1
 obtain ⟨⟨z8_0_0,z8_0_1,-⟩,-⟩ := hS.cells
 go_wp2
 go_ret
 exact ⟨rfl,hS.fr⟩
set_option maxRecDepth 20000 in
set_option maxHeartbeats 4000000 in
theorem steps_D_end_ff (E F a b c : Int) (n : Int) (hn : 0 < n) (hn0 : (n == (0 : Int)) = false) (H1 : Tel 6 #[.agg #[.int .i64 E,.int .i64 F],.int .u64 a,.int .u64 b] (.tuple #[.bool true,.int .u64 n,.int .i64 0])) (H2 : Tel 6 #[.agg #[.int .i64 E,.int .i64 F],.int .u64 b,.int .u64 a] (.tuple #[.bool false,.int .u64 n,.int .i64 0])) (HK : Tel 9 #[.agg #[.int .i64 E,.int .i64 F],.int .u64 a,.int .u64 b] (.tuple #[.int .i64 1,.bool true,.int .i64 0])) (HO : Tel 10 #[.agg #[.int .i64 E,.int .i64 F],.int .u64 a,.int .u64 b] (.tuple #[.int .i64 1,.int .i64 0])) (u eu : Int) (heu : (eu == (0 : Int)) = false) (HU : Tel 7 #[.agg #[.int .i64 E,.int .i64 F],.int .u64 a] (.tuple #[.int .u64 u,.int .i64 eu])) (k l x' : Int) (hx : IntKind.u64.wrap (-n) = x') (hf : IntKind.u64.wrap (x' + k) = l) (HF : Tel 6 #[.agg #[.int .i64 E,.int .i64 F],.int .u64 b,.int .u64 c] (.tuple #[.bool false,.int .u64 k,.int .i64 0])) (HG : Tel 6 #[.agg #[.int .i64 E,.int .i64 F],.int .u64 a,.int .u64 c] (.tuple #[.bool false,.int .u64 l,.int .i64 0])) (w : World) (HW : Hid (∀ W : World,Below w.heap.size w W → Calls Tryz.prog 5 #[] W fun e w' => e = .returned (.bool true) ∧ Below W.heap.size W w')) :
  Calls Tryz.prog 3 #[.agg #[.int .i64 E,.int .i64 F],.int .u64 a,.int .u64 b,.int .u64 c] w fun e w' => e = .returned (.bool true) ∧ Below w.heap.size w w' := by
 go_enter Tryz.func3,Tryz.ntmps3
 go_wp2_with fail
 refine (unhide HW _ (Fs.one w _ _).fr).mono ?_
 rintro e w1 ⟨rfl,hb1⟩
 have hS := (Fs.one w _ _).kept hb1
 obtain ⟨⟨z1_0_0,z1_0_1,-⟩,-⟩ := hS.cells
 go_wp2_with fail
 refine (H1 _).mono ?_
 rintro e w2 ⟨rfl,hb2⟩
 replace hS := hS.kept hb2
 clear z1_0_0 z1_0_1
 obtain ⟨⟨z2_0_0,z2_0_1,-⟩,-⟩ := hS.cells
 go_wp2_with fail
 refine (H2 _).mono ?_
 rintro e w3 ⟨rfl,hb3⟩
 replace hS := hS.kept hb3
 clear z2_0_0 z2_0_1
 obtain ⟨⟨z3_0_0,z3_0_1,-⟩,-⟩ := hS.cells
 go_wp2_with fail
 refine (HU _).mono ?_
 rintro e w4 ⟨rfl,hb4⟩
 replace hS := hS.kept hb4
 clear z3_0_0 z3_0_1
 obtain ⟨⟨z4_0_0,z4_0_1,-⟩,-⟩ := hS.cells
 go_wp2_with fail
 refine (HK _).mono ?_
 rintro e w5 ⟨rfl,hb5⟩
 replace hS := hS.kept hb5
 clear z4_0_0 z4_0_1
 obtain ⟨⟨z5_0_0,z5_0_1,-⟩,-⟩ := hS.cells
 go_wp2_with fail
 refine (HO _).mono ?_
 rintro e w6 ⟨rfl,hb6⟩
 replace hS := hS.kept hb6
 clear z5_0_0 z5_0_1
 obtain ⟨⟨z6_0_0,z6_0_1,-⟩,-⟩ := hS.cells
 go_wp2_with fail
 refine (HF _).mono ?_
 rintro e w7 ⟨rfl,hb7⟩
 replace hS := hS.kept hb7
 clear z6_0_0 z6_0_1
 obtain ⟨⟨z7_0_0,z7_0_1,-⟩,-⟩ := hS.cells
 go_wp2_with fail
 refine (HG _).mono ?_
 rintro e w8 ⟨rfl,hb8⟩
 replace hS := hS.kept hb8
 clear z7_0_0 z7_0_1
 obtain ⟨⟨z8_0_0,z8_0_1,-⟩,-⟩ := hS.cells
 go_wp2
 go_ret
 exact ⟨rfl,hS.fr⟩
set_option maxRecDepth 20000 in
set_option maxHeartbeats 4000000 in
theorem steps_D_end_ft (E F a b c : Int) (n : Int) (hn : 0 < n) (hn0 : (n == (0 : Int)) = false) (H1 : Tel 6 #[.agg #[.int .i64 E,.int .i64 F],.int .u64 a,.int .u64 b] (.tuple #[.bool true,.int .u64 n,.int .i64 0])) (H2 : Tel 6 #[.agg #[.int .i64 E,.int .i64 F],.int .u64 b,.int .u64 a] (.tuple #[.bool false,.int .u64 n,.int .i64 0])) (HK : Tel 9 #[.agg #[.int .i64 E,.int .i64 F],.int .u64 a,.int .u64 b] (.tuple #[.int .i64 1,.bool true,.int .i64 0])) (HO : Tel 10 #[.agg #[.int .i64 E,.int .i64 F],.int .u64 a,.int .u64 b] (.tuple #[.int .i64 1,.int .i64 0])) (u eu : Int) (heu : (eu == (0 : Int)) = false) (HU : Tel 7 #[.agg #[.int .i64 E,.int .i64 F],.int .u64 a] (.tuple #[.int .u64 u,.int .i64 eu])) (k l x' z' : Int) (hx : IntKind.u64.wrap (-n) = x') (hz : IntKind.u64.wrap (-l) = z') (hf : IntKind.u64.wrap (x' + k) = z') (HF : Tel 6 #[.agg #[.int .i64 E,.int .i64 F],.int .u64 b,.int .u64 c] (.tuple #[.bool false,.int .u64 k,.int .i64 0])) (HG : Tel 6 #[.agg #[.int .i64 E,.int .i64 F],.int .u64 a,.int .u64 c] (.tuple #[.bool true,.int .u64 l,.int .i64 0])) (w : World) (HW : Hid (∀ W : World,Below w.heap.size w W → Calls Tryz.prog 5 #[] W fun e w' => e = .returned (.bool true) ∧ Below W.heap.size W w')) :
  Calls Tryz.prog 3 #[.agg #[.int .i64 E,.int .i64 F],.int .u64 a,.int .u64 b,.int .u64 c] w fun e w' => e = .returned (.bool true) ∧ Below w.heap.size w w' := by
 go_enter Tryz.func3,Tryz.ntmps3
 go_wp2_with fail
 refine (unhide HW _ (Fs.one w _ _).fr).mono ?_
 rintro e w1 ⟨rfl,hb1⟩
 have hS := (Fs.one w _ _).kept hb1
 obtain ⟨⟨z1_0_0,z1_0_1,-⟩,-⟩ := hS.cells
 go_wp2_with fail
 refine (H1 _).mono ?_
 rintro e w2 ⟨rfl,hb2⟩
 replace hS := hS.kept hb2
 clear z1_0_0 z1_0_1
 obtain ⟨⟨z2_0_0,z2_0_1,-⟩,-⟩ := hS.cells
 go_wp2_with fail
 refine (H2 _).mono ?_
 rintro e w3 ⟨rfl,hb3⟩
 replace hS := hS.kept hb3
 clear z2_0_0 z2_0_1
 obtain ⟨⟨z3_0_0,z3_0_1,-⟩,-⟩ := hS.cells
 go_wp2_with fail
 refine (HU _).mono ?_
 rintro e w4 ⟨rfl,hb4⟩
 replace hS := hS.kept hb4
 clear z3_0_0 z3_0_1
 obtain ⟨⟨z4_0_0,z4_0_1,-⟩,-⟩ := hS.cells
 go_wp2_with fail
 refine (HK _).mono ?_
 rintro e w5 ⟨rfl,hb5⟩
 replace hS := hS.kept hb5
 clear z4_0_0 z4_0_1
 obtain ⟨⟨z5_0_0,z5_0_1,-⟩,-⟩ := hS.cells
 go_wp2_with fail
 refine (HO _).mono ?_
 rintro e w6 ⟨rfl,hb6⟩
 replace hS := hS.kept hb6
 clear z5_0_0 z5_0_1
 obtain ⟨⟨z6_0_0,z6_0_1,-⟩,-⟩ := hS.cells
 go_wp2_with fail
 refine (HF _).mono ?_
 rintro e w7 ⟨rfl,hb7⟩
 replace hS := hS.kept hb7
 clear z6_0_0 z6_0_1
 obtain ⟨⟨z7_0_0,z7_0_1,-⟩,-⟩ := hS.cells
 go_wp2_with fail
 refine (HG _).mono ?_
 rintro e w8 ⟨rfl,hb8⟩
 replace hS := hS.kept hb8
 clear z7_0_0 z7_0_1
 obtain ⟨⟨z8_0_0,z8_0_1,-⟩,-⟩ := hS.cells
 go_wp2
 go_ret
 exact ⟨rfl,hS.fr⟩
set_option maxRecDepth 20000 in
set_option maxHeartbeats 4000000 in
theorem steps_D_end_tf (E F a b c : Int) (n : Int) (hn : 0 < n) (hn0 : (n == (0 : Int)) = false) (H1 : Tel 6 #[.agg #[.int .i64 E,.int .i64 F],.int .u64 a,.int .u64 b] (.tuple #[.bool true,.int .u64 n,.int .i64 0])) (H2 : Tel 6 #[.agg #[.int .i64 E,.int .i64 F],.int .u64 b,.int .u64 a] (.tuple #[.bool false,.int .u64 n,.int .i64 0])) (HK : Tel 9 #[.agg #[.int .i64 E,.int .i64 F],.int .u64 a,.int .u64 b] (.tuple #[.int .i64 1,.bool true,.int .i64 0])) (HO : Tel 10 #[.agg #[.int .i64 E,.int .i64 F],.int .u64 a,.int .u64 b] (.tuple #[.int .i64 1,.int .i64 0])) (u eu : Int) (heu : (eu == (0 : Int)) = false) (HU : Tel 7 #[.agg #[.int .i64 E,.int .i64 F],.int .u64 a] (.tuple #[.int .u64 u,.int .i64 eu])) (k l x' y' : Int) (hx : IntKind.u64.wrap (-n) = x') (hy : IntKind.u64.wrap (-k) = y') (hf : IntKind.u64.wrap (x' + y') = l) (HF : Tel 6 #[.agg #[.int .i64 E,.int .i64 F],.int .u64 b,.int .u64 c] (.tuple #[.bool true,.int .u64 k,.int .i64 0])) (HG : Tel 6 #[.agg #[.int .i64 E,.int .i64 F],.int .u64 a,.int .u64 c] (.tuple #[.bool false,.int .u64 l,.int .i64 0])) (w : World) (HW : Hid (∀ W : World,Below w.heap.size w W → Calls Tryz.prog 5 #[] W fun e w' => e = .returned (.bool true) ∧ Below W.heap.size W w')) :
  Calls Tryz.prog 3 #[.agg #[.int .i64 E,.int .i64 F],.int .u64 a,.int .u64 b,.int .u64 c] w fun e w' => e = .returned (.bool true) ∧ Below w.heap.size w w' := by
 go_enter Tryz.func3,Tryz.ntmps3
 go_wp2_with fail
 refine (unhide HW _ (Fs.one w _ _).fr).mono ?_
 rintro e w1 ⟨rfl,hb1⟩
 have hS := (Fs.one w _ _).kept hb1
 obtain ⟨⟨z1_0_0,z1_0_1,-⟩,-⟩ := hS.cells
 go_wp2_with fail
 refine (H1 _).mono ?_
 rintro e w2 ⟨rfl,hb2⟩
 replace hS := hS.kept hb2
 clear z1_0_0 z1_0_1
 obtain ⟨⟨z2_0_0,z2_0_1,-⟩,-⟩ := hS.cells
 go_wp2_with fail
 refine (H2 _).mono ?_
 rintro e w3 ⟨rfl,hb3⟩
 replace hS := hS.kept hb3
 clear z2_0_0 z2_0_1
 obtain ⟨⟨z3_0_0,z3_0_1,-⟩,-⟩ := hS.cells
 go_wp2_with fail
 refine (HU _).mono ?_
 rintro e w4 ⟨rfl,hb4⟩
 replace hS := hS.kept hb4
 clear z3_0_0 z3_0_1
 obtain ⟨⟨z4_0_0,z4_0_1,-⟩,-⟩ := hS.cells
 go_wp2_with fail
 refine (HK _).mono ?_
 rintro e w5 ⟨rfl,hb5⟩
 replace hS := hS.kept hb5
 clear z4_0_0 z4_0_1
 obtain ⟨⟨z5_0_0,z5_0_1,-⟩,-⟩ := hS.cells
 go_wp2_with fail
 refine (HO _).mono ?_
 rintro e w6 ⟨rfl,hb6⟩
 replace hS := hS.kept hb6
 clear z5_0_0 z5_0_1
 obtain ⟨⟨z6_0_0,z6_0_1,-⟩,-⟩ := hS.cells
 go_wp2_with fail
 refine (HF _).mono ?_
 rintro e w7 ⟨rfl,hb7⟩
 replace hS := hS.kept hb7
 clear z6_0_0 z6_0_1
 obtain ⟨⟨z7_0_0,z7_0_1,-⟩,-⟩ := hS.cells
 go_wp2_with fail
 refine (HG _).mono ?_
 rintro e w8 ⟨rfl,hb8⟩
 replace hS := hS.kept hb8
 clear z7_0_0 z7_0_1
 obtain ⟨⟨z8_0_0,z8_0_1,-⟩,-⟩ := hS.cells
 go_wp2
 go_ret
 exact ⟨rfl,hS.fr⟩
set_option maxRecDepth 20000 in
set_option maxHeartbeats 4000000 in
theorem steps_D_end_tt (E F a b c : Int) (n : Int) (hn : 0 < n) (hn0 : (n == (0 : Int)) = false) (H1 : Tel 6 #[.agg #[.int .i64 E,.int .i64 F],.int .u64 a,.int .u64 b] (.tuple #[.bool true,.int .u64 n,.int .i64 0])) (H2 : Tel 6 #[.agg #[.int .i64 E,.int .i64 F],.int .u64 b,.int .u64 a] (.tuple #[.bool false,.int .u64 n,.int .i64 0])) (HK : Tel 9 #[.agg #[.int .i64 E,.int .i64 F],.int .u64 a,.int .u64 b] (.tuple #[.int .i64 1,.bool true,.int .i64 0])) (HO : Tel 10 #[.agg #[.int .i64 E,.int .i64 F],.int .u64 a,.int .u64 b] (.tuple #[.int .i64 1,.int .i64 0])) (u eu : Int) (heu : (eu == (0 : Int)) = false) (HU : Tel 7 #[.agg #[.int .i64 E,.int .i64 F],.int .u64 a] (.tuple #[.int .u64 u,.int .i64 eu])) (k l x' y' z' : Int) (hx : IntKind.u64.wrap (-n) = x') (hy : IntKind.u64.wrap (-k) = y') (hz : IntKind.u64.wrap (-l) = z') (hf : IntKind.u64.wrap (x' + y') = z') (HF : Tel 6 #[.agg #[.int .i64 E,.int .i64 F],.int .u64 b,.int .u64 c] (.tuple #[.bool true,.int .u64 k,.int .i64 0])) (HG : Tel 6 #[.agg #[.int .i64 E,.int .i64 F],.int .u64 a,.int .u64 c] (.tuple #[.bool true,.int .u64 l,.int .i64 0])) (w : World) (HW : Hid (∀ W : World,Below w.heap.size w W → Calls Tryz.prog 5 #[] W fun e w' => e = .returned (.bool true) ∧ Below W.heap.size W w')) :
  Calls Tryz.prog 3 #[.agg #[.int .i64 E,.int .i64 F],.int .u64 a,.int .u64 b,.int .u64 c] w fun e w' => e = .returned (.bool true) ∧ Below w.heap.size w w' := by
 go_enter Tryz.func3,Tryz.ntmps3
 go_wp2_with fail
 refine (unhide HW _ (Fs.one w _ _).fr).mono ?_
 rintro e w1 ⟨rfl,hb1⟩
 have hS := (Fs.one w _ _).kept hb1
 obtain ⟨⟨z1_0_0,z1_0_1,-⟩,-⟩ := hS.cells
 go_wp2_with fail
 refine (H1 _).mono ?_
 rintro e w2 ⟨rfl,hb2⟩
 replace hS := hS.kept hb2
 clear z1_0_0 z1_0_1
 obtain ⟨⟨z2_0_0,z2_0_1,-⟩,-⟩ := hS.cells
 go_wp2_with fail
 refine (H2 _).mono ?_
 rintro e w3 ⟨rfl,hb3⟩
 replace hS := hS.kept hb3
 clear z2_0_0 z2_0_1
 obtain ⟨⟨z3_0_0,z3_0_1,-⟩,-⟩ := hS.cells
 go_wp2_with fail
 refine (HU _).mono ?_
 rintro e w4 ⟨rfl,hb4⟩
 replace hS := hS.kept hb4
 clear z3_0_0 z3_0_1
 obtain ⟨⟨z4_0_0,z4_0_1,-⟩,-⟩ := hS.cells
 go_wp2_with fail
 refine (HK _).mono ?_
 rintro e w5 ⟨rfl,hb5⟩
 replace hS := hS.kept hb5
 clear z4_0_0 z4_0_1
 obtain ⟨⟨z5_0_0,z5_0_1,-⟩,-⟩ := hS.cells
 go_wp2_with fail
 refine (HO _).mono ?_
 rintro e w6 ⟨rfl,hb6⟩
 replace hS := hS.kept hb6
 clear z5_0_0 z5_0_1
 obtain ⟨⟨z6_0_0,z6_0_1,-⟩,-⟩ := hS.cells
 go_wp2_with fail
 refine (HF _).mono ?_
 rintro e w7 ⟨rfl,hb7⟩
 replace hS := hS.kept hb7
 clear z6_0_0 z6_0_1
 obtain ⟨⟨z7_0_0,z7_0_1,-⟩,-⟩ := hS.cells
 go_wp2_with fail
 refine (HG _).mono ?_
 rintro e w8 ⟨rfl,hb8⟩
 replace hS := hS.kept hb8
 clear z7_0_0 z7_0_1
 obtain ⟨⟨z8_0_0,z8_0_1,-⟩,-⟩ := hS.cells
 go_wp2
 go_ret
 exact ⟨rfl,hS.fr⟩
end Go.Proofs.YtdfmanglfdeooaaGreatDoor
namespace Go.Proofs.YtdfmanglfdeooaaGreatDoor
open Go.RowKit
set_option maxRecDepth 20000 in
set_option maxHeartbeats 4000000 in
theorem steps_U_ok_2 (E F a b c : Int) (n : Int) (hn : 0 < n) (hn0 : (n == (0 : Int)) = false) (H1 : Tel 6 #[.agg #[.int .i64 E,.int .i64 F],.int .u64 a,.int .u64 b] (.tuple #[.bool false,.int .u64 n,.int .i64 0])) (H2 : Tel 6 #[.agg #[.int .i64 E,.int .i64 F],.int .u64 b,.int .u64 a] (.tuple #[.bool true,.int .u64 n,.int .i64 0])) (HK : Tel 9 #[.agg #[.int .i64 E,.int .i64 F],.int .u64 a,.int .u64 b] (.tuple #[.int .i64 (-1),.bool true,.int .i64 0])) (HO : Tel 10 #[.agg #[.int .i64 E,.int .i64 F],.int .u64 a,.int .u64 b] (.tuple #[.int .i64 (-1),.int .i64 0])) (u v : Int) (d1 : Bool) (HU : Tel 7 #[.agg #[.int .i64 E,.int .i64 F],.int .u64 a] (.tuple #[.int .u64 u,.int .i64 0])) (HD : Tel 8 #[.agg #[.int .i64 E,.int .i64 F],.int .u64 u] (.tuple #[.int .u64 v,.int .i64 0])) (HA : Tel 6 #[.agg #[.int .i64 E,.int .i64 F],.int .u64 a,.int .u64 u] (.tuple #[.bool false,.int .u64 1,.int .i64 0])) (HB : Tel 6 #[.agg #[.int .i64 E,.int .i64 F],.int .u64 a,.int .u64 v] (.tuple #[.bool d1,.int .u64 0,.int .i64 0])) (d2 d3 : Bool) (k l e3 : Int) (HF : Tel 6 #[.agg #[.int .i64 E,.int .i64 F],.int .u64 b,.int .u64 c] (.tuple #[.bool d2,.int .u64 k,.int .i64 2])) (HG : Tel 6 #[.agg #[.int .i64 E,.int .i64 F],.int .u64 a,.int .u64 c] (.tuple #[.bool d3,.int .u64 l,.int .i64 e3])) (w : World) (HW : Hid (∀ W : World,Below w.heap.size w W → Calls Tryz.prog 5 #[] W fun e w' => e = .returned (.bool true) ∧ Below W.heap.size W w')) :
  Calls Tryz.prog 3 #[.agg #[.int .i64 E,.int .i64 F],.int .u64 a,.int .u64 b,.int .u64 c] w fun e w' => e = .returned (.bool true) ∧ Below w.heap.size w w' := by
 go_enter Tryz.func3,Tryz.ntmps3
 go_wp2_with fail
 refine (unhide HW _ (Fs.one w _ _).fr).mono ?_
 rintro e w1 ⟨rfl,hb1⟩
 have hS := (Fs.one w _ _).kept hb1
 obtain ⟨⟨z1_0_0,z1_0_1,-⟩,-⟩ := hS.cells
 go_wp2_with fail
 refine (H1 _).mono ?_
 rintro e w2 ⟨rfl,hb2⟩
 replace hS := hS.kept hb2
 clear z1_0_0 z1_0_1
 obtain ⟨⟨z2_0_0,z2_0_1,-⟩,-⟩ := hS.cells
 go_wp2_with fail
 refine (H2 _).mono ?_
 rintro e w3 ⟨rfl,hb3⟩
 replace hS := hS.kept hb3
 clear z2_0_0 z2_0_1
 obtain ⟨⟨z3_0_0,z3_0_1,-⟩,-⟩ := hS.cells
 go_wp2_with fail
 refine (HU _).mono ?_
 rintro e w4 ⟨rfl,hb4⟩
 replace hS := hS.kept hb4
 clear z3_0_0 z3_0_1
 obtain ⟨⟨z4_0_0,z4_0_1,-⟩,-⟩ := hS.cells
 go_wp2_with fail
 refine (HD _).mono ?_
 rintro e w5 ⟨rfl,hb5⟩
 replace hS := hS.kept hb5
 clear z4_0_0 z4_0_1
 obtain ⟨⟨z5_0_0,z5_0_1,-⟩,-⟩ := hS.cells
 go_wp2_with fail
 refine (HA _).mono ?_
 rintro e w6 ⟨rfl,hb6⟩
 replace hS := hS.kept hb6
 clear z5_0_0 z5_0_1
 obtain ⟨⟨z6_0_0,z6_0_1,-⟩,-⟩ := hS.cells
 go_wp2_with fail
 refine (HB _).mono ?_
 rintro e w7 ⟨rfl,hb7⟩
 replace hS := hS.kept hb7
 clear z6_0_0 z6_0_1
 obtain ⟨⟨z7_0_0,z7_0_1,-⟩,-⟩ := hS.cells
 go_wp2_with fail
 refine (HK _).mono ?_
 rintro e w8 ⟨rfl,hb8⟩
 replace hS := hS.kept hb8
 clear z7_0_0 z7_0_1
 obtain ⟨⟨z8_0_0,z8_0_1,-⟩,-⟩ := hS.cells
 go_wp2_with fail
 refine (HO _).mono ?_
 rintro e w9 ⟨rfl,hb9⟩
 replace hS := hS.kept hb9
 clear z8_0_0 z8_0_1
 obtain ⟨⟨z9_0_0,z9_0_1,-⟩,-⟩ := hS.cells
 go_wp2_with fail
 refine (HF _).mono ?_
 rintro e w10 ⟨rfl,hb10⟩
 replace hS := hS.kept hb10
 clear z9_0_0 z9_0_1
 obtain ⟨⟨z10_0_0,z10_0_1,-⟩,-⟩ := hS.cells
 go_wp2_with fail
 refine (HG _).mono ?_
 rintro e w11 ⟨rfl,hb11⟩
 replace hS := hS.kept hb11
 clear z10_0_0 z10_0_1
 obtain ⟨⟨z11_0_0,z11_0_1,-⟩,-⟩ := hS.cells
 go_wp2
 go_ret
 exact ⟨rfl,hS.fr⟩
set_option maxRecDepth 20000 in
set_option maxHeartbeats 4000000 in
theorem steps_U_ok_6 (E F a b c : Int) (n : Int) (hn : 0 < n) (hn0 : (n == (0 : Int)) = false) (H1 : Tel 6 #[.agg #[.int .i64 E,.int .i64 F],.int .u64 a,.int .u64 b] (.tuple #[.bool false,.int .u64 n,.int .i64 0])) (H2 : Tel 6 #[.agg #[.int .i64 E,.int .i64 F],.int .u64 b,.int .u64 a] (.tuple #[.bool true,.int .u64 n,.int .i64 0])) (HK : Tel 9 #[.agg #[.int .i64 E,.int .i64 F],.int .u64 a,.int .u64 b] (.tuple #[.int .i64 (-1),.bool true,.int .i64 0])) (HO : Tel 10 #[.agg #[.int .i64 E,.int .i64 F],.int .u64 a,.int .u64 b] (.tuple #[.int .i64 (-1),.int .i64 0])) (u v : Int) (d1 : Bool) (HU : Tel 7 #[.agg #[.int .i64 E,.int .i64 F],.int .u64 a] (.tuple #[.int .u64 u,.int .i64 0])) (HD : Tel 8 #[.agg #[.int .i64 E,.int .i64 F],.int .u64 u] (.tuple #[.int .u64 v,.int .i64 0])) (HA : Tel 6 #[.agg #[.int .i64 E,.int .i64 F],.int .u64 a,.int .u64 u] (.tuple #[.bool false,.int .u64 1,.int .i64 0])) (HB : Tel 6 #[.agg #[.int .i64 E,.int .i64 F],.int .u64 a,.int .u64 v] (.tuple #[.bool d1,.int .u64 0,.int .i64 0])) (d2 d3 : Bool) (k l e3 : Int) (HF : Tel 6 #[.agg #[.int .i64 E,.int .i64 F],.int .u64 b,.int .u64 c] (.tuple #[.bool d2,.int .u64 k,.int .i64 6])) (HG : Tel 6 #[.agg #[.int .i64 E,.int .i64 F],.int .u64 a,.int .u64 c] (.tuple #[.bool d3,.int .u64 l,.int .i64 e3])) (w : World) (HW : Hid (∀ W : World,Below w.heap.size w W → Calls Tryz.prog 5 #[] W fun e w' => e = .returned (.bool true) ∧ Below W.heap.size W w')) :
  Calls Tryz.prog 3 #[.agg #[.int .i64 E,.int .i64 F],.int .u64 a,.int .u64 b,.int .u64 c] w fun e w' => e = .returned (.bool true) ∧ Below w.heap.size w w' := by
 go_enter Tryz.func3,Tryz.ntmps3
 go_wp2_with fail
 refine (unhide HW _ (Fs.one w _ _).fr).mono ?_
 rintro e w1 ⟨rfl,hb1⟩
 have hS := (Fs.one w _ _).kept hb1
 obtain ⟨⟨z1_0_0,z1_0_1,-⟩,-⟩ := hS.cells
 go_wp2_with fail
 refine (H1 _).mono ?_
 rintro e w2 ⟨rfl,hb2⟩
 replace hS := hS.kept hb2
 clear z1_0_0 z1_0_1
 obtain ⟨⟨z2_0_0,z2_0_1,-⟩,-⟩ := hS.cells
 go_wp2_with fail
 refine (H2 _).mono ?_
 rintro e w3 ⟨rfl,hb3⟩
 replace hS := hS.kept hb3
 clear z2_0_0 z2_0_1
 obtain ⟨⟨z3_0_0,z3_0_1,-⟩,-⟩ := hS.cells
 go_wp2_with fail
 refine (HU _).mono ?_
 rintro e w4 ⟨rfl,hb4⟩
 replace hS := hS.kept hb4
 clear z3_0_0 z3_0_1
 obtain ⟨⟨z4_0_0,z4_0_1,-⟩,-⟩ := hS.cells
 go_wp2_with fail
 refine (HD _).mono ?_
 rintro e w5 ⟨rfl,hb5⟩
 replace hS := hS.kept hb5
 clear z4_0_0 z4_0_1
 obtain ⟨⟨z5_0_0,z5_0_1,-⟩,-⟩ := hS.cells
 go_wp2_with fail
 refine (HA _).mono ?_
 rintro e w6 ⟨rfl,hb6⟩
 replace hS := hS.kept hb6
 clear z5_0_0 z5_0_1
 obtain ⟨⟨z6_0_0,z6_0_1,-⟩,-⟩ := hS.cells
 go_wp2_with fail
 refine (HB _).mono ?_
 rintro e w7 ⟨rfl,hb7⟩
 replace hS := hS.kept hb7
 clear z6_0_0 z6_0_1
 obtain ⟨⟨z7_0_0,z7_0_1,-⟩,-⟩ := hS.cells
 go_wp2_with fail
 refine (HK _).mono ?_
 rintro e w8 ⟨rfl,hb8⟩
 replace hS := hS.kept hb8
 clear z7_0_0 z7_0_1
 obtain ⟨⟨z8_0_0,z8_0_1,-⟩,-⟩ := hS.cells
 go_wp2_with fail
 refine (HO _).mono ?_
 rintro e w9 ⟨rfl,hb9⟩
 replace hS := hS.kept hb9
 clear z8_0_0 z8_0_1
 obtain ⟨⟨z9_0_0,z9_0_1,-⟩,-⟩ := hS.cells
 go_wp2_with fail
 refine (HF _).mono ?_
 rintro e w10 ⟨rfl,hb10⟩
 replace hS := hS.kept hb10
 clear z9_0_0 z9_0_1
 obtain ⟨⟨z10_0_0,z10_0_1,-⟩,-⟩ := hS.cells
 go_wp2_with fail
 refine (HG _).mono ?_
 rintro e w11 ⟨rfl,hb11⟩
 replace hS := hS.kept hb11
 clear z10_0_0 z10_0_1
 obtain ⟨⟨z11_0_0,z11_0_1,-⟩,-⟩ := hS.cells
 go_wp2
 go_ret
 exact ⟨rfl,hS.fr⟩
set_option maxRecDepth 20000 in
set_option maxHeartbeats 4000000 in
theorem steps_U_ok_ff (E F a b c : Int) (n : Int) (hn : 0 < n) (hn0 : (n == (0 : Int)) = false) (H1 : Tel 6 #[.agg #[.int .i64 E,.int .i64 F],.int .u64 a,.int .u64 b] (.tuple #[.bool false,.int .u64 n,.int .i64 0])) (H2 : Tel 6 #[.agg #[.int .i64 E,.int .i64 F],.int .u64 b,.int .u64 a] (.tuple #[.bool true,.int .u64 n,.int .i64 0])) (HK : Tel 9 #[.agg #[.int .i64 E,.int .i64 F],.int .u64 a,.int .u64 b] (.tuple #[.int .i64 (-1),.bool true,.int .i64 0])) (HO : Tel 10 #[.agg #[.int .i64 E,.int .i64 F],.int .u64 a,.int .u64 b] (.tuple #[.int .i64 (-1),.int .i64 0])) (u v : Int) (d1 : Bool) (HU : Tel 7 #[.agg #[.int .i64 E,.int .i64 F],.int .u64 a] (.tuple #[.int .u64 u,.int .i64 0])) (HD : Tel 8 #[.agg #[.int .i64 E,.int .i64 F],.int .u64 u] (.tuple #[.int .u64 v,.int .i64 0])) (HA : Tel 6 #[.agg #[.int .i64 E,.int .i64 F],.int .u64 a,.int .u64 u] (.tuple #[.bool false,.int .u64 1,.int .i64 0])) (HB : Tel 6 #[.agg #[.int .i64 E,.int .i64 F],.int .u64 a,.int .u64 v] (.tuple #[.bool d1,.int .u64 0,.int .i64 0])) (k l : Int) (hf : IntKind.u64.wrap (n + k) = l) (HF : Tel 6 #[.agg #[.int .i64 E,.int .i64 F],.int .u64 b,.int .u64 c] (.tuple #[.bool false,.int .u64 k,.int .i64 0])) (HG : Tel 6 #[.agg #[.int .i64 E,.int .i64 F],.int .u64 a,.int .u64 c] (.tuple #[.bool false,.int .u64 l,.int .i64 0])) (w : World) (HW : Hid (∀ W : World,Below w.heap.size w W → Calls Tryz.prog 5 #[] W fun e w' => e = .returned (.bool true) ∧ Below W.heap.size W w')) :
  Calls Tryz.prog 3 #[.agg #[.int .i64 E,.int .i64 F],.int .u64 a,.int .u64 b,.int .u64 c] w fun e w' => e = .returned (.bool true) ∧ Below w.heap.size w w' := by
 go_enter Tryz.func3,Tryz.ntmps3
 go_wp2_with fail
 refine (unhide HW _ (Fs.one w _ _).fr).mono ?_
 rintro e w1 ⟨rfl,hb1⟩
 have hS := (Fs.one w _ _).kept hb1
 obtain ⟨⟨z1_0_0,z1_0_1,-⟩,-⟩ := hS.cells
 go_wp2_with fail
 refine (H1 _).mono ?_
 rintro e w2 ⟨rfl,hb2⟩
 replace hS := hS.kept hb2
 clear z1_0_0 z1_0_1
 obtain ⟨⟨z2_0_0,z2_0_1,-⟩,-⟩ := hS.cells
 go_wp2_with fail
 refine (H2 _).mono ?_
 rintro e w3 ⟨rfl,hb3⟩
 replace hS := hS.kept hb3
 clear z2_0_0 z2_0_1
 obtain ⟨⟨z3_0_0,z3_0_1,-⟩,-⟩ := hS.cells
 go_wp2_with fail
 refine (HU _).mono ?_
 rintro e w4 ⟨rfl,hb4⟩
 replace hS := hS.kept hb4
 clear z3_0_0 z3_0_1
 obtain ⟨⟨z4_0_0,z4_0_1,-⟩,-⟩ := hS.cells
 go_wp2_with fail
 refine (HD _).mono ?_
 rintro e w5 ⟨rfl,hb5⟩
 replace hS := hS.kept hb5
 clear z4_0_0 z4_0_1
 obtain ⟨⟨z5_0_0,z5_0_1,-⟩,-⟩ := hS.cells
 go_wp2_with fail
 refine (HA _).mono ?_
 rintro e w6 ⟨rfl,hb6⟩
 replace hS := hS.kept hb6
 clear z5_0_0 z5_0_1
 obtain ⟨⟨z6_0_0,z6_0_1,-⟩,-⟩ := hS.cells
 go_wp2_with fail
 refine (HB _).mono ?_
 rintro e w7 ⟨rfl,hb7⟩
 replace hS := hS.kept hb7
 clear z6_0_0 z6_0_1
 obtain ⟨⟨z7_0_0,z7_0_1,-⟩,-⟩ := hS.cells
 go_wp2_with fail
 refine (HK _).mono ?_
 rintro e w8 ⟨rfl,hb8⟩
 replace hS := hS.kept hb8
 clear z7_0_0 z7_0_1
 obtain ⟨⟨z8_0_0,z8_0_1,-⟩,-⟩ := hS.cells
 go_wp2_with fail
 refine (HO _).mono ?_
 rintro e w9 ⟨rfl,hb9⟩
 replace hS := hS.kept hb9
 clear z8_0_0 z8_0_1
 obtain ⟨⟨z9_0_0,z9_0_1,-⟩,-⟩ := hS.cells
 go_wp2_with fail
 refine (HF _).mono ?_
 rintro e w10 ⟨rfl,hb10⟩
 replace hS := hS.kept hb10
 clear z9_0_0 z9_0_1
 obtain ⟨⟨z10_0_0,z10_0_1,-⟩,-⟩ := hS.cells
 go_wp2_with fail
 refine (HG _).mono ?_
 rintro e w11 ⟨rfl,hb11⟩
 replace hS := hS.kept hb11
 clear z10_0_0 z10_0_1
 obtain ⟨⟨z11_0_0,z11_0_1,-⟩,-⟩ := hS.cells
 go_wp2
 go_ret
 exact ⟨rfl,hS.fr⟩
set_option maxRecDepth 20000 in
set_option maxHeartbeats 4000000 in
theorem steps_U_ok_ft (E F a b c : Int) (n : Int) (hn : 0 < n) (hn0 : (n == (0 : Int)) = false) (H1 : Tel 6 #[.agg #[.int .i64 E,.int .i64 F],.int .u64 a,.int .u64 b] (.tuple #[.bool false,.int .u64 n,.int .i64 0])) (H2 : Tel 6 #[.agg #[.int .i64 E,.int .i64 F],.int .u64 b,.int .u64 a] (.tuple #[.bool true,.int .u64 n,.int .i64 0])) (HK : Tel 9 #[.agg #[.int .i64 E,.int .i64 F],.int .u64 a,.int .u64 b] (.tuple #[.int .i64 (-1),.bool true,.int .i64 0])) (HO : Tel 10 #[.agg #[.int .i64 E,.int .i64 F],.int .u64 a,.int .u64 b] (.tuple #[.int .i64 (-1),.int .i64 0])) (u v : Int) (d1 : Bool) (HU : Tel 7 #[.agg #[.int .i64 E,.int .i64 F],.int .u64 a] (.tuple #[.int .u64 u,.int .i64 0])) (HD : Tel 8 #[.agg #[.int .i64 E,.int .i64 F],.int .u64 u] (.tuple #[.int .u64 v,.int .i64 0])) (HA : Tel 6 #[.agg #[.int .i64 E,.int .i64 F],.int .u64 a,.int .u64 u] (.tuple #[.bool false,.int .u64 1,.int .i64 0])) (HB : Tel 6 #[.agg #[.int .i64 E,.int .i64 F],.int .u64 a,.int .u64 v] (.tuple #[.bool d1,.int .u64 0,.int .i64 0])) (k l z' : Int) (hz : IntKind.u64.wrap (-l) = z') (hf : IntKind.u64.wrap (n + k) = z') (HF : Tel 6 #[.agg #[.int .i64 E,.int .i64 F],.int .u64 b,.int .u64 c] (.tuple #[.bool false,.int .u64 k,.int .i64 0])) (HG : Tel 6 #[.agg #[.int .i64 E,.int .i64 F],.int .u64 a,.int .u64 c] (.tuple #[.bool true,.int .u64 l,.int .i64 0])) (w : World) (HW : Hid (∀ W : World,Below w.heap.size w W → Calls Tryz.prog 5 #[] W fun e w' => e = .returned (.bool true) ∧ Below W.heap.size W w')) :
  Calls Tryz.prog 3 #[.agg #[.int .i64 E,.int .i64 F],.int .u64 a,.int .u64 b,.int .u64 c] w fun e w' => e = .returned (.bool true) ∧ Below w.heap.size w w' := by
 go_enter Tryz.func3,Tryz.ntmps3
 go_wp2_with fail
 refine (unhide HW _ (Fs.one w _ _).fr).mono ?_
 rintro e w1 ⟨rfl,hb1⟩
 have hS := (Fs.one w _ _).kept hb1
 obtain ⟨⟨z1_0_0,z1_0_1,-⟩,-⟩ := hS.cells
 go_wp2_with fail
 refine (H1 _).mono ?_
 rintro e w2 ⟨rfl,hb2⟩
 replace hS := hS.kept hb2
 clear z1_0_0 z1_0_1
 obtain ⟨⟨z2_0_0,z2_0_1,-⟩,-⟩ := hS.cells
 go_wp2_with fail
 refine (H2 _).mono ?_
 rintro e w3 ⟨rfl,hb3⟩
 replace hS := hS.kept hb3
 clear z2_0_0 z2_0_1
 obtain ⟨⟨z3_0_0,z3_0_1,-⟩,-⟩ := hS.cells
 go_wp2_with fail
 refine (HU _).mono ?_
 rintro e w4 ⟨rfl,hb4⟩
 replace hS := hS.kept hb4
 clear z3_0_0 z3_0_1
 obtain ⟨⟨z4_0_0,z4_0_1,-⟩,-⟩ := hS.cells
 go_wp2_with fail
 refine (HD _).mono ?_
 rintro e w5 ⟨rfl,hb5⟩
 replace hS := hS.kept hb5
 clear z4_0_0 z4_0_1
 obtain ⟨⟨z5_0_0,z5_0_1,-⟩,-⟩ := hS.cells
 go_wp2_with fail
 refine (HA _).mono ?_
 rintro e w6 ⟨rfl,hb6⟩
 replace hS := hS.kept hb6
 clear z5_0_0 z5_0_1
 obtain ⟨⟨z6_0_0,z6_0_1,-⟩,-⟩ := hS.cells
 go_wp2_with fail
 refine (HB _).mono ?_
 rintro e w7 ⟨rfl,hb7⟩
 replace hS := hS.kept hb7
 clear z6_0_0 z6_0_1
 obtain ⟨⟨z7_0_0,z7_0_1,-⟩,-⟩ := hS.cells
 go_wp2_with fail
 refine (HK _).mono ?_
 rintro e w8 ⟨rfl,hb8⟩
 replace hS := hS.kept hb8
 clear z7_0_0 z7_0_1
 obtain ⟨⟨z8_0_0,z8_0_1,-⟩,-⟩ := hS.cells
 go_wp2_with fail
 refine (HO _).mono ?_
 rintro e w9 ⟨rfl,hb9⟩
 replace hS := hS.kept hb9
 clear z8_0_0 z8_0_1
 obtain ⟨⟨z9_0_0,z9_0_1,-⟩,-⟩ := hS.cells
 go_wp2_with fail
 refine (HF _).mono ?_
 rintro e w10 ⟨rfl,hb10⟩
 replace hS := hS.kept hb10
 clear z9_0_0 z9_0_1
 obtain ⟨⟨z10_0_0,z10_0_1,-⟩,-⟩ := hS.cells
 go_wp2_with fail
 refine (HG _).mono ?_
 rintro e w11 ⟨rfl,hb11⟩
 replace hS := hS.kept hb11
 clear z10_0_0 z10_0_1
 obtain ⟨⟨z11_0_0,z11_0_1,-⟩,-⟩ := hS.cells
 go_wp2
 go_ret
 exact ⟨rfl,hS.fr⟩
set_option maxRecDepth 20000 in
set_option maxHeartbeats 4000000 in
theorem steps_U_ok_tf (E F a b c : Int) (n : Int) (hn : 0 < n) (hn0 : (n == (0 : Int)) = false) (H1 : Tel 6 #[.agg #[.int .i64 E,.int .i64 F],.int .u64 a,.int .u64 b] (.tuple #[.bool false,.int .u64 n,.int .i64 0])) (H2 : Tel 6 #[.agg #[.int .i64 E,.int .i64 F],.int .u64 b,.int .u64 a] (.tuple #[.bool true,.int .u64 n,.int .i64 0])) (HK : Tel 9 #[.agg #[.int .i64 E,.int .i64 F],.int .u64 a,.int .u64 b] (.tuple #[.int .i64 (-1),.bool true,.int .i64 0])) (HO : Tel 10 #[.agg #[.int .i64 E,.int .i64 F],.int .u64 a,.int .u64 b] (.tuple #[.int .i64 (-1),.int .i64 0])) (u v : Int) (d1 : Bool) (HU : Tel 7 #[.agg #[.int .i64 E,.int .i64 F],.int .u64 a] (.tuple #[.int .u64 u,.int .i64 0])) (HD : Tel 8 #[.agg #[.int .i64 E,.int .i64 F],.int .u64 u] (.tuple #[.int .u64 v,.int .i64 0])) (HA : Tel 6 #[.agg #[.int .i64 E,.int .i64 F],.int .u64 a,.int .u64 u] (.tuple #[.bool false,.int .u64 1,.int .i64 0])) (HB : Tel 6 #[.agg #[.int .i64 E,.int .i64 F],.int .u64 a,.int .u64 v] (.tuple #[.bool d1,.int .u64 0,.int .i64 0])) (k l y' : Int) (hy : IntKind.u64.wrap (-k) = y') (hf : IntKind.u64.wrap (n + y') = l) (HF : Tel 6 #[.agg #[.int .i64 E,.int .i64 F],.int .u64 b,.int .u64 c] (.tuple #[.bool true,.int .u64 k,.int .i64 0])) (HG : Tel 6 #[.agg #[.int .i64 E,.int .i64 F],.int .u64 a,.int .u64 c] (.tuple #[.bool false,.int .u64 l,.int .i64 0])) (w : World) (HW : Hid (∀ W : World,Below w.heap.size w W → Calls Tryz.prog 5 #[] W fun e w' => e = .returned (.bool true) ∧ Below W.heap.size W w')) :
  Calls Tryz.prog 3 #[.agg #[.int .i64 E,.int .i64 F],.int .u64 a,.int .u64 b,.int .u64 c] w fun e w' => e = .returned (.bool true) ∧ Below w.heap.size w w' := by
 go_enter Tryz.func3,Tryz.ntmps3
 go_wp2_with fail
 refine (unhide HW _ (Fs.one w _ _).fr).mono ?_
 rintro e w1 ⟨rfl,hb1⟩
 have hS := (Fs.one w _ _).kept hb1
 obtain ⟨⟨z1_0_0,z1_0_1,-⟩,-⟩ := hS.cells
 go_wp2_with fail
 refine (H1 _).mono ?_
 rintro e w2 ⟨rfl,hb2⟩
 replace hS := hS.kept hb2
 clear z1_0_0 z1_0_1
 obtain ⟨⟨z2_0_0,z2_0_1,-⟩,-⟩ := hS.cells
 go_wp2_with fail
 refine (H2 _).mono ?_
 rintro e w3 ⟨rfl,hb3⟩
 replace hS := hS.kept hb3
 clear z2_0_0 z2_0_1
 obtain ⟨⟨z3_0_0,z3_0_1,-⟩,-⟩ := hS.cells
 go_wp2_with fail
 refine (HU _).mono ?_
 rintro e w4 ⟨rfl,hb4⟩
 replace hS := hS.kept hb4
 clear z3_0_0 z3_0_1
 obtain ⟨⟨z4_0_0,z4_0_1,-⟩,-⟩ := hS.cells
 go_wp2_with fail
 refine (HD _).mono ?_
 rintro e w5 ⟨rfl,hb5⟩
 replace hS := hS.kept hb5
 clear z4_0_0 z4_0_1
 obtain ⟨⟨z5_0_0,z5_0_1,-⟩,-⟩ := hS.cells
 go_wp2_with fail
 refine (HA _).mono ?_
 rintro e w6 ⟨rfl,hb6⟩
 replace hS := hS.kept hb6
 clear z5_0_0 z5_0_1
 obtain ⟨⟨z6_0_0,z6_0_1,-⟩,-⟩ := hS.cells
 go_wp2_with fail
 refine (HB _).mono ?_
 rintro e w7 ⟨rfl,hb7⟩
 replace hS := hS.kept hb7
 clear z6_0_0 z6_0_1
 obtain ⟨⟨z7_0_0,z7_0_1,-⟩,-⟩ := hS.cells
 go_wp2_with fail
 refine (HK _).mono ?_
 rintro e w8 ⟨rfl,hb8⟩
 replace hS := hS.kept hb8
 clear z7_0_0 z7_0_1
 obtain ⟨⟨z8_0_0,z8_0_1,-⟩,-⟩ := hS.cells
 go_wp2_with fail
 refine (HO _).mono ?_
 rintro e w9 ⟨rfl,hb9⟩
 replace hS := hS.kept hb9
 clear z8_0_0 z8_0_1
 obtain ⟨⟨z9_0_0,z9_0_1,-⟩,-⟩ := hS.cells
 go_wp2_with fail
 refine (HF _).mono ?_
 rintro e w10 ⟨rfl,hb10⟩
 replace hS := hS.kept hb10
 clear z9_0_0 z9_0_1
 obtain ⟨⟨z10_0_0,z10_0_1,-⟩,-⟩ := hS.cells
 go_wp2_with fail
 refine (HG _).mono ?_
 rintro e w11 ⟨rfl,hb11⟩
 replace hS := hS.kept hb11
 clear z10_0_0 z10_0_1
 obtain ⟨⟨z11_0_0,z11_0_1,-⟩,-⟩ := hS.cells
 go_wp2
 go_ret
 exact ⟨rfl,hS.fr⟩
set_option maxRecDepth 20000 in
set_option maxHeartbeats 4000000 in
theorem steps_U_ok_tt (E F a b c : Int) (n : Int) (hn : 0 < n) (hn0 : (n == (0 : Int)) = false) (H1 : Tel 6 #[.agg #[.int .i64 E,.int .i64 F],.int .u64 a,.int .u64 b] (.tuple #[.bool false,.int .u64 n,.int .i64 0])) (H2 : Tel 6 #[.agg #[.int .i64 E,.int .i64 F],.int .u64 b,.int .u64 a] (.tuple #[.bool true,.int .u64 n,.int .i64 0])) (HK : Tel 9 #[.agg #[.int .i64 E,.int .i64 F],.int .u64 a,.int .u64 b] (.tuple #[.int .i64 (-1),.bool true,.int .i64 0])) (HO : Tel 10 #[.agg #[.int .i64 E,.int .i64 F],.int .u64 a,.int .u64 b] (.tuple #[.int .i64 (-1),.int .i64 0])) (u v : Int) (d1 : Bool) (HU : Tel 7 #[.agg #[.int .i64 E,.int .i64 F],.int .u64 a] (.tuple #[.int .u64 u,.int .i64 0])) (HD : Tel 8 #[.agg #[.int .i64 E,.int .i64 F],.int .u64 u] (.tuple #[.int .u64 v,.int .i64 0])) (HA : Tel 6 #[.agg #[.int .i64 E,.int .i64 F],.int .u64 a,.int .u64 u] (.tuple #[.bool false,.int .u64 1,.int .i64 0])) (HB : Tel 6 #[.agg #[.int .i64 E,.int .i64 F],.int .u64 a,.int .u64 v] (.tuple #[.bool d1,.int .u64 0,.int .i64 0])) (k l y' z' : Int) (hy : IntKind.u64.wrap (-k) = y') (hz : IntKind.u64.wrap (-l) = z') (hf : IntKind.u64.wrap (n + y') = z') (HF : Tel 6 #[.agg #[.int .i64 E,.int .i64 F],.int .u64 b,.int .u64 c] (.tuple #[.bool true,.int .u64 k,.int .i64 0])) (HG : Tel 6 #[.agg #[.int .i64 E,.int .i64 F],.int .u64 a,.int .u64 c] (.tuple #[.bool true,.int .u64 l,.int .i64 0])) (w : World) (HW : Hid (∀ W : World,Below w.heap.size w W → Calls Tryz.prog 5 #[] W fun e w' => e = .returned (.bool true) ∧ Below W.heap.size W w')) :
  Calls Tryz.prog 3 #[.agg #[.int .i64 E,.int .i64 F],.int .u64 a,.int .u64 b,.int .u64 c] w fun e w' => e = .returned (.bool true) ∧ Below w.heap.size w w' := by
 go_enter Tryz.func3,Tryz.ntmps3
 go_wp2_with fail
 refine (unhide HW _ (Fs.one w _ _).fr).mono ?_
 rintro e w1 ⟨rfl,hb1⟩
 have hS := (Fs.one w _ _).kept hb1
 obtain ⟨⟨z1_0_0,z1_0_1,-⟩,-⟩ := hS.cells
 go_wp2_with fail
 refine (H1 _).mono ?_
 rintro e w2 ⟨rfl,hb2⟩
 replace hS := hS.kept hb2
 clear z1_0_0 z1_0_1
 obtain ⟨⟨z2_0_0,z2_0_1,-⟩,-⟩ := hS.cells
 go_wp2_with fail
 refine (H2 _).mono ?_
 rintro e w3 ⟨rfl,hb3⟩
 replace hS := hS.kept hb3
 clear z2_0_0 z2_0_1
 obtain ⟨⟨z3_0_0,z3_0_1,-⟩,-⟩ := hS.cells
 go_wp2_with fail
 refine (HU _).mono ?_
 rintro e w4 ⟨rfl,hb4⟩
 replace hS := hS.kept hb4
 clear z3_0_0 z3_0_1
 obtain ⟨⟨z4_0_0,z4_0_1,-⟩,-⟩ := hS.cells
 go_wp2_with fail
 refine (HD _).mono ?_
 rintro e w5 ⟨rfl,hb5⟩
 replace hS := hS.kept hb5
 clear z4_0_0 z4_0_1
 obtain ⟨⟨z5_0_0,z5_0_1,-⟩,-⟩ := hS.cells
 go_wp2_with fail
 refine (HA _).mono ?_
 rintro e w6 ⟨rfl,hb6⟩
 replace hS := hS.kept hb6
 clear z5_0_0 z5_0_1
 obtain ⟨⟨z6_0_0,z6_0_1,-⟩,-⟩ := hS.cells
 go_wp2_with fail
 refine (HB _).mono ?_
 rintro e w7 ⟨rfl,hb7⟩
 replace hS := hS.kept hb7
 clear z6_0_0 z6_0_1
 obtain ⟨⟨z7_0_0,z7_0_1,-⟩,-⟩ := hS.cells
 go_wp2_with fail
 refine (HK _).mono ?_
 rintro e w8 ⟨rfl,hb8⟩
 replace hS := hS.kept hb8
 clear z7_0_0 z7_0_1
 obtain ⟨⟨z8_0_0,z8_0_1,-⟩,-⟩ := hS.cells
 go_wp2_with fail
 refine (HO _).mono ?_
 rintro e w9 ⟨rfl,hb9⟩
 replace hS := hS.kept hb9
 clear z8_0_0 z8_0_1
 obtain ⟨⟨z9_0_0,z9_0_1,-⟩,-⟩ := hS.cells
 go_wp2_with fail
 refine (HF _).mono ?_
 rintro e w10 ⟨rfl,hb10⟩
 replace hS := hS.kept hb10
 clear z9_0_0 z9_0_1
 obtain ⟨⟨z10_0_0,z10_0_1,-⟩,-⟩ := hS.cells
 go_wp2_with fail
 refine (HG _).mono ?_
 rintro e w11 ⟨rfl,hb11⟩
 replace hS := hS.kept hb11
 clear z10_0_0 z10_0_1
 obtain ⟨⟨z11_0_0,z11_0_1,-⟩,-⟩ := hS.cells
 go_wp2
 go_ret
 exact ⟨rfl,hS.fr⟩
set_option maxRecDepth 20000 in
set_option maxHeartbeats 4000000 in
theorem steps_U_end_2 (E F a b c : Int) (n : Int) (hn : 0 < n) (hn0 : (n == (0 : Int)) = false) (H1 : Tel 6 #[.agg #[.int .i64 E,.int .i64 F],.int .u64 a,.int .u64 b] (.tuple #[.bool false,.int .u64 n,.int .i64 0])) (H2 : Tel 6 #[.agg #[.int .i64 E,.int .i64 F],.int .u64 b,.int .u64 a] (.tuple #[.bool true,.int .u64 n,.int .i64 0])) (HK : Tel 9 #[.agg #[.int .i64 E,.int .i64 F],.int .u64 a,.int .u64 b] (.tuple #[.int .i64 (-1),.bool true,.int .i64 0])) (HO : Tel 10 #[.agg #[.int .i64 E,.int .i64 F],.int .u64 a,.int .u64 b] (.tuple #[.int .i64 (-1),.int .i64 0])) (u eu : Int) (heu : (eu == (0 : Int)) = false) (HU : Tel 7 #[.agg #[.int .i64 E,.int .i64 F],.int .u64 a] (.tuple #[.int .u64 u,.int .i64 eu])) (d2 d3 : Bool) (k l e3 : Int) (HF : Tel 6 #[.agg #[.int .i64 E,.int .i64 F],.int .u64 b,.int .u64 c] (.tuple #[.bool d2,.int .u64 k,.int .i64 2])) (HG : Tel 6 #[.agg #[.int .i64 E,.int .i64 F],.int .u64 a,.int .u64 c] (.tuple #[.bool d3,.int .u64 l,.int .i64 e3])) (w : World) (HW : Hid (∀ W : World,Below w.heap.size w W → Calls Tryz.prog 5 #[] W fun e w' => e = .returned (.bool true) ∧ Below W.heap.size W w')) :
  Calls Tryz.prog 3 #[.agg #[.int .i64 E,.int .i64 F],.int .u64 a,.int .u64 b,.int .u64 c] w fun e w' => e = .returned (.bool true) ∧ Below w.heap.size w w' := by
 go_enter Tryz.func3,Tryz.ntmps3
 go_wp2_with fail
 refine (unhide HW _ (Fs.one w _ _).fr).mono ?_
 rintro e w1 ⟨rfl,hb1⟩
 have hS := (Fs.one w _ _).kept hb1
 obtain ⟨⟨z1_0_0,z1_0_1,-⟩,-⟩ := hS.cells
 go_wp2_with fail
 refine (H1 _).mono ?_
 rintro e w2 ⟨rfl,hb2⟩
 replace hS := hS.kept hb2
 clear z1_0_0 z1_0_1
 obtain ⟨⟨z2_0_0,z2_0_1,-⟩,-⟩ := hS.cells
 go_wp2_with fail
 refine (H2 _).mono ?_
 rintro e w3 ⟨rfl,hb3⟩
 replace hS := hS.kept hb3
 clear z2_0_0 z2_0_1
 obtain ⟨⟨z3_0_0,z3_0_1,-⟩,-⟩ := hS.cells
 go_wp2_with fail
 refine (HU _).mono ?_
 rintro e w4 ⟨rfl,hb4⟩
 replace hS := hS.kept hb4
 clear z3_0_0 z3_0_1
 obtain ⟨⟨z4_0_0,z4_0_1,-⟩,-⟩ := hS.cells
 go_wp2_with fail
 refine (HK _).mono ?_
 rintro e w5 ⟨rfl,hb5⟩
 replace hS := hS.kept hb5
 clear z4_0_0 z4_0_1
 obtain ⟨⟨z5_0_0,z5_0_1,-⟩,-⟩ := hS.cells
 go_wp2_with fail
 refine (HO _).mono ?_
 rintro e w6 ⟨rfl,hb6⟩
 replace hS := hS.kept hb6
 clear z5_0_0 z5_0_1
 obtain ⟨⟨z6_0_0,z6_0_1,-⟩,-⟩ := hS.cells
 go_wp2_with fail
 refine (HF _).mono ?_
 rintro e w7 ⟨rfl,hb7⟩
 replace hS := hS.kept hb7
 clear z6_0_0 z6_0_1
 obtain ⟨⟨z7_0_0,z7_0_1,-⟩,-⟩ := hS.cells
 go_wp2_with fail
 refine (HG _).mono ?_
 rintro e w8 ⟨rfl,hb8⟩
 replace hS := hS.kept hb8
 clear z7_0_0 z7_0_1
 obtain ⟨⟨z8_0_0,z8_0_1,-⟩,-⟩ := hS.cells
 go_wp2
 go_ret
 exact ⟨rfl,hS.fr⟩
set_option maxRecDepth 20000 in
set_option maxHeartbeats 4000000 in
theorem steps_U_end_6 (E F a b c : Int) (n : Int) (hn : 0 < n) (hn0 : (n == (0 : Int)) = false) (H1 : Tel 6 #[.agg #[.int .i64 E,.int .i64 F],.int .u64 a,.int .u64 b] (.tuple #[.bool false,.int .u64 n,.int .i64 0])) (H2 : Tel 6 #[.agg #[.int .i64 E,.int .i64 F],.int .u64 b,.int .u64 a] (.tuple #[.bool true,.int .u64 n,.int .i64 0])) (HK : Tel 9 #[.agg #[.int .i64 E,.int .i64 F],.int .u64 a,.int .u64 b] (.tuple #[.int .i64 (-1),.bool true,.int .i64 0])) (HO : Tel 10 #[.agg #[.int .i64 E,.int .i64 F],.int .u64 a,.int .u64 b] (.tuple #[.int .i64 (-1),.int .i64 0])) (u eu : Int) (heu : (eu == (0 : Int)) = false) (HU : Tel 7 #[.agg #[.int .i64 E,.int .i64 F],.int .u64 a] (.tuple #[.int .u64 u,.int .i64 eu])) (d2 d3 : Bool) (k l e3 : Int) (HF : Tel 6 #[.agg #[.int .i64 E,.int .i64 F],.int .u64 b,.int .u64 c] (.tuple #[.bool d2,.int .u64 k,.int .i64 6])) (HG : Tel 6 #[.agg #[.int .i64 E,.int .i64 F],.int .u64 a,.int .u64 c] (.tuple #[.bool d3,.int .u64 l,.int .i64 e3])) (w : World) (HW : Hid (∀ W : World,Below w.heap.size w W → Calls Tryz.prog 5 #[] W fun e w' => e = .returned (.bool true) ∧ Below W.heap.size W w')) :
  Calls Tryz.prog 3 #[.agg #[.int .i64 E,.int .i64 F],.int .u64 a,.int .u64 b,.int .u64 c] w fun e w' => e = .returned (.bool true) ∧ Below w.heap.size w w' := by
 go_enter Tryz.func3,Tryz.ntmps3
 go_wp2_with fail
 refine (unhide HW _ (Fs.one w _ _).fr).mono ?_
 rintro e w1 ⟨rfl,hb1⟩
 have hS := (Fs.one w _ _).kept hb1
 obtain ⟨⟨z1_0_0,z1_0_1,-⟩,-⟩ := hS.cells
 go_wp2_with fail
 refine (H1 _).mono ?_
 rintro e w2 ⟨rfl,hb2⟩
 replace hS := hS.kept hb2
 clear z1_0_0 z1_0_1
 obtain ⟨⟨z2_0_0,z2_0_1,-⟩,-⟩ := hS.cells
 go_wp2_with fail
 refine (H2 _).mono ?_
 rintro e w3 ⟨rfl,hb3⟩
 replace hS := hS.kept hb3
 clear z2_0_0 z2_0_1
 obtain ⟨⟨z3_0_0,z3_0_1,-⟩,-⟩ := hS.cells
 go_wp2_with fail
 refine (HU _).mono ?_
 rintro e w4 ⟨rfl,hb4⟩
 replace hS := hS.kept hb4
 clear z3_0_0 z3_0_1
 obtain ⟨⟨z4_0_0,z4_0_1,-⟩,-⟩ := hS.cells
 go_wp2_with fail
 refine (HK _).mono ?_
 rintro e w5 ⟨rfl,hb5⟩
 replace hS := hS.kept hb5
 clear z4_0_0 z4_0_1
 obtain ⟨⟨z5_0_0,z5_0_1,-⟩,-⟩ := hS.cells
 go_wp2_with fail
 refine (HO _).mono ?_
 rintro e w6 ⟨rfl,hb6⟩
 replace hS := hS.kept hb6
 clear z5_0_0 z5_0_1
 obtain ⟨⟨z6_0_0,z6_0_1,-⟩,-⟩ := hS.cells
 go_wp2_with fail
 refine (HF _).mono ?_
 rintro e w7 ⟨rfl,hb7⟩
 replace hS := hS.kept hb7
 clear z6_0_0 z6_0_1
 obtain ⟨⟨z7_0_0,z7_0_1,-⟩,-⟩ := hS.cells
 go_wp2_with fail
 refine (HG _).mono ?_
 rintro e w8 ⟨rfl,hb8⟩
 replace hS := hS.kept hb8
 clear z7_0_0 z7_0_1
 obtain ⟨⟨z8_0_0,z8_0_1,-⟩,-⟩ := hS.cells
 go_wp2
 go_ret
 exact ⟨rfl,hS.fr⟩
set_option maxRecDepth 20000 in
set_option maxHeartbeats 4000000 in
theorem steps_U_end_ff (E F a b c : Int) (n : Int) (hn : 0 < n) (hn0 : (n == (0 : Int)) = false) (H1 : Tel 6 #[.agg #[.int .i64 E,.int .i64 F],.int .u64 a,.int .u64 b] (.tuple #[.bool false,.int .u64 n,.int .i64 0])) (H2 : Tel 6 #[.agg #[.int .i64 E,.int .i64 F],.int .u64 b,.int .u64 a] (.tuple #[.bool true,.int .u64 n,.int .i64 0])) (HK : Tel 9 #[.agg #[.int .i64 E,.int .i64 F],.int .u64 a,.int .u64 b] (.tuple #[.int .i64 (-1),.bool true,.int .i64 0])) (HO : Tel 10 #[.agg #[.int .i64 E,.int .i64 F],.int .u64 a,.int .u64 b] (.tuple #[.int .i64 (-1),.int .i64 0])) (u eu : Int) (heu : (eu == (0 : Int)) = false) (HU : Tel 7 #[.agg #[.int .i64 E,.int .i64 F],.int .u64 a] (.tuple #[.int .u64 u,.int .i64 eu])) (k l : Int) (hf : IntKind.u64.wrap (n + k) = l) (HF : Tel 6 #[.agg #[.int .i64 E,.int .i64 F],.int .u64 b,.int .u64 c] (.tuple #[.bool false,.int .u64 k,.int .i64 0])) (HG : Tel 6 #[.agg #[.int .i64 E,.int .i64 F],.int .u64 a,.int .u64 c] (.tuple #[.bool false,.int .u64 l,.int .i64 0])) (w : World) (HW : Hid (∀ W : World,Below w.heap.size w W → Calls Tryz.prog 5 #[] W fun e w' => e = .returned (.bool true) ∧ Below W.heap.size W w')) :
  Calls Tryz.prog 3 #[.agg #[.int .i64 E,.int .i64 F],.int .u64 a,.int .u64 b,.int .u64 c] w fun e w' => e = .returned (.bool true) ∧ Below w.heap.size w w' := by
 go_enter Tryz.func3,Tryz.ntmps3
 go_wp2_with fail
 refine (unhide HW _ (Fs.one w _ _).fr).mono ?_
 rintro e w1 ⟨rfl,hb1⟩
 have hS := (Fs.one w _ _).kept hb1
 obtain ⟨⟨z1_0_0,z1_0_1,-⟩,-⟩ := hS.cells
 go_wp2_with fail
 refine (H1 _).mono ?_
 rintro e w2 ⟨rfl,hb2⟩
 replace hS := hS.kept hb2
 clear z1_0_0 z1_0_1
 obtain ⟨⟨z2_0_0,z2_0_1,-⟩,-⟩ := hS.cells
 go_wp2_with fail
 refine (H2 _).mono ?_
 rintro e w3 ⟨rfl,hb3⟩
 replace hS := hS.kept hb3
 clear z2_0_0 z2_0_1
 obtain ⟨⟨z3_0_0,z3_0_1,-⟩,-⟩ := hS.cells
 go_wp2_with fail
 refine (HU _).mono ?_
 rintro e w4 ⟨rfl,hb4⟩
 replace hS := hS.kept hb4
 clear z3_0_0 z3_0_1
 obtain ⟨⟨z4_0_0,z4_0_1,-⟩,-⟩ := hS.cells
 go_wp2_with fail
 refine (HK _).mono ?_
 rintro e w5 ⟨rfl,hb5⟩
 replace hS := hS.kept hb5
 clear z4_0_0 z4_0_1
 obtain ⟨⟨z5_0_0,z5_0_1,-⟩,-⟩ := hS.cells
 go_wp2_with fail
 refine (HO _).mono ?_
 rintro e w6 ⟨rfl,hb6⟩
 replace hS := hS.kept hb6
 clear z5_0_0 z5_0_1
 obtain ⟨⟨z6_0_0,z6_0_1,-⟩,-⟩ := hS.cells
 go_wp2_with fail
 refine (HF _).mono ?_
 rintro e w7 ⟨rfl,hb7⟩
 replace hS := hS.kept hb7
 clear z6_0_0 z6_0_1
 obtain ⟨⟨z7_0_0,z7_0_1,-⟩,-⟩ := hS.cells
 go_wp2_with fail
 refine (HG _).mono ?_
 rintro e w8 ⟨rfl,hb8⟩
 replace hS := hS.kept hb8
 clear z7_0_0 z7_0_1
 obtain ⟨⟨z8_0_0,z8_0_1,-⟩,-⟩ := hS.cells
 go_wp2
 go_ret
 exact ⟨rfl,hS.fr⟩
set_option maxRecDepth 20000 in
set_option maxHeartbeats 4000000 in
theorem steps_U_end_ft (E F a b c : Int) (n : Int) (hn : 0 < n) (hn0 : (n == (0 : Int)) = false) (H1 : Tel 6 #[.agg #[.int .i64 E,.int .i64 F],.int .u64 a,.int .u64 b] (.tuple #[.bool false,.int .u64 n,.int .i64 0])) (H2 : Tel 6 #[.agg #[.int .i64 E,.int .i64 F],.int .u64 b,.int .u64 a] (.tuple #[.bool true,.int .u64 n,.int .i64 0])) (HK : Tel 9 #[.agg #[.int .i64 E,.int .i64 F],.int .u64 a,.int .u64 b] (.tuple #[.int .i64 (-1),.bool true,.int .i64 0])) (HO : Tel 10 #[.agg #[.int .i64 E,.int .i64 F],.int .u64 a,.int .u64 b] (.tuple #[.int .i64 (-1),.int .i64 0])) (u eu : Int) (heu : (eu == (0 : Int)) = false) (HU : Tel 7 #[.agg #[.int .i64 E,.int .i64 F],.int .u64 a] (.tuple #[.int .u64 u,.int .i64 eu])) (k l z' : Int) (hz : IntKind.u64.wrap (-l) = z') (hf : IntKind.u64.wrap (n + k) = z') (HF : Tel 6 #[.agg #[.int .i64 E,.int .i64 F],.int .u64 b,.int .u64 c] (.tuple #[.bool false,.int .u64 k,.int .i64 0])) (HG : Tel 6 #[.agg #[.int .i64 E,.int .i64 F],.int .u64 a,.int .u64 c] (.tuple #[.bool true,.int .u64 l,.int .i64 0])) (w : World) (HW : Hid (∀ W : World,Below w.heap.size w W → Calls Tryz.prog 5 #[] W fun e w' => e = .returned (.bool true) ∧ Below W.heap.size W w')) :
  Calls Tryz.prog 3 #[.agg #[.int .i64 E,.int .i64 F],.int .u64 a,.int .u64 b,.int .u64 c] w fun e w' => e = .returned (.bool true) ∧ Below w.heap.size w w' := by
 go_enter Tryz.func3,Tryz.ntmps3
 go_wp2_with fail
 refine (unhide HW _ (Fs.one w _ _).fr).mono ?_
 rintro e w1 ⟨rfl,hb1⟩
 have hS := (Fs.one w _ _).kept hb1
 obtain ⟨⟨z1_0_0,z1_0_1,-⟩,-⟩ := hS.cells
 go_wp2_with fail
 refine (H1 _).mono ?_
 rintro e w2 ⟨rfl,hb2⟩
 replace hS := hS.kept hb2
 clear z1_0_0 z1_0_1
 obtain ⟨⟨z2_0_0,z2_0_1,-⟩,-⟩ := hS.cells
 go_wp2_with fail
 refine (H2 _).mono ?_
 rintro e w3 ⟨rfl,hb3⟩
 replace hS := hS.kept hb3
 clear z2_0_0 z2_0_1
 obtain ⟨⟨z3_0_0,z3_0_1,-⟩,-⟩ := hS.cells
 go_wp2_with fail
 refine (HU _).mono ?_
 rintro e w4 ⟨rfl,hb4⟩
 replace hS := hS.kept hb4
 clear z3_0_0 z3_0_1
 obtain ⟨⟨z4_0_0,z4_0_1,-⟩,-⟩ := hS.cells
 go_wp2_with fail
 refine (HK _).mono ?_
 rintro e w5 ⟨rfl,hb5⟩
 replace hS := hS.kept hb5
 clear z4_0_0 z4_0_1
 obtain ⟨⟨z5_0_0,z5_0_1,-⟩,-⟩ := hS.cells
 go_wp2_with fail
 refine (HO _).mono ?_
 rintro e w6 ⟨rfl,hb6⟩
 replace hS := hS.kept hb6
 clear z5_0_0 z5_0_1
 obtain ⟨⟨z6_0_0,z6_0_1,-⟩,-⟩ := hS.cells
 go_wp2_with fail
 refine (HF _).mono ?_
 rintro e w7 ⟨rfl,hb7⟩
 replace hS := hS.kept hb7
 clear z6_0_0 z6_0_1
 obtain ⟨⟨z7_0_0,z7_0_1,-⟩,-⟩ := hS.cells
 go_wp2_with fail
 refine (HG _).mono ?_
 rintro e w8 ⟨rfl,hb8⟩
 replace hS := hS.kept hb8
 clear z7_0_0 z7_0_1
 obtain ⟨⟨z8_0_0,z8_0_1,-⟩,-⟩ := hS.cells
 go_wp2
 go_ret
 exact ⟨rfl,hS.fr⟩
set_option maxRecDepth 20000 in
set_option maxHeartbeats 4000000 in
theorem steps_U_end_tf (E F a b c : Int) (n : Int) (hn : 0 < n) (hn0 : (n == (0 : Int)) = false) (H1 : Tel 6 #[.agg #[.int .i64 E,.int .i64 F],.int .u64 a,.int .u64 b] (.tuple #[.bool false,.int .u64 n,.int .i64 0])) (H2 : Tel 6 #[.agg #[.int .i64 E,.int .i64 F],.int .u64 b,.int .u64 a] (.tuple #[.bool true,.int .u64 n,.int .i64 0])) (HK : Tel 9 #[.agg #[.int .i64 E,.int .i64 F],.int .u64 a,.int .u64 b] (.tuple #[.int .i64 (-1),.bool true,.int .i64 0])) (HO : Tel 10 #[.agg #[.int .i64 E,.int .i64 F],.int .u64 a,.int .u64 b] (.tuple #[.int .i64 (-1),.int .i64 0])) (u eu : Int) (heu : (eu == (0 : Int)) = false) (HU : Tel 7 #[.agg #[.int .i64 E,.int .i64 F],.int .u64 a] (.tuple #[.int .u64 u,.int .i64 eu])) (k l y' : Int) (hy : IntKind.u64.wrap (-k) = y') (hf : IntKind.u64.wrap (n + y') = l) (HF : Tel 6 #[.agg #[.int .i64 E,.int .i64 F],.int .u64 b,.int .u64 c] (.tuple #[.bool true,.int .u64 k,.int .i64 0])) (HG : Tel 6 #[.agg #[.int .i64 E,.int .i64 F],.int .u64 a,.int .u64 c] (.tuple #[.bool false,.int .u64 l,.int .i64 0])) (w : World) (HW : Hid (∀ W : World,Below w.heap.size w W → Calls Tryz.prog 5 #[] W fun e w' => e = .returned (.bool true) ∧ Below W.heap.size W w')) :
  Calls Tryz.prog 3 #[.agg #[.int .i64 E,.int .i64 F],.int .u64 a,.int .u64 b,.int .u64 c] w fun e w' => e = .returned (.bool true) ∧ Below w.heap.size w w' := by
 go_enter Tryz.func3,Tryz.ntmps3
 go_wp2_with fail
 refine (unhide HW _ (Fs.one w _ _).fr).mono ?_
 rintro e w1 ⟨rfl,hb1⟩
 have hS := (Fs.one w _ _).kept hb1
 obtain ⟨⟨z1_0_0,z1_0_1,-⟩,-⟩ := hS.cells
 go_wp2_with fail
 refine (H1 _).mono ?_
 rintro e w2 ⟨rfl,hb2⟩
 replace hS := hS.kept hb2
 clear z1_0_0 z1_0_1
 obtain ⟨⟨z2_0_0,z2_0_1,-⟩,-⟩ := hS.cells
 go_wp2_with fail
 refine (H2 _).mono ?_
 rintro e w3 ⟨rfl,hb3⟩
 replace hS := hS.kept hb3
 clear z2_0_0 z2_0_1
 obtain ⟨⟨z3_0_0,z3_0_1,-⟩,-⟩ := hS.cells
 go_wp2_with fail
 refine (HU _).mono ?_
 rintro e w4 ⟨rfl,hb4⟩
 replace hS := hS.kept hb4
 clear z3_0_0 z3_0_1
 obtain ⟨⟨z4_0_0,z4_0_1,-⟩,-⟩ := hS.cells
 go_wp2_with fail
 refine (HK _).mono ?_
 rintro e w5 ⟨rfl,hb5⟩
 replace hS := hS.kept hb5
 clear z4_0_0 z4_0_1
 obtain ⟨⟨z5_0_0,z5_0_1,-⟩,-⟩ := hS.cells
 go_wp2_with fail
 refine (HO _).mono ?_
 rintro e w6 ⟨rfl,hb6⟩
 replace hS := hS.kept hb6
 clear z5_0_0 z5_0_1
 obtain ⟨⟨z6_0_0,z6_0_1,-⟩,-⟩ := hS.cells
 go_wp2_with fail
 refine (HF _).mono ?_
 rintro e w7 ⟨rfl,hb7⟩
 replace hS := hS.kept hb7
 clear z6_0_0 z6_0_1
 obtain ⟨⟨z7_0_0,z7_0_1,-⟩,-⟩ := hS.cells
 go_wp2_with fail
 refine (HG _).mono ?_
 rintro e w8 ⟨rfl,hb8⟩
 replace hS := hS.kept hb8
 clear z7_0_0 z7_0_1
 obtain ⟨⟨z8_0_0,z8_0_1,-⟩,-⟩ := hS.cells
 go_wp2
 go_ret
 exact ⟨rfl,hS.fr⟩
set_option maxRecDepth 20000 in
set_option maxHeartbeats 4000000 in
theorem steps_U_end_tt (E F a b c : Int) (n : Int) (hn : 0 < n) (hn0 : (n == (0 : Int)) = false) (H1 : Tel 6 #[.agg #[.int .i64 E,.int .i64 F],.int .u64 a,.int .u64 b] (.tuple #[.bool false,.int .u64 n,.int .i64 0])) (H2 : Tel 6 #[.agg #[.int .i64 E,.int .i64 F],.int .u64 b,.int .u64 a] (.tuple #[.bool true,.int .u64 n,.int .i64 0])) (HK : Tel 9 #[.agg #[.int .i64 E,.int .i64 F],.int .u64 a,.int .u64 b] (.tuple #[.int .i64 (-1),.bool true,.int .i64 0])) (HO : Tel 10 #[.agg #[.int .i64 E,.int .i64 F],.int .u64 a,.int .u64 b] (.tuple #[.int .i64 (-1),.int .i64 0])) (u eu : Int) (heu : (eu == (0 : Int)) = false) (HU : Tel 7 #[.agg #[.int .i64 E,.int .i64 F],.int .u64 a] (.tuple #[.int .u64 u,.int .i64 eu])) (k l y' z' : Int) (hy : IntKind.u64.wrap (-k) = y') (hz : IntKind.u64.wrap (-l) = z') (hf : IntKind.u64.wrap (n + y') = z') (HF : Tel 6 #[.agg #[.int .i64 E,.int .i64 F],.int .u64 b,.int .u64 c] (.tuple #[.bool true,.int .u64 k,.int .i64 0])) (HG : Tel 6 #[.agg #[.int .i64 E,.int .i64 F],.int .u64 a,.int .u64 c] (.tuple #[.bool true,.int .u64 l,.int .i64 0])) (w : World) (HW : Hid (∀ W : World,Below w.heap.size w W → Calls Tryz.prog 5 #[] W fun e w' => e = .returned (.bool true) ∧ Below W.heap.size W w')) :
  Calls Tryz.prog 3 #[.agg #[.int .i64 E,.int .i64 F],.int .u64 a,.int .u64 b,.int .u64 c] w fun e w' => e = .returned (.bool true) ∧ Below w.heap.size w w' := by
 go_enter Tryz.func3,Tryz.ntmps3
 go_wp2_with fail
 refine (unhide HW _ (Fs.one w _ _).fr).mono ?_
 rintro e w1 ⟨rfl,hb1⟩
 have hS := (Fs.one w _ _).kept hb1
 obtain ⟨⟨z1_0_0,z1_0_1,-⟩,-⟩ := hS.cells
 go_wp2_with fail
 refine (H1 _).mono ?_
 rintro e w2 ⟨rfl,hb2⟩
 replace hS := hS.kept hb2
 clear z1_0_0 z1_0_1
 obtain ⟨⟨z2_0_0,z2_0_1,-⟩,-⟩ := hS.cells
 go_wp2_with fail
 refine (H2 _).mono ?_
 rintro e w3 ⟨rfl,hb3⟩
 replace hS := hS.kept hb3
 clear z2_0_0 z2_0_1
 obtain ⟨⟨z3_0_0,z3_0_1,-⟩,-⟩ := hS.cells
 go_wp2_with fail
 refine (HU _).mono ?_
 rintro e w4 ⟨rfl,hb4⟩
 replace hS := hS.kept hb4
 clear z3_0_0 z3_0_1
 obtain ⟨⟨z4_0_0,z4_0_1,-⟩,-⟩ := hS.cells
 go_wp2_with fail
 refine (HK _).mono ?_
 rintro e w5 ⟨rfl,hb5⟩
 replace hS := hS.kept hb5
 clear z4_0_0 z4_0_1
 obtain ⟨⟨z5_0_0,z5_0_1,-⟩,-⟩ := hS.cells
 go_wp2_with fail
 refine (HO _).mono ?_
 rintro e w6 ⟨rfl,hb6⟩
 replace hS := hS.kept hb6
 clear z5_0_0 z5_0_1
 obtain ⟨⟨z6_0_0,z6_0_1,-⟩,-⟩ := hS.cells
 go_wp2_with fail
 refine (HF _).mono ?_
 rintro e w7 ⟨rfl,hb7⟩
 replace hS := hS.kept hb7
 clear z6_0_0 z6_0_1
 obtain ⟨⟨z7_0_0,z7_0_1,-⟩,-⟩ := hS.cells
 go_wp2_with fail
 refine (HG _).mono ?_
 rintro e w8 ⟨rfl,hb8⟩
 replace hS := hS.kept hb8
 clear z7_0_0 z7_0_1
 obtain ⟨⟨z8_0_0,z8_0_1,-⟩,-⟩ := hS.cells
 go_wp2
 go_ret
 exact ⟨rfl,hS.fr⟩
end Go.Proofs.YtdfmanglfdeooaaGreatDoor
