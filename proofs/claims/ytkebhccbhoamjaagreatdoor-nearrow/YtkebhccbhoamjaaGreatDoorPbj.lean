/- Of what NearRowRow stands on: NrRRow. -/
import Derived.Test.YtkebhccbhoamjaaGreatDoorPbd
namespace Go.Proofs.YtkebhccbhoamjaaGreatDoor
open Go.RowKit
set_option maxHeartbeats 1000000
set_option maxRecDepth 20000
theorem rtwo_1 (E F a b c : Int) (hc : (c == (0 : Int)) = false) (H0 : Tel 47 #[.agg #[.int .i64 E,.int .i64 F],.int .u64 a] (.int .i64 c))  (w : World)  :
  Calls Tryz.prog 63 #[.agg #[.int .i64 E,.int .i64 F],.int .u64 a,.int .u64 b] w fun e w' => e = .returned (.int .i64 c) ∧ Below w.heap.size w w' := by
 go_enter Tryz.func63,Tryz.ntmps63
 go_wp2_with fail
 refine (H0 _).mono ?_
 rintro e w1 ⟨rfl,hb1⟩
 have hS := (Fs.one w _ _).kept hb1
 obtain ⟨⟨ya,yb,-⟩,-⟩ := hS.cells
 go_wp2
 go_ret
 exact ⟨rfl,hS.fr⟩
theorem rtwo_2 (E F a b c : Int) (H0 : Tel 47 #[.agg #[.int .i64 E,.int .i64 F],.int .u64 a] (.int .i64 0)) (H1 : Tel 47 #[.agg #[.int .i64 E,.int .i64 F],.int .u64 b] (.int .i64 c))  (w : World)  :
  Calls Tryz.prog 63 #[.agg #[.int .i64 E,.int .i64 F],.int .u64 a,.int .u64 b] w fun e w' => e = .returned (.int .i64 c) ∧ Below w.heap.size w w' := by
 go_enter Tryz.func63,Tryz.ntmps63
 go_wp2_with fail
 refine (H0 _).mono ?_
 rintro e w1 ⟨rfl,hb1⟩
 have hS := (Fs.one w _ _).kept hb1
 obtain ⟨⟨ya,yb,-⟩,-⟩ := hS.cells
 go_wp2_with fail
 refine (H1 _).mono ?_
 rintro e w2 ⟨rfl,hb2⟩
 replace hS := hS.kept hb2
 clear ya yb
 obtain ⟨⟨yc,yd,-⟩,-⟩ := hS.cells
 go_wp2
 go_ret
 exact ⟨rfl,hS.fr⟩
theorem rst_tf (E F a b x y n : Int) (HA : Tel 49 #[.agg #[.int .i64 E,.int .i64 F],.int .u64 a] (.tuple #[.bool true,.int .u64 x])) (HB : Tel 49 #[.agg #[.int .i64 E,.int .i64 F],.int .u64 b] (.tuple #[.bool false,.int .u64 y])) (hn : IntKind.u64.wrap (x + y) = n) (w : World)  :
  Calls Tryz.prog 64 #[.agg #[.int .i64 E,.int .i64 F],.int .u64 a,.int .u64 b] w fun e w' => e = .returned (.tuple #[.bool false,.int .u64 n]) ∧ Below w.heap.size w w' := by
 go_enter Tryz.func64,Tryz.ntmps64
 go_wp2_with fail
 refine (HA _).mono ?_
 rintro e w1 ⟨rfl,hb1⟩
 have hS := (Fs.one w _ _).kept hb1
 obtain ⟨⟨ya,yb,-⟩,-⟩ := hS.cells
 go_wp2_with fail
 refine (HB _).mono ?_
 rintro e w2 ⟨rfl,hb2⟩
 replace hS := hS.kept hb2
 clear ya yb
 obtain ⟨⟨yc,yd,-⟩,-⟩ := hS.cells
 go_wp2
 go_ret2
 exact ⟨rfl,hS.fr⟩
theorem rst_ft (E F a b x y n : Int) (HA : Tel 49 #[.agg #[.int .i64 E,.int .i64 F],.int .u64 a] (.tuple #[.bool false,.int .u64 x])) (HB : Tel 49 #[.agg #[.int .i64 E,.int .i64 F],.int .u64 b] (.tuple #[.bool true,.int .u64 y])) (hn : IntKind.u64.wrap (x + y) = n) (w : World)  :
  Calls Tryz.prog 64 #[.agg #[.int .i64 E,.int .i64 F],.int .u64 a,.int .u64 b] w fun e w' => e = .returned (.tuple #[.bool true,.int .u64 n]) ∧ Below w.heap.size w w' := by
 go_enter Tryz.func64,Tryz.ntmps64
 go_wp2_with fail
 refine (HA _).mono ?_
 rintro e w1 ⟨rfl,hb1⟩
 have hS := (Fs.one w _ _).kept hb1
 obtain ⟨⟨ya,yb,-⟩,-⟩ := hS.cells
 go_wp2_with fail
 refine (HB _).mono ?_
 rintro e w2 ⟨rfl,hb2⟩
 replace hS := hS.kept hb2
 clear ya yb
 obtain ⟨⟨yc,yd,-⟩,-⟩ := hS.cells
 go_wp2
 go_ret2
 exact ⟨rfl,hS.fr⟩
theorem rst_fg (E F a b x y n : Int) (HA : Tel 49 #[.agg #[.int .i64 E,.int .i64 F],.int .u64 a] (.tuple #[.bool false,.int .u64 x])) (HB : Tel 49 #[.agg #[.int .i64 E,.int .i64 F],.int .u64 b] (.tuple #[.bool false,.int .u64 y])) (h : x ≤ y) (hn : IntKind.u64.wrap (y - x) = n) (w : World)  :
  Calls Tryz.prog 64 #[.agg #[.int .i64 E,.int .i64 F],.int .u64 a,.int .u64 b] w fun e w' => e = .returned (.tuple #[.bool false,.int .u64 n]) ∧ Below w.heap.size w w' := by
 go_enter Tryz.func64,Tryz.ntmps64
 go_wp2_with fail
 refine (HA _).mono ?_
 rintro e w1 ⟨rfl,hb1⟩
 have hS := (Fs.one w _ _).kept hb1
 obtain ⟨⟨ya,yb,-⟩,-⟩ := hS.cells
 go_wp2_with fail
 refine (HB _).mono ?_
 rintro e w2 ⟨rfl,hb2⟩
 replace hS := hS.kept hb2
 clear ya yb
 obtain ⟨⟨yc,yd,-⟩,-⟩ := hS.cells
 go_wp2
 go_ret2
 exact ⟨rfl,hS.fr⟩
theorem rst_fl (E F a b x y n : Int) (HA : Tel 49 #[.agg #[.int .i64 E,.int .i64 F],.int .u64 a] (.tuple #[.bool false,.int .u64 x])) (HB : Tel 49 #[.agg #[.int .i64 E,.int .i64 F],.int .u64 b] (.tuple #[.bool false,.int .u64 y])) (h : ¬ x ≤ y) (hn : IntKind.u64.wrap (x - y) = n) (w : World)  :
  Calls Tryz.prog 64 #[.agg #[.int .i64 E,.int .i64 F],.int .u64 a,.int .u64 b] w fun e w' => e = .returned (.tuple #[.bool true,.int .u64 n]) ∧ Below w.heap.size w w' := by
 go_enter Tryz.func64,Tryz.ntmps64
 go_wp2_with fail
 refine (HA _).mono ?_
 rintro e w1 ⟨rfl,hb1⟩
 have hS := (Fs.one w _ _).kept hb1
 obtain ⟨⟨ya,yb,-⟩,-⟩ := hS.cells
 go_wp2_with fail
 refine (HB _).mono ?_
 rintro e w2 ⟨rfl,hb2⟩
 replace hS := hS.kept hb2
 clear ya yb
 obtain ⟨⟨yc,yd,-⟩,-⟩ := hS.cells
 go_wp2
 go_ret2
 exact ⟨rfl,hS.fr⟩
theorem rst_tg (E F a b x y n : Int) (HA : Tel 49 #[.agg #[.int .i64 E,.int .i64 F],.int .u64 a] (.tuple #[.bool true,.int .u64 x])) (HB : Tel 49 #[.agg #[.int .i64 E,.int .i64 F],.int .u64 b] (.tuple #[.bool true,.int .u64 y])) (h : y ≤ x) (hn : IntKind.u64.wrap (x - y) = n) (w : World)  :
  Calls Tryz.prog 64 #[.agg #[.int .i64 E,.int .i64 F],.int .u64 a,.int .u64 b] w fun e w' => e = .returned (.tuple #[.bool false,.int .u64 n]) ∧ Below w.heap.size w w' := by
 go_enter Tryz.func64,Tryz.ntmps64
 go_wp2_with fail
 refine (HA _).mono ?_
 rintro e w1 ⟨rfl,hb1⟩
 have hS := (Fs.one w _ _).kept hb1
 obtain ⟨⟨ya,yb,-⟩,-⟩ := hS.cells
 go_wp2_with fail
 refine (HB _).mono ?_
 rintro e w2 ⟨rfl,hb2⟩
 replace hS := hS.kept hb2
 clear ya yb
 obtain ⟨⟨yc,yd,-⟩,-⟩ := hS.cells
 go_wp2
 go_ret2
 exact ⟨rfl,hS.fr⟩
theorem rst_tl (E F a b x y n : Int) (HA : Tel 49 #[.agg #[.int .i64 E,.int .i64 F],.int .u64 a] (.tuple #[.bool true,.int .u64 x])) (HB : Tel 49 #[.agg #[.int .i64 E,.int .i64 F],.int .u64 b] (.tuple #[.bool true,.int .u64 y])) (h : ¬ y ≤ x) (hn : IntKind.u64.wrap (y - x) = n) (w : World)  :
  Calls Tryz.prog 64 #[.agg #[.int .i64 E,.int .i64 F],.int .u64 a,.int .u64 b] w fun e w' => e = .returned (.tuple #[.bool true,.int .u64 n]) ∧ Below w.heap.size w w' := by
 go_enter Tryz.func64,Tryz.ntmps64
 go_wp2_with fail
 refine (HA _).mono ?_
 rintro e w1 ⟨rfl,hb1⟩
 have hS := (Fs.one w _ _).kept hb1
 obtain ⟨⟨ya,yb,-⟩,-⟩ := hS.cells
 go_wp2_with fail
 refine (HB _).mono ?_
 rintro e w2 ⟨rfl,hb2⟩
 replace hS := hS.kept hb2
 clear ya yb
 obtain ⟨⟨yc,yd,-⟩,-⟩ := hS.cells
 go_wp2
 go_ret2
 exact ⟨rfl,hS.fr⟩
theorem rc6_err (E F a b c : Int) (hc : (c == (0 : Int)) = false) (HT : Tel 63 #[.agg #[.int .i64 E,.int .i64 F],.int .u64 a,.int .u64 b] (.int .i64 c))  (w : World)  :
  Calls Tryz.prog 19 #[.agg #[.int .i64 E,.int .i64 F],.int .u64 a,.int .u64 b] w fun e w' => e = .returned (.tuple #[.int .i64 0,.bool false,.int .i64 c]) ∧ Below w.heap.size w w' := by
 go_enter Tryz.func19,Tryz.ntmps19
 go_wp2_with fail
 refine (HT _).mono ?_
 rintro e w1 ⟨rfl,hb1⟩
 have hS := (Fs.one w _ _).kept hb1
 obtain ⟨⟨ya,yb,-⟩,-⟩ := hS.cells
 go_wp2
 go_ret3
 exact ⟨rfl,hS.fr⟩
theorem rc6_nan1 (E F a b : Int) (HT : Tel 63 #[.agg #[.int .i64 E,.int .i64 F],.int .u64 a,.int .u64 b] (.int .i64 0)) (HK : Tel 48 #[.agg #[.int .i64 E,.int .i64 F],.int .u64 a] (.int .u8 5))  (w : World)  :
  Calls Tryz.prog 19 #[.agg #[.int .i64 E,.int .i64 F],.int .u64 a,.int .u64 b] w fun e w' => e = .returned (.tuple #[.int .i64 0,.bool false,.int .i64 0]) ∧ Below w.heap.size w w' := by
 go_enter Tryz.func19,Tryz.ntmps19
 go_wp2_with fail
 refine (HT _).mono ?_
 rintro e w1 ⟨rfl,hb1⟩
 have hS := (Fs.one w _ _).kept hb1
 obtain ⟨⟨ya,yb,-⟩,-⟩ := hS.cells
 go_wp2_with fail
 refine (HK _).mono ?_
 rintro e w2 ⟨rfl,hb2⟩
 replace hS := hS.kept hb2
 clear ya yb
 obtain ⟨⟨yc,yd,-⟩,-⟩ := hS.cells
 go_wp2
 go_ret3
 exact ⟨rfl,hS.fr⟩
theorem rc6_nan2 (E F a b : Int) (c1 : Int) (hc1 : (c1 == (5 : Int)) = false) (HT : Tel 63 #[.agg #[.int .i64 E,.int .i64 F],.int .u64 a,.int .u64 b] (.int .i64 0)) (HK : Tel 48 #[.agg #[.int .i64 E,.int .i64 F],.int .u64 a] (.int .u8 c1)) (HL : Tel 48 #[.agg #[.int .i64 E,.int .i64 F],.int .u64 b] (.int .u8 5))  (w : World)  :
  Calls Tryz.prog 19 #[.agg #[.int .i64 E,.int .i64 F],.int .u64 a,.int .u64 b] w fun e w' => e = .returned (.tuple #[.int .i64 0,.bool false,.int .i64 0]) ∧ Below w.heap.size w w' := by
 go_enter Tryz.func19,Tryz.ntmps19
 go_wp2_with fail
 refine (HT _).mono ?_
 rintro e w1 ⟨rfl,hb1⟩
 have hS := (Fs.one w _ _).kept hb1
 obtain ⟨⟨ya,yb,-⟩,-⟩ := hS.cells
 go_wp2_with fail
 refine (HK _).mono ?_
 rintro e w2 ⟨rfl,hb2⟩
 replace hS := hS.kept hb2
 clear ya yb
 obtain ⟨⟨yc,yd,-⟩,-⟩ := hS.cells
 go_wp2_with fail
 refine (HL _).mono ?_
 rintro e w3 ⟨rfl,hb3⟩
 replace hS := hS.kept hb3
 clear yc yd
 obtain ⟨⟨ye,yf,-⟩,-⟩ := hS.cells
 go_wp2
 go_ret3
 exact ⟨rfl,hS.fr⟩
theorem rs6_err (E F a b c : Int) (hc : (c == (0 : Int)) = false) (HT : Tel 63 #[.agg #[.int .i64 E,.int .i64 F],.int .u64 a,.int .u64 b] (.int .i64 c))  (w : World)  :
  Calls Tryz.prog 23 #[.agg #[.int .i64 E,.int .i64 F],.int .u64 a,.int .u64 b] w fun e w' => e = .returned (.tuple #[.bool false,.int .u64 0,.int .i64 c]) ∧ Below w.heap.size w w' := by
 go_enter Tryz.func23,Tryz.ntmps23
 go_wp2_with fail
 refine (HT _).mono ?_
 rintro e w1 ⟨rfl,hb1⟩
 have hS := (Fs.one w _ _).kept hb1
 obtain ⟨⟨ya,yb,-⟩,-⟩ := hS.cells
 go_wp2
 go_ret3
 exact ⟨rfl,hS.fr⟩
theorem rs6_nan1 (E F a b : Int) (HT : Tel 63 #[.agg #[.int .i64 E,.int .i64 F],.int .u64 a,.int .u64 b] (.int .i64 0)) (HK : Tel 48 #[.agg #[.int .i64 E,.int .i64 F],.int .u64 a] (.int .u8 5))  (w : World)  :
  Calls Tryz.prog 23 #[.agg #[.int .i64 E,.int .i64 F],.int .u64 a,.int .u64 b] w fun e w' => e = .returned (.tuple #[.bool false,.int .u64 0,.int .i64 2]) ∧ Below w.heap.size w w' := by
 go_enter Tryz.func23,Tryz.ntmps23
 go_wp2_with fail
 refine (HT _).mono ?_
 rintro e w1 ⟨rfl,hb1⟩
 have hS := (Fs.one w _ _).kept hb1
 obtain ⟨⟨ya,yb,-⟩,-⟩ := hS.cells
 go_wp2_with fail
 refine (HK _).mono ?_
 rintro e w2 ⟨rfl,hb2⟩
 replace hS := hS.kept hb2
 clear ya yb
 obtain ⟨⟨yc,yd,-⟩,-⟩ := hS.cells
 go_wp2
 go_ret3
 exact ⟨rfl,hS.fr⟩
theorem rs6_nan2 (E F a b : Int) (c1 : Int) (hc1 : (c1 == (5 : Int)) = false) (HT : Tel 63 #[.agg #[.int .i64 E,.int .i64 F],.int .u64 a,.int .u64 b] (.int .i64 0)) (HK : Tel 48 #[.agg #[.int .i64 E,.int .i64 F],.int .u64 a] (.int .u8 c1)) (HL : Tel 48 #[.agg #[.int .i64 E,.int .i64 F],.int .u64 b] (.int .u8 5))  (w : World)  :
  Calls Tryz.prog 23 #[.agg #[.int .i64 E,.int .i64 F],.int .u64 a,.int .u64 b] w fun e w' => e = .returned (.tuple #[.bool false,.int .u64 0,.int .i64 2]) ∧ Below w.heap.size w w' := by
 go_enter Tryz.func23,Tryz.ntmps23
 go_wp2_with fail
 refine (HT _).mono ?_
 rintro e w1 ⟨rfl,hb1⟩
 have hS := (Fs.one w _ _).kept hb1
 obtain ⟨⟨ya,yb,-⟩,-⟩ := hS.cells
 go_wp2_with fail
 refine (HK _).mono ?_
 rintro e w2 ⟨rfl,hb2⟩
 replace hS := hS.kept hb2
 clear ya yb
 obtain ⟨⟨yc,yd,-⟩,-⟩ := hS.cells
 go_wp2_with fail
 refine (HL _).mono ?_
 rintro e w3 ⟨rfl,hb3⟩
 replace hS := hS.kept hb3
 clear yc yd
 obtain ⟨⟨ye,yf,-⟩,-⟩ := hS.cells
 go_wp2
 go_ret3
 exact ⟨rfl,hS.fr⟩
theorem rs6_ok (E F a b n : Int) (d : Bool) (c1 : Int) (hc1 : (c1 == (5 : Int)) = false) (c2 : Int) (hc2 : (c2 == (5 : Int)) = false) (HT : Tel 63 #[.agg #[.int .i64 E,.int .i64 F],.int .u64 a,.int .u64 b] (.int .i64 0)) (HK : Tel 48 #[.agg #[.int .i64 E,.int .i64 F],.int .u64 a] (.int .u8 c1)) (HL : Tel 48 #[.agg #[.int .i64 E,.int .i64 F],.int .u64 b] (.int .u8 c2)) (HS : Tel 64 #[.agg #[.int .i64 E,.int .i64 F],.int .u64 a,.int .u64 b] (.tuple #[.bool d,.int .u64 n]))  (w : World)  :
  Calls Tryz.prog 23 #[.agg #[.int .i64 E,.int .i64 F],.int .u64 a,.int .u64 b] w fun e w' => e = .returned (.tuple #[.bool d,.int .u64 n,.int .i64 0]) ∧ Below w.heap.size w w' := by
 go_enter Tryz.func23,Tryz.ntmps23
 go_wp2_with fail
 refine (HT _).mono ?_
 rintro e w1 ⟨rfl,hb1⟩
 have hS := (Fs.one w _ _).kept hb1
 obtain ⟨⟨ya,yb,-⟩,-⟩ := hS.cells
 go_wp2_with fail
 refine (HK _).mono ?_
 rintro e w2 ⟨rfl,hb2⟩
 replace hS := hS.kept hb2
 clear ya yb
 obtain ⟨⟨yc,yd,-⟩,-⟩ := hS.cells
 go_wp2_with fail
 refine (HL _).mono ?_
 rintro e w3 ⟨rfl,hb3⟩
 replace hS := hS.kept hb3
 clear yc yd
 obtain ⟨⟨ye,yf,-⟩,-⟩ := hS.cells
 go_wp2_with fail
 refine (HS _).mono ?_
 rintro e w4 ⟨rfl,hb4⟩
 replace hS := hS.kept hb4
 clear ye yf
 obtain ⟨⟨yg,yh,-⟩,-⟩ := hS.cells
 go_wp2
 go_ret3
 exact ⟨rfl,hS.fr⟩
theorem rc6_eq (E F a b : Int) (d : Bool) (c1 : Int) (hc1 : (c1 == (5 : Int)) = false) (c2 : Int) (hc2 : (c2 == (5 : Int)) = false) (HT : Tel 63 #[.agg #[.int .i64 E,.int .i64 F],.int .u64 a,.int .u64 b] (.int .i64 0)) (HK : Tel 48 #[.agg #[.int .i64 E,.int .i64 F],.int .u64 a] (.int .u8 c1)) (HL : Tel 48 #[.agg #[.int .i64 E,.int .i64 F],.int .u64 b] (.int .u8 c2)) (HS : Tel 64 #[.agg #[.int .i64 E,.int .i64 F],.int .u64 a,.int .u64 b] (.tuple #[.bool d,.int .u64 0]))  (w : World)  :
  Calls Tryz.prog 19 #[.agg #[.int .i64 E,.int .i64 F],.int .u64 a,.int .u64 b] w fun e w' => e = .returned (.tuple #[.int .i64 0,.bool true,.int .i64 0]) ∧ Below w.heap.size w w' := by
 go_enter Tryz.func19,Tryz.ntmps19
 go_wp2_with fail
 refine (HT _).mono ?_
 rintro e w1 ⟨rfl,hb1⟩
 have hS := (Fs.one w _ _).kept hb1
 obtain ⟨⟨ya,yb,-⟩,-⟩ := hS.cells
 go_wp2_with fail
 refine (HK _).mono ?_
 rintro e w2 ⟨rfl,hb2⟩
 replace hS := hS.kept hb2
 clear ya yb
 obtain ⟨⟨yc,yd,-⟩,-⟩ := hS.cells
 go_wp2_with fail
 refine (HL _).mono ?_
 rintro e w3 ⟨rfl,hb3⟩
 replace hS := hS.kept hb3
 clear yc yd
 obtain ⟨⟨ye,yf,-⟩,-⟩ := hS.cells
 go_wp2_with fail
 refine (HS _).mono ?_
 rintro e w4 ⟨rfl,hb4⟩
 replace hS := hS.kept hb4
 clear ye yf
 obtain ⟨⟨yg,yh,-⟩,-⟩ := hS.cells
 go_wp2
 go_ret3
 exact ⟨rfl,hS.fr⟩
theorem rc6_gt (E F a b n : Int) (c1 : Int) (hc1 : (c1 == (5 : Int)) = false) (c2 : Int) (hc2 : (c2 == (5 : Int)) = false) (hn : (n == (0 : Int)) = false) (HT : Tel 63 #[.agg #[.int .i64 E,.int .i64 F],.int .u64 a,.int .u64 b] (.int .i64 0)) (HK : Tel 48 #[.agg #[.int .i64 E,.int .i64 F],.int .u64 a] (.int .u8 c1)) (HL : Tel 48 #[.agg #[.int .i64 E,.int .i64 F],.int .u64 b] (.int .u8 c2)) (HS : Tel 64 #[.agg #[.int .i64 E,.int .i64 F],.int .u64 a,.int .u64 b] (.tuple #[.bool true,.int .u64 n]))  (w : World)  :
  Calls Tryz.prog 19 #[.agg #[.int .i64 E,.int .i64 F],.int .u64 a,.int .u64 b] w fun e w' => e = .returned (.tuple #[.int .i64 1,.bool true,.int .i64 0]) ∧ Below w.heap.size w w' := by
 go_enter Tryz.func19,Tryz.ntmps19
 go_wp2_with fail
 refine (HT _).mono ?_
 rintro e w1 ⟨rfl,hb1⟩
 have hS := (Fs.one w _ _).kept hb1
 obtain ⟨⟨ya,yb,-⟩,-⟩ := hS.cells
 go_wp2_with fail
 refine (HK _).mono ?_
 rintro e w2 ⟨rfl,hb2⟩
 replace hS := hS.kept hb2
 clear ya yb
 obtain ⟨⟨yc,yd,-⟩,-⟩ := hS.cells
 go_wp2_with fail
 refine (HL _).mono ?_
 rintro e w3 ⟨rfl,hb3⟩
 replace hS := hS.kept hb3
 clear yc yd
 obtain ⟨⟨ye,yf,-⟩,-⟩ := hS.cells
 go_wp2_with fail
 refine (HS _).mono ?_
 rintro e w4 ⟨rfl,hb4⟩
 replace hS := hS.kept hb4
 clear ye yf
 obtain ⟨⟨yg,yh,-⟩,-⟩ := hS.cells
 go_wp2
 go_ret3
 exact ⟨rfl,hS.fr⟩
theorem rc6_lt (E F a b n : Int) (c1 : Int) (hc1 : (c1 == (5 : Int)) = false) (c2 : Int) (hc2 : (c2 == (5 : Int)) = false) (hn : (n == (0 : Int)) = false) (HT : Tel 63 #[.agg #[.int .i64 E,.int .i64 F],.int .u64 a,.int .u64 b] (.int .i64 0)) (HK : Tel 48 #[.agg #[.int .i64 E,.int .i64 F],.int .u64 a] (.int .u8 c1)) (HL : Tel 48 #[.agg #[.int .i64 E,.int .i64 F],.int .u64 b] (.int .u8 c2)) (HS : Tel 64 #[.agg #[.int .i64 E,.int .i64 F],.int .u64 a,.int .u64 b] (.tuple #[.bool false,.int .u64 n]))  (w : World)  :
  Calls Tryz.prog 19 #[.agg #[.int .i64 E,.int .i64 F],.int .u64 a,.int .u64 b] w fun e w' => e = .returned (.tuple #[.int .i64 (-1),.bool true,.int .i64 0]) ∧ Below w.heap.size w w' := by
 go_enter Tryz.func19,Tryz.ntmps19
 go_wp2_with fail
 refine (HT _).mono ?_
 rintro e w1 ⟨rfl,hb1⟩
 have hS := (Fs.one w _ _).kept hb1
 obtain ⟨⟨ya,yb,-⟩,-⟩ := hS.cells
 go_wp2_with fail
 refine (HK _).mono ?_
 rintro e w2 ⟨rfl,hb2⟩
 replace hS := hS.kept hb2
 clear ya yb
 obtain ⟨⟨yc,yd,-⟩,-⟩ := hS.cells
 go_wp2_with fail
 refine (HL _).mono ?_
 rintro e w3 ⟨rfl,hb3⟩
 replace hS := hS.kept hb3
 clear yc yd
 obtain ⟨⟨ye,yf,-⟩,-⟩ := hS.cells
 go_wp2_with fail
 refine (HS _).mono ?_
 rintro e w4 ⟨rfl,hb4⟩
 replace hS := hS.kept hb4
 clear ye yf
 obtain ⟨⟨yg,yh,-⟩,-⟩ := hS.cells
 go_wp2
 go_ret3
 exact ⟨rfl,hS.fr⟩
theorem ro6_err (E F a b c : Int) (hc : (c == (0 : Int)) = false) (HT : Tel 63 #[.agg #[.int .i64 E,.int .i64 F],.int .u64 a,.int .u64 b] (.int .i64 c))  (w : World)  :
  Calls Tryz.prog 21 #[.agg #[.int .i64 E,.int .i64 F],.int .u64 a,.int .u64 b] w fun e w' => e = .returned (.tuple #[.int .i64 0,.int .i64 c]) ∧ Below w.heap.size w w' := by
 go_enter Tryz.func21,Tryz.ntmps21
 go_wp2_with fail
 refine (HT _).mono ?_
 rintro e w1 ⟨rfl,hb1⟩
 have hS := (Fs.one w _ _).kept hb1
 obtain ⟨⟨ya,yb,-⟩,-⟩ := hS.cells
 go_wp2
 go_ret2
 exact ⟨rfl,hS.fr⟩
theorem ro6_eq (E F a : Int) (HT : Tel 63 #[.agg #[.int .i64 E,.int .i64 F],.int .u64 a,.int .u64 a] (.int .i64 0))  (w : World)  :
  Calls Tryz.prog 21 #[.agg #[.int .i64 E,.int .i64 F],.int .u64 a,.int .u64 a] w fun e w' => e = .returned (.tuple #[.int .i64 0,.int .i64 0]) ∧ Below w.heap.size w w' := by
 go_enter Tryz.func21,Tryz.ntmps21
 go_wp2_with fail
 refine (HT _).mono ?_
 rintro e w1 ⟨rfl,hb1⟩
 have hS := (Fs.one w _ _).kept hb1
 obtain ⟨⟨ya,yb,-⟩,-⟩ := hS.cells
 go_wp2
 go_ret2
 exact ⟨rfl,hS.fr⟩
theorem ro6_A (E F a b S : Int) (hne : (a == b) = false) (HT : Tel 63 #[.agg #[.int .i64 E,.int .i64 F],.int .u64 a,.int .u64 b] (.int .i64 0)) (HH : Tel 50 #[.agg #[.int .i64 E,.int .i64 F]] (.int .u64 S)) (h1 : S ≤ a) (h2 : b < S)  (w : World)  :
  Calls Tryz.prog 21 #[.agg #[.int .i64 E,.int .i64 F],.int .u64 a,.int .u64 b] w fun e w' => e = .returned (.tuple #[.int .i64 (-1),.int .i64 0]) ∧ Below w.heap.size w w' := by
 go_enter Tryz.func21,Tryz.ntmps21
 go_wp2_with fail
 refine (HT _).mono ?_
 rintro e w1 ⟨rfl,hb1⟩
 have hS := (Fs.one w _ _).kept hb1
 obtain ⟨⟨ya,yb,-⟩,-⟩ := hS.cells
 go_wp2_with fail
 refine (HH _).mono ?_
 rintro e w2 ⟨rfl,hb2⟩
 replace hS := hS.kept hb2
 clear ya yb
 obtain ⟨⟨yc,yd,-⟩,-⟩ := hS.cells
 go_wp2_with fail
 refine (HH _).mono ?_
 rintro e w3 ⟨rfl,hb3⟩
 replace hS := hS.kept hb3
 clear yc yd
 obtain ⟨⟨ye,yf,-⟩,-⟩ := hS.cells
 go_wp2
 go_ret2
 exact ⟨rfl,hS.fr⟩
theorem ro6_B (E F a b S : Int) (hne : (a == b) = false) (HT : Tel 63 #[.agg #[.int .i64 E,.int .i64 F],.int .u64 a,.int .u64 b] (.int .i64 0)) (HH : Tel 50 #[.agg #[.int .i64 E,.int .i64 F]] (.int .u64 S)) (h1 : S ≤ a) (h2 : ¬ b < S) (h3 : b < a)  (w : World)  :
  Calls Tryz.prog 21 #[.agg #[.int .i64 E,.int .i64 F],.int .u64 a,.int .u64 b] w fun e w' => e = .returned (.tuple #[.int .i64 (-1),.int .i64 0]) ∧ Below w.heap.size w w' := by
 go_enter Tryz.func21,Tryz.ntmps21
 go_wp2_with fail
 refine (HT _).mono ?_
 rintro e w1 ⟨rfl,hb1⟩
 have hS := (Fs.one w _ _).kept hb1
 obtain ⟨⟨ya,yb,-⟩,-⟩ := hS.cells
 go_wp2_with fail
 refine (HH _).mono ?_
 rintro e w2 ⟨rfl,hb2⟩
 replace hS := hS.kept hb2
 clear ya yb
 obtain ⟨⟨yc,yd,-⟩,-⟩ := hS.cells
 go_wp2_with fail
 refine (HH _).mono ?_
 rintro e w3 ⟨rfl,hb3⟩
 replace hS := hS.kept hb3
 clear yc yd
 obtain ⟨⟨ye,yf,-⟩,-⟩ := hS.cells
 go_wp2
 go_ret2
 exact ⟨rfl,hS.fr⟩
theorem ro6_C (E F a b S : Int) (hne : (a == b) = false) (HT : Tel 63 #[.agg #[.int .i64 E,.int .i64 F],.int .u64 a,.int .u64 b] (.int .i64 0)) (HH : Tel 50 #[.agg #[.int .i64 E,.int .i64 F]] (.int .u64 S)) (h1 : S ≤ a) (h2 : ¬ b < S) (h3 : ¬ b < a)  (w : World)  :
  Calls Tryz.prog 21 #[.agg #[.int .i64 E,.int .i64 F],.int .u64 a,.int .u64 b] w fun e w' => e = .returned (.tuple #[.int .i64 1,.int .i64 0]) ∧ Below w.heap.size w w' := by
 go_enter Tryz.func21,Tryz.ntmps21
 go_wp2_with fail
 refine (HT _).mono ?_
 rintro e w1 ⟨rfl,hb1⟩
 have hS := (Fs.one w _ _).kept hb1
 obtain ⟨⟨ya,yb,-⟩,-⟩ := hS.cells
 go_wp2_with fail
 refine (HH _).mono ?_
 rintro e w2 ⟨rfl,hb2⟩
 replace hS := hS.kept hb2
 clear ya yb
 obtain ⟨⟨yc,yd,-⟩,-⟩ := hS.cells
 go_wp2_with fail
 refine (HH _).mono ?_
 rintro e w3 ⟨rfl,hb3⟩
 replace hS := hS.kept hb3
 clear yc yd
 obtain ⟨⟨ye,yf,-⟩,-⟩ := hS.cells
 go_wp2
 go_ret2
 exact ⟨rfl,hS.fr⟩
theorem ro6_D (E F a b S : Int) (hne : (a == b) = false) (HT : Tel 63 #[.agg #[.int .i64 E,.int .i64 F],.int .u64 a,.int .u64 b] (.int .i64 0)) (HH : Tel 50 #[.agg #[.int .i64 E,.int .i64 F]] (.int .u64 S)) (h1 : ¬ S ≤ a) (h2 : S ≤ b)  (w : World)  :
  Calls Tryz.prog 21 #[.agg #[.int .i64 E,.int .i64 F],.int .u64 a,.int .u64 b] w fun e w' => e = .returned (.tuple #[.int .i64 1,.int .i64 0]) ∧ Below w.heap.size w w' := by
 go_enter Tryz.func21,Tryz.ntmps21
 go_wp2_with fail
 refine (HT _).mono ?_
 rintro e w1 ⟨rfl,hb1⟩
 have hS := (Fs.one w _ _).kept hb1
 obtain ⟨⟨ya,yb,-⟩,-⟩ := hS.cells
 go_wp2_with fail
 refine (HH _).mono ?_
 rintro e w2 ⟨rfl,hb2⟩
 replace hS := hS.kept hb2
 clear ya yb
 obtain ⟨⟨yc,yd,-⟩,-⟩ := hS.cells
 go_wp2_with fail
 refine (HH _).mono ?_
 rintro e w3 ⟨rfl,hb3⟩
 replace hS := hS.kept hb3
 clear yc yd
 obtain ⟨⟨ye,yf,-⟩,-⟩ := hS.cells
 go_wp2
 go_ret2
 exact ⟨rfl,hS.fr⟩
theorem ro6_E (E F a b S : Int) (hne : (a == b) = false) (HT : Tel 63 #[.agg #[.int .i64 E,.int .i64 F],.int .u64 a,.int .u64 b] (.int .i64 0)) (HH : Tel 50 #[.agg #[.int .i64 E,.int .i64 F]] (.int .u64 S)) (h1 : ¬ S ≤ a) (h2 : ¬ S ≤ b) (h3 : a < b)  (w : World)  :
  Calls Tryz.prog 21 #[.agg #[.int .i64 E,.int .i64 F],.int .u64 a,.int .u64 b] w fun e w' => e = .returned (.tuple #[.int .i64 (-1),.int .i64 0]) ∧ Below w.heap.size w w' := by
 go_enter Tryz.func21,Tryz.ntmps21
 go_wp2_with fail
 refine (HT _).mono ?_
 rintro e w1 ⟨rfl,hb1⟩
 have hS := (Fs.one w _ _).kept hb1
 obtain ⟨⟨ya,yb,-⟩,-⟩ := hS.cells
 go_wp2_with fail
 refine (HH _).mono ?_
 rintro e w2 ⟨rfl,hb2⟩
 replace hS := hS.kept hb2
 clear ya yb
 obtain ⟨⟨yc,yd,-⟩,-⟩ := hS.cells
 go_wp2_with fail
 refine (HH _).mono ?_
 rintro e w3 ⟨rfl,hb3⟩
 replace hS := hS.kept hb3
 clear yc yd
 obtain ⟨⟨ye,yf,-⟩,-⟩ := hS.cells
 go_wp2
 go_ret2
 exact ⟨rfl,hS.fr⟩
theorem ro6_F (E F a b S : Int) (hne : (a == b) = false) (HT : Tel 63 #[.agg #[.int .i64 E,.int .i64 F],.int .u64 a,.int .u64 b] (.int .i64 0)) (HH : Tel 50 #[.agg #[.int .i64 E,.int .i64 F]] (.int .u64 S)) (h1 : ¬ S ≤ a) (h2 : ¬ S ≤ b) (h3 : ¬ a < b)  (w : World)  :
  Calls Tryz.prog 21 #[.agg #[.int .i64 E,.int .i64 F],.int .u64 a,.int .u64 b] w fun e w' => e = .returned (.tuple #[.int .i64 1,.int .i64 0]) ∧ Below w.heap.size w w' := by
 go_enter Tryz.func21,Tryz.ntmps21
 go_wp2_with fail
 refine (HT _).mono ?_
 rintro e w1 ⟨rfl,hb1⟩
 have hS := (Fs.one w _ _).kept hb1
 obtain ⟨⟨ya,yb,-⟩,-⟩ := hS.cells
 go_wp2_with fail
 refine (HH _).mono ?_
 rintro e w2 ⟨rfl,hb2⟩
 replace hS := hS.kept hb2
 clear ya yb
 obtain ⟨⟨yc,yd,-⟩,-⟩ := hS.cells
 go_wp2_with fail
 refine (HH _).mono ?_
 rintro e w3 ⟨rfl,hb3⟩
 replace hS := hS.kept hb3
 clear yc yd
 obtain ⟨⟨ye,yf,-⟩,-⟩ := hS.cells
 go_wp2
 go_ret2
 exact ⟨rfl,hS.fr⟩
end Go.Proofs.YtkebhccbhoamjaaGreatDoor
