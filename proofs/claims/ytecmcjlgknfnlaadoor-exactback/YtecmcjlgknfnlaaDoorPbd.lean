/- Of what ExactBackRow stands on: ExAddR ExLimit ExAddO ExSum ExOkd. -/
import Derived.Test.YtecmcjlgknfnlaaDoorPbc
import Derived.Test.YtecmcjlgknfnlaaDoorPaz
import Derived.Test.YtecmcjlgknfnlaaDoorPba
namespace Go.Proofs.YtecmcjlgknfnlaaDoor
open Go.RowKit
set_option maxHeartbeats 2000000 in
theorem Add_zero (s : Bool) (a : Option Addr) (n cap m : Nat) (x : Int) (s' : Bool) (a' : Option Addr) (n' cap' m' : Nat) (x' : Int) (t : Int) (j j' : Nat) (r : Bool) (w : World) (h : Dy w s a n m x) (h' : Dy w s' a' n' m' x') (hn : 0 < n) (hn' : 0 < n') (hmin : min x x' = t) (hj : x - t = (j : Int)) (hj' : x' - t = (j' : Int)) (hj2 : j < 9223372036854775808) (hj2' : j' < 9223372036854775808) (hno : ¬ Over (m * 2 ^ j)) (hno' : ¬ Over (m' * 2 ^ j')) (hS9 : Hid (∀ (W : World) (A : Option Addr) (N C : Nat) (A' : Option Addr) (N' C' : Nat),Num W A N (m * 2 ^ j) → Num W A' N' (m' * 2 ^ j') → Calls Tryd.prog 74 #[.bool s,.agg #[.slice A N C],.bool s',.agg #[.slice A' N' C']] W fun e w' => (∃ A N C,e = .returned (.tuple #[.bool r,.agg #[.slice A N C],.int .i64 0]) ∧ Mine w' W.heap.size A N C 0) ∧ Below W.heap.size W w')) :
  Calls Tryd.prog 30 #[.agg #[.bool s,.slice a n cap,.int .i64 x],.agg #[.bool s',.slice a' n' cap',.int .i64 x']] w fun e w' => e = .returned (.tuple #[.agg #[.bool false,.slice none 0 0,.int .i64 0],.int .i64 0]) ∧ Below w.heap.size w w' := by
 have H := hide h
 have H' := hide h'
 have HJ := hide (And.intro hj (And.intro hj' (And.intro hno hno')))
 clear h h' hj hj' hno hno'
 go_enter Tryd.func30,Tryd.ntmps30
 go_wp2_with fail
 refine (checkBoth_dy s a n cap m x s' a' n' cap' m' x' _ ((unhide H).kept (gr_trans (gr_trans (gr_alloc _ _) (gr_alloc _ _)) (gr_alloc _ _))) ((unhide H').kept (gr_trans (gr_trans (gr_alloc _ _) (gr_alloc _ _)) (gr_alloc _ _)))).mono ?_
 rintro e w1 ⟨rfl,hb1⟩
 have hS := (Fs.three w _ _ _ _ _ _).kept hb1
 obtain ⟨⟨z1_0_0,z1_0_1,z1_0_2,-⟩,⟨z1_1_0,z1_1_1,z1_1_2,-⟩,⟨z1_2_0,z1_2_1,z1_2_2,-⟩,-⟩ := hS.cells
 go_wp2_with fail
 refine (isNought_no a n cap hn _).mono ?_
 rintro e w2 ⟨rfl,hb2⟩
 replace hS := hS.kept hb2
 clear z1_0_0 z1_0_1 z1_0_2 z1_1_0 z1_1_1 z1_1_2 z1_2_0 z1_2_1 z1_2_2
 obtain ⟨⟨z2_0_0,z2_0_1,z2_0_2,-⟩,⟨z2_1_0,z2_1_1,z2_1_2,-⟩,⟨z2_2_0,z2_2_1,z2_2_2,-⟩,-⟩ := hS.cells
 go_wp2_with fail
 refine (isNought_no a' n' cap' hn' _).mono ?_
 rintro e w3 ⟨rfl,hb3⟩
 replace hS := hS.kept hb3
 clear z2_0_0 z2_0_1 z2_0_2 z2_1_0 z2_1_1 z2_1_2 z2_2_0 z2_2_1 z2_2_2
 obtain ⟨⟨z3_0_0,z3_0_1,z3_0_2,-⟩,⟨z3_1_0,z3_1_1,z3_1_2,-⟩,⟨z3_2_0,z3_2_1,z3_2_2,-⟩,-⟩ := hS.cells
 go_wp2_with fail
 refine (together_ok s a n cap m x s' a' n' cap' m' x' t j j' _ ((unhide H).kept hS.fr).num ((unhide H').kept hS.fr).num hmin (unhide HJ).1 (unhide HJ).2.1 hj2 hj2' (unhide HJ).2.2.1 (unhide HJ).2.2.2).mono ?_
 rintro e w4 ⟨⟨A4,N4,C4,B4,O4,Q4,rfl,g4,g5⟩,hb4⟩
 replace hS := hS.kept hb4
 clear z3_0_0 z3_0_1 z3_0_2 z3_1_0 z3_1_1 z3_1_2 z3_2_0 z3_2_1 z3_2_2
 obtain ⟨⟨z4_0_0,z4_0_1,z4_0_2,-⟩,⟨z4_1_0,z4_1_1,z4_1_2,-⟩,⟨z4_2_0,z4_2_1,z4_2_2,-⟩,-⟩ := hS.cells
 have G4 := hide g4
 have G5 := hide g5
 clear g4 g5
 have hltw4_0 : w.heap.size < w4.heap.size := block_lt (hS.bx ⟨w.heap.size,#[.bool s,.slice a n cap,.int .i64 x],26⟩ (by simp))
 have hltw4_1 : w.heap.size + 1 < w4.heap.size := block_lt (hS.bx ⟨w.heap.size + 1,#[.bool s',.slice a' n' cap',.int .i64 x'],26⟩ (by simp))
 have hltw4_2 : w.heap.size + 2 < w4.heap.size := block_lt (hS.bx ⟨w.heap.size + 2,#[.bool false,.slice none 0 0,.int .i64 0],26⟩ (by simp))
 replace hS := (hS.alloc #[.slice A4 N4 C4] 24).alloc #[.slice B4 O4 Q4] 24
 rw [World.size_alloc] at hS
 go_wp2_with fail
 refine (unhide hS9 _ A4 N4 C4 B4 O4 Q4 (((unhide G4).alloc _).alloc _) (((unhide G5).alloc _).alloc _)).mono ?_
 rintro e w5 ⟨⟨A5,N5,C5,rfl,f5⟩,hb5⟩
 replace hS := hS.kept hb5
 clear z4_0_0 z4_0_1 z4_0_2 z4_1_0 z4_1_1 z4_1_2 z4_2_0 z4_2_1 z4_2_2
 obtain ⟨⟨z5_0_0,-⟩,⟨z5_1_0,-⟩,⟨z5_2_0,z5_2_1,z5_2_2,-⟩,⟨z5_3_0,z5_3_1,z5_3_2,-⟩,⟨z5_4_0,z5_4_1,z5_4_2,-⟩,-⟩ := hS.cells
 have F5 := hide f5
 clear f5
 have hltw5_0 : w4.heap.size + 1 < w5.heap.size := block_lt (hS.bx ⟨w4.heap.size + 1,#[.slice B4 O4 Q4],24⟩ (by simp))
 have hltw5_1 : w4.heap.size < w5.heap.size := block_lt (hS.bx ⟨w4.heap.size,#[.slice A4 N4 C4],24⟩ (by simp))
 have hltw5_2 : w.heap.size < w5.heap.size := block_lt (hS.bx ⟨w.heap.size,#[.bool s,.slice a n cap,.int .i64 x],26⟩ (by simp))
 have hltw5_3 : w.heap.size + 1 < w5.heap.size := block_lt (hS.bx ⟨w.heap.size + 1,#[.bool s',.slice a' n' cap',.int .i64 x'],26⟩ (by simp))
 have hltw5_4 : w.heap.size + 2 < w5.heap.size := block_lt (hS.bx ⟨w.heap.size + 2,#[.bool false,.slice none 0 0,.int .i64 0],26⟩ (by simp))
 replace hS := hS.alloc #[.slice A5 N5 C5] 24
 obtain rfl := (unhide F5).num.zero.2 rfl
 go_wp2_with fail
 refine (make_nought r A5 C5 t _ ((unhide F5).alloc _).num).mono ?_
 rintro e w6 ⟨rfl,hb6⟩
 replace hS := hS.kept hb6
 clear z5_0_0 z5_1_0 z5_2_0 z5_2_1 z5_2_2 z5_3_0 z5_3_1 z5_3_2 z5_4_0 z5_4_1 z5_4_2
 obtain ⟨⟨z6_0_0,-⟩,⟨z6_1_0,-⟩,⟨z6_2_0,-⟩,⟨z6_3_0,z6_3_1,z6_3_2,-⟩,⟨z6_4_0,z6_4_1,z6_4_2,-⟩,⟨z6_5_0,z6_5_1,z6_5_2,-⟩,-⟩ := hS.cells
 have fz0 := hS.frozen (b := w.heap.size + 2) (cs := #[.bool false,.slice none 0 0,.int .i64 0]) (t := 26) (by simp) 0
 have fz1 := hS.frozen (b := w.heap.size + 2) (cs := #[.bool false,.slice none 0 0,.int .i64 0]) (t := 26) (by simp) 1
 have fz2 := hS.frozen (b := w.heap.size + 2) (cs := #[.bool false,.slice none 0 0,.int .i64 0]) (t := 26) (by simp) 2
 go_wp2
 exact bodyPost_ret (v := .tuple #[.agg #[.bool false,.slice none 0 0,.int .i64 0],.int .i64 0]) (by simp [results,Tryd.results30,go_sem,z6_5_0,z6_5_1,z6_5_2]) rfl ⟨rfl,((hS.fr.setCell (by simp <;> omega) _).setCell (by simp <;> omega) _).setCell (by simp <;> omega) _⟩
set_option maxHeartbeats 2000000 in
theorem Add_above (s : Bool) (a : Option Addr) (n cap m : Nat) (x : Int) (s' : Bool) (a' : Option Addr) (n' cap' m' : Nat) (x' : Int) (t : Int) (j j' v z : Nat) (r : Bool) (w : World) (h : Dy w s a n m x) (h' : Dy w s' a' n' m' x') (hn : 0 < n) (hn' : 0 < n') (hmin : min x x' = t) (hj : x - t = (j : Int)) (hj' : x' - t = (j' : Int)) (hj2 : j < 9223372036854775808) (hj2' : j' < 9223372036854775808) (hno : ¬ Over (m * 2 ^ j)) (hno' : ¬ Over (m' * 2 ^ j')) (hT : Tb w) (hv : 0 < v) (hz : Tz v z) (hz2 : z < 524288) (hx : 1073741824 < t + z) (hS9 : Hid (∀ (W : World) (A : Option Addr) (N C : Nat) (A' : Option Addr) (N' C' : Nat),Num W A N (m * 2 ^ j) → Num W A' N' (m' * 2 ^ j') → Calls Tryd.prog 74 #[.bool s,.agg #[.slice A N C],.bool s',.agg #[.slice A' N' C']] W fun e w' => (∃ A N C,e = .returned (.tuple #[.bool r,.agg #[.slice A N C],.int .i64 0]) ∧ Mine w' W.heap.size A N C v) ∧ Below W.heap.size W w')) :
  Calls Tryd.prog 30 #[.agg #[.bool s,.slice a n cap,.int .i64 x],.agg #[.bool s',.slice a' n' cap',.int .i64 x']] w fun e w' => e = .returned (.tuple #[.agg #[.bool false,.slice none 0 0,.int .i64 0],.int .i64 4]) ∧ Below w.heap.size w w' := by
 have H := hide h
 have H' := hide h'
 have HJ := hide (And.intro hj (And.intro hj' (And.intro hno hno')))
 clear h h' hj hj' hno hno'
 have HT := hide hT
 have HV := hide (And.intro hv hz)
 clear hT hv hz
 go_enter Tryd.func30,Tryd.ntmps30
 go_wp2_with fail
 refine (checkBoth_dy s a n cap m x s' a' n' cap' m' x' _ ((unhide H).kept (gr_trans (gr_trans (gr_alloc _ _) (gr_alloc _ _)) (gr_alloc _ _))) ((unhide H').kept (gr_trans (gr_trans (gr_alloc _ _) (gr_alloc _ _)) (gr_alloc _ _)))).mono ?_
 rintro e w1 ⟨rfl,hb1⟩
 have hS := (Fs.three w _ _ _ _ _ _).kept hb1
 obtain ⟨⟨z1_0_0,z1_0_1,z1_0_2,-⟩,⟨z1_1_0,z1_1_1,z1_1_2,-⟩,⟨z1_2_0,z1_2_1,z1_2_2,-⟩,-⟩ := hS.cells
 go_wp2_with fail
 refine (isNought_no a n cap hn _).mono ?_
 rintro e w2 ⟨rfl,hb2⟩
 replace hS := hS.kept hb2
 clear z1_0_0 z1_0_1 z1_0_2 z1_1_0 z1_1_1 z1_1_2 z1_2_0 z1_2_1 z1_2_2
 obtain ⟨⟨z2_0_0,z2_0_1,z2_0_2,-⟩,⟨z2_1_0,z2_1_1,z2_1_2,-⟩,⟨z2_2_0,z2_2_1,z2_2_2,-⟩,-⟩ := hS.cells
 go_wp2_with fail
 refine (isNought_no a' n' cap' hn' _).mono ?_
 rintro e w3 ⟨rfl,hb3⟩
 replace hS := hS.kept hb3
 clear z2_0_0 z2_0_1 z2_0_2 z2_1_0 z2_1_1 z2_1_2 z2_2_0 z2_2_1 z2_2_2
 obtain ⟨⟨z3_0_0,z3_0_1,z3_0_2,-⟩,⟨z3_1_0,z3_1_1,z3_1_2,-⟩,⟨z3_2_0,z3_2_1,z3_2_2,-⟩,-⟩ := hS.cells
 go_wp2_with fail
 refine (together_ok s a n cap m x s' a' n' cap' m' x' t j j' _ ((unhide H).kept hS.fr).num ((unhide H').kept hS.fr).num hmin (unhide HJ).1 (unhide HJ).2.1 hj2 hj2' (unhide HJ).2.2.1 (unhide HJ).2.2.2).mono ?_
 rintro e w4 ⟨⟨A4,N4,C4,B4,O4,Q4,rfl,g4,g5⟩,hb4⟩
 replace hS := hS.kept hb4
 clear z3_0_0 z3_0_1 z3_0_2 z3_1_0 z3_1_1 z3_1_2 z3_2_0 z3_2_1 z3_2_2
 obtain ⟨⟨z4_0_0,z4_0_1,z4_0_2,-⟩,⟨z4_1_0,z4_1_1,z4_1_2,-⟩,⟨z4_2_0,z4_2_1,z4_2_2,-⟩,-⟩ := hS.cells
 have G4 := hide g4
 have G5 := hide g5
 clear g4 g5
 have hltw4_0 : w.heap.size < w4.heap.size := block_lt (hS.bx ⟨w.heap.size,#[.bool s,.slice a n cap,.int .i64 x],26⟩ (by simp))
 have hltw4_1 : w.heap.size + 1 < w4.heap.size := block_lt (hS.bx ⟨w.heap.size + 1,#[.bool s',.slice a' n' cap',.int .i64 x'],26⟩ (by simp))
 have hltw4_2 : w.heap.size + 2 < w4.heap.size := block_lt (hS.bx ⟨w.heap.size + 2,#[.bool false,.slice none 0 0,.int .i64 0],26⟩ (by simp))
 replace hS := (hS.alloc #[.slice A4 N4 C4] 24).alloc #[.slice B4 O4 Q4] 24
 rw [World.size_alloc] at hS
 go_wp2_with fail
 refine (unhide hS9 _ A4 N4 C4 B4 O4 Q4 (((unhide G4).alloc _).alloc _) (((unhide G5).alloc _).alloc _)).mono ?_
 rintro e w5 ⟨⟨A5,N5,C5,rfl,f5⟩,hb5⟩
 replace hS := hS.kept hb5
 clear z4_0_0 z4_0_1 z4_0_2 z4_1_0 z4_1_1 z4_1_2 z4_2_0 z4_2_1 z4_2_2
 obtain ⟨⟨z5_0_0,-⟩,⟨z5_1_0,-⟩,⟨z5_2_0,z5_2_1,z5_2_2,-⟩,⟨z5_3_0,z5_3_1,z5_3_2,-⟩,⟨z5_4_0,z5_4_1,z5_4_2,-⟩,-⟩ := hS.cells
 have F5 := hide f5
 clear f5
 have hltw5_0 : w4.heap.size + 1 < w5.heap.size := block_lt (hS.bx ⟨w4.heap.size + 1,#[.slice B4 O4 Q4],24⟩ (by simp))
 have hltw5_1 : w4.heap.size < w5.heap.size := block_lt (hS.bx ⟨w4.heap.size,#[.slice A4 N4 C4],24⟩ (by simp))
 have hltw5_2 : w.heap.size < w5.heap.size := block_lt (hS.bx ⟨w.heap.size,#[.bool s,.slice a n cap,.int .i64 x],26⟩ (by simp))
 have hltw5_3 : w.heap.size + 1 < w5.heap.size := block_lt (hS.bx ⟨w.heap.size + 1,#[.bool s',.slice a' n' cap',.int .i64 x'],26⟩ (by simp))
 have hltw5_4 : w.heap.size + 2 < w5.heap.size := block_lt (hS.bx ⟨w.heap.size + 2,#[.bool false,.slice none 0 0,.int .i64 0],26⟩ (by simp))
 replace hS := hS.alloc #[.slice A5 N5 C5] 24
 go_wp2_with fail
 refine (make_above r A5 N5 C5 v z t _ ((unhide F5).alloc _).num (unhide HV).1 ((unhide HT).kept hS.fr) (unhide HV).2 hz2 hx).mono ?_
 rintro e w6 ⟨rfl,hb6⟩
 replace hS := hS.kept hb6
 clear z5_0_0 z5_1_0 z5_2_0 z5_2_1 z5_2_2 z5_3_0 z5_3_1 z5_3_2 z5_4_0 z5_4_1 z5_4_2
 obtain ⟨⟨z6_0_0,-⟩,⟨z6_1_0,-⟩,⟨z6_2_0,-⟩,⟨z6_3_0,z6_3_1,z6_3_2,-⟩,⟨z6_4_0,z6_4_1,z6_4_2,-⟩,⟨z6_5_0,z6_5_1,z6_5_2,-⟩,-⟩ := hS.cells
 have fz0 := hS.frozen (b := w.heap.size + 2) (cs := #[.bool false,.slice none 0 0,.int .i64 0]) (t := 26) (by simp) 0
 have fz1 := hS.frozen (b := w.heap.size + 2) (cs := #[.bool false,.slice none 0 0,.int .i64 0]) (t := 26) (by simp) 1
 have fz2 := hS.frozen (b := w.heap.size + 2) (cs := #[.bool false,.slice none 0 0,.int .i64 0]) (t := 26) (by simp) 2
 go_wp2
 exact bodyPost_ret (v := .tuple #[.agg #[.bool false,.slice none 0 0,.int .i64 0],.int .i64 4]) (by simp [results,Tryd.results30,go_sem,z6_5_0,z6_5_1,z6_5_2]) rfl ⟨rfl,((hS.fr.setCell (by simp <;> omega) _).setCell (by simp <;> omega) _).setCell (by simp <;> omega) _⟩
set_option maxHeartbeats 2000000 in
theorem Add_below (s : Bool) (a : Option Addr) (n cap m : Nat) (x : Int) (s' : Bool) (a' : Option Addr) (n' cap' m' : Nat) (x' : Int) (t : Int) (j j' v z : Nat) (r : Bool) (w : World) (h : Dy w s a n m x) (h' : Dy w s' a' n' m' x') (hn : 0 < n) (hn' : 0 < n') (hmin : min x x' = t) (hj : x - t = (j : Int)) (hj' : x' - t = (j' : Int)) (hj2 : j < 9223372036854775808) (hj2' : j' < 9223372036854775808) (hno : ¬ Over (m * 2 ^ j)) (hno' : ¬ Over (m' * 2 ^ j')) (hT : Tb w) (hv : 0 < v) (hz : Tz v z) (hz2 : z < 524288) (hx : t + z < -1073741824) (hS9 : Hid (∀ (W : World) (A : Option Addr) (N C : Nat) (A' : Option Addr) (N' C' : Nat),Num W A N (m * 2 ^ j) → Num W A' N' (m' * 2 ^ j') → Calls Tryd.prog 74 #[.bool s,.agg #[.slice A N C],.bool s',.agg #[.slice A' N' C']] W fun e w' => (∃ A N C,e = .returned (.tuple #[.bool r,.agg #[.slice A N C],.int .i64 0]) ∧ Mine w' W.heap.size A N C v) ∧ Below W.heap.size W w')) :
  Calls Tryd.prog 30 #[.agg #[.bool s,.slice a n cap,.int .i64 x],.agg #[.bool s',.slice a' n' cap',.int .i64 x']] w fun e w' => e = .returned (.tuple #[.agg #[.bool false,.slice none 0 0,.int .i64 0],.int .i64 4]) ∧ Below w.heap.size w w' := by
 have H := hide h
 have H' := hide h'
 have HJ := hide (And.intro hj (And.intro hj' (And.intro hno hno')))
 clear h h' hj hj' hno hno'
 have HT := hide hT
 have HV := hide (And.intro hv hz)
 clear hT hv hz
 go_enter Tryd.func30,Tryd.ntmps30
 go_wp2_with fail
 refine (checkBoth_dy s a n cap m x s' a' n' cap' m' x' _ ((unhide H).kept (gr_trans (gr_trans (gr_alloc _ _) (gr_alloc _ _)) (gr_alloc _ _))) ((unhide H').kept (gr_trans (gr_trans (gr_alloc _ _) (gr_alloc _ _)) (gr_alloc _ _)))).mono ?_
 rintro e w1 ⟨rfl,hb1⟩
 have hS := (Fs.three w _ _ _ _ _ _).kept hb1
 obtain ⟨⟨z1_0_0,z1_0_1,z1_0_2,-⟩,⟨z1_1_0,z1_1_1,z1_1_2,-⟩,⟨z1_2_0,z1_2_1,z1_2_2,-⟩,-⟩ := hS.cells
 go_wp2_with fail
 refine (isNought_no a n cap hn _).mono ?_
 rintro e w2 ⟨rfl,hb2⟩
 replace hS := hS.kept hb2
 clear z1_0_0 z1_0_1 z1_0_2 z1_1_0 z1_1_1 z1_1_2 z1_2_0 z1_2_1 z1_2_2
 obtain ⟨⟨z2_0_0,z2_0_1,z2_0_2,-⟩,⟨z2_1_0,z2_1_1,z2_1_2,-⟩,⟨z2_2_0,z2_2_1,z2_2_2,-⟩,-⟩ := hS.cells
 go_wp2_with fail
 refine (isNought_no a' n' cap' hn' _).mono ?_
 rintro e w3 ⟨rfl,hb3⟩
 replace hS := hS.kept hb3
 clear z2_0_0 z2_0_1 z2_0_2 z2_1_0 z2_1_1 z2_1_2 z2_2_0 z2_2_1 z2_2_2
 obtain ⟨⟨z3_0_0,z3_0_1,z3_0_2,-⟩,⟨z3_1_0,z3_1_1,z3_1_2,-⟩,⟨z3_2_0,z3_2_1,z3_2_2,-⟩,-⟩ := hS.cells
 go_wp2_with fail
 refine (together_ok s a n cap m x s' a' n' cap' m' x' t j j' _ ((unhide H).kept hS.fr).num ((unhide H').kept hS.fr).num hmin (unhide HJ).1 (unhide HJ).2.1 hj2 hj2' (unhide HJ).2.2.1 (unhide HJ).2.2.2).mono ?_
 rintro e w4 ⟨⟨A4,N4,C4,B4,O4,Q4,rfl,g4,g5⟩,hb4⟩
 replace hS := hS.kept hb4
 clear z3_0_0 z3_0_1 z3_0_2 z3_1_0 z3_1_1 z3_1_2 z3_2_0 z3_2_1 z3_2_2
 obtain ⟨⟨z4_0_0,z4_0_1,z4_0_2,-⟩,⟨z4_1_0,z4_1_1,z4_1_2,-⟩,⟨z4_2_0,z4_2_1,z4_2_2,-⟩,-⟩ := hS.cells
 have G4 := hide g4
 have G5 := hide g5
 clear g4 g5
 have hltw4_0 : w.heap.size < w4.heap.size := block_lt (hS.bx ⟨w.heap.size,#[.bool s,.slice a n cap,.int .i64 x],26⟩ (by simp))
 have hltw4_1 : w.heap.size + 1 < w4.heap.size := block_lt (hS.bx ⟨w.heap.size + 1,#[.bool s',.slice a' n' cap',.int .i64 x'],26⟩ (by simp))
 have hltw4_2 : w.heap.size + 2 < w4.heap.size := block_lt (hS.bx ⟨w.heap.size + 2,#[.bool false,.slice none 0 0,.int .i64 0],26⟩ (by simp))
 replace hS := (hS.alloc #[.slice A4 N4 C4] 24).alloc #[.slice B4 O4 Q4] 24
 rw [World.size_alloc] at hS
 go_wp2_with fail
 refine (unhide hS9 _ A4 N4 C4 B4 O4 Q4 (((unhide G4).alloc _).alloc _) (((unhide G5).alloc _).alloc _)).mono ?_
 rintro e w5 ⟨⟨A5,N5,C5,rfl,f5⟩,hb5⟩
 replace hS := hS.kept hb5
 clear z4_0_0 z4_0_1 z4_0_2 z4_1_0 z4_1_1 z4_1_2 z4_2_0 z4_2_1 z4_2_2
 obtain ⟨⟨z5_0_0,-⟩,⟨z5_1_0,-⟩,⟨z5_2_0,z5_2_1,z5_2_2,-⟩,⟨z5_3_0,z5_3_1,z5_3_2,-⟩,⟨z5_4_0,z5_4_1,z5_4_2,-⟩,-⟩ := hS.cells
 have F5 := hide f5
 clear f5
 have hltw5_0 : w4.heap.size + 1 < w5.heap.size := block_lt (hS.bx ⟨w4.heap.size + 1,#[.slice B4 O4 Q4],24⟩ (by simp))
 have hltw5_1 : w4.heap.size < w5.heap.size := block_lt (hS.bx ⟨w4.heap.size,#[.slice A4 N4 C4],24⟩ (by simp))
 have hltw5_2 : w.heap.size < w5.heap.size := block_lt (hS.bx ⟨w.heap.size,#[.bool s,.slice a n cap,.int .i64 x],26⟩ (by simp))
 have hltw5_3 : w.heap.size + 1 < w5.heap.size := block_lt (hS.bx ⟨w.heap.size + 1,#[.bool s',.slice a' n' cap',.int .i64 x'],26⟩ (by simp))
 have hltw5_4 : w.heap.size + 2 < w5.heap.size := block_lt (hS.bx ⟨w.heap.size + 2,#[.bool false,.slice none 0 0,.int .i64 0],26⟩ (by simp))
 replace hS := hS.alloc #[.slice A5 N5 C5] 24
 go_wp2_with fail
 refine (make_below r A5 N5 C5 v z t _ ((unhide F5).alloc _).num (unhide HV).1 ((unhide HT).kept hS.fr) (unhide HV).2 hz2 hx).mono ?_
 rintro e w6 ⟨rfl,hb6⟩
 replace hS := hS.kept hb6
 clear z5_0_0 z5_1_0 z5_2_0 z5_2_1 z5_2_2 z5_3_0 z5_3_1 z5_3_2 z5_4_0 z5_4_1 z5_4_2
 obtain ⟨⟨z6_0_0,-⟩,⟨z6_1_0,-⟩,⟨z6_2_0,-⟩,⟨z6_3_0,z6_3_1,z6_3_2,-⟩,⟨z6_4_0,z6_4_1,z6_4_2,-⟩,⟨z6_5_0,z6_5_1,z6_5_2,-⟩,-⟩ := hS.cells
 have fz0 := hS.frozen (b := w.heap.size + 2) (cs := #[.bool false,.slice none 0 0,.int .i64 0]) (t := 26) (by simp) 0
 have fz1 := hS.frozen (b := w.heap.size + 2) (cs := #[.bool false,.slice none 0 0,.int .i64 0]) (t := 26) (by simp) 1
 have fz2 := hS.frozen (b := w.heap.size + 2) (cs := #[.bool false,.slice none 0 0,.int .i64 0]) (t := 26) (by simp) 2
 go_wp2
 exact bodyPost_ret (v := .tuple #[.agg #[.bool false,.slice none 0 0,.int .i64 0],.int .i64 4]) (by simp [results,Tryd.results30,go_sem,z6_5_0,z6_5_1,z6_5_2]) rfl ⟨rfl,((hS.fr.setCell (by simp <;> omega) _).setCell (by simp <;> omega) _).setCell (by simp <;> omega) _⟩
end Go.Proofs.YtecmcjlgknfnlaaDoor
namespace Go.Proofs.YtecmcjlgknfnlaaDoor
open Go.RowKit
end Go.Proofs.YtecmcjlgknfnlaaDoor
namespace Go.Proofs.YtecmcjlgknfnlaaDoor
open Go.RowKit
end Go.Proofs.YtecmcjlgknfnlaaDoor
namespace Go.Proofs.YtecmcjlgknfnlaaDoor
open Go.RowKit
def OkD (s : Bool) (m : Nat) (x : Int) : Prop := (m = 0 ∧ s = false ∧ x = 0) ∨ (m % 2 = 1 ∧ -1073741824 ≤ x ∧ x ≤ 1073741824)
def Sums (s : Bool) (m : Nat) (x : Int) (s' : Bool) (m' : Nat) (x' : Int) (er : Int) (r : Bool) (v : Nat) (y : Int) : Prop :=
 ∀ (W : World) (A : Option Addr) (N C : Nat) (A' : Option Addr) (N' C' : Nat),Num W A N m → Num W A' N' m' → Tb W →
  Calls Tryd.prog 30 #[.agg #[.bool s,.slice A N C,.int .i64 x],.agg #[.bool s',.slice A' N' C',.int .i64 x']] W fun e w' => (∃ A N C,e = .returned (.tuple #[.agg #[.bool r,.slice A N C,.int .i64 y],.int .i64 er]) ∧ Num w' A N v) ∧ Below W.heap.size W w'
theorem num_none (w : World) : Num w none 0 0 := ⟨[],rfl,Or.inl rfl,Pl.wf_nil,Pl.norm_nil,rfl,by omega⟩
theorem Sums.many {s : Bool} {m : Nat} {x : Int} {s' : Bool} {m' : Nat} {x' : Int} (h : ∀ (W : World) (A : Option Addr) (N C : Nat) (A' : Option Addr) (N' C' : Nat),Num W A N m → Num W A' N' m' → Tb W →
  Calls Tryd.prog 30 #[.agg #[.bool s,.slice A N C,.int .i64 x],.agg #[.bool s',.slice A' N' C',.int .i64 x']] W fun e w' => e = .returned (.tuple #[.agg #[.bool false,.slice none 0 0,.int .i64 0],.int .i64 4]) ∧ Below W.heap.size W w') : Sums s m x s' m' x' 4 false 0 0 := fun W A N C A' N' C' g g' hT => by
 refine (h W A N C A' N' C' g g' hT).mono ?_
 rintro e w' ⟨rfl,hb⟩
 exact ⟨⟨none,0,0,rfl,num_none _⟩,hb⟩
theorem Sums.of {s : Bool} {m : Nat} {x : Int} {s' : Bool} {m' : Nat} {x' t : Int} {i j v : Nat} {r : Bool} (hm : m % 2 = 1 ∧ -1073741824 ≤ x ∧ x ≤ 1073741824) (hm' : m' % 2 = 1 ∧ -1073741824 ≤ x' ∧ x' ≤ 1073741824) (ht : min x x' = t) (hi : x - t = (i : Int)) (hj : x' - t = (j : Int)) (hno : ¬ Over (m * 2 ^ i)) (hno' : ¬ Over (m' * 2 ^ j))
  (hS : ∀ (W : World) (A : Option Addr) (N C : Nat) (A' : Option Addr) (N' C' : Nat),Num W A N (m * 2 ^ i) → Num W A' N' (m' * 2 ^ j) → Calls Tryd.prog 74 #[.bool s,.agg #[.slice A N C],.bool s',.agg #[.slice A' N' C']] W fun e w' => (∃ A N C,e = .returned (.tuple #[.bool r,.agg #[.slice A N C],.int .i64 0]) ∧ Mine w' W.heap.size A N C v) ∧ Below W.heap.size W w') (hv : v < 4294967296 ^ Pl.top) :
  (v = 0 ∧ Sums s m x s' m' x' 0 false 0 0) ∨ ∃ z,0 < v ∧ Tz v z ∧ z < 524288 ∧ ((-1073741824 ≤ t + z ∧ t + z ≤ 1073741824 ∧ Sums s m x s' m' x' 0 r (v / 2 ^ z) (t + (z : Int))) ∨ ((1073741824 < t + z ∨ t + z < -1073741824) ∧ Sums s m x s' m' x' 4 false 0 0)) := by
 have hp : ∀ {W : World} {A : Option Addr} {N : Nat},Num W A N m → 0 < N := fun g => by have := g.zero; omega
 have hp' : ∀ {W : World} {A : Option Addr} {N : Nat},Num W A N m' → 0 < N := fun g => by have := g.zero; omega
 rcases Nat.eq_zero_or_pos v with h0 | h0
 ·subst h0
  refine Or.inl ⟨rfl,fun W A N C A' N' C' g g' _ => ?_⟩
  refine (Add_zero s A N C m x s' A' N' C' m' x' t i j r W ⟨g,Or.inr hm⟩ ⟨g',Or.inr hm'⟩ (hp g) (hp' g') ht hi hj (by omega) (by omega) hno hno' (hide hS)).mono ?_
  rintro e w' ⟨rfl,hb⟩
  exact ⟨⟨none,0,0,rfl,num_none _⟩,hb⟩
 ·have h2 : 4294967296 ^ Pl.top = 2 ^ (32 * Pl.top) := by rw [Nat.pow_mul]
  rw [h2] at hv
  obtain ⟨z,hz,hz2⟩ := tz_ex h0 hv
  have hz3 : z < 524288 := by have := Pl.top_eq; omega
  refine Or.inr ⟨z,h0,hz,hz3,?_⟩
  by_cases hx : -1073741824 ≤ t + z ∧ t + z ≤ 1073741824
  ·refine Or.inl ⟨hx.1,hx.2,fun W A N C A' N' C' g g' hT => ?_⟩
   refine (Add_num s A N C m x s' A' N' C' m' x' t i j v z r W ⟨g,Or.inr hm⟩ ⟨g',Or.inr hm'⟩ (hp g) (hp' g') hT ht hi hj (by omega) (by omega) hno hno' h0 hz hz3 hx (hide hS)).mono ?_
   rintro e w' ⟨⟨A,N,C,rfl,h1⟩,hb⟩
   exact ⟨⟨A,N,C,rfl,h1.num⟩,hb⟩
  ·refine Or.inr ⟨by omega,Sums.many fun W A N C A' N' C' g g' hT => ?_⟩
   by_cases hx1 : 1073741824 < t + z
   ·exact Add_above s A N C m x s' A' N' C' m' x' t i j v z r W ⟨g,Or.inr hm⟩ ⟨g',Or.inr hm'⟩ (hp g) (hp' g') ht hi hj (by omega) (by omega) hno hno' hT h0 hz hz3 hx1 (hide hS)
   ·exact Add_below s A N C m x s' A' N' C' m' x' t i j v z r W ⟨g,Or.inr hm⟩ ⟨g',Or.inr hm'⟩ (hp g) (hp' g') ht hi hj (by omega) (by omega) hno hno' hT h0 hz hz3 (by omega) (hide hS)
end Go.Proofs.YtecmcjlgknfnlaaDoor
namespace Go.Proofs.YtecmcjlgknfnlaaDoor
open Go.RowKit
theorem dck_okd {s : Bool} {xs : List Nat} {x : Int} (h : dck s xs x = 0) : chk xs = 0 ∧ OkD s (Pl.val xs) x := by
 have hck : chk xs = 0 := by
  unfold dck at h
  by_cases hc : chk xs = 0
  ·exact hc
  ·rw [if_pos hc] at h; exact absurd h hc
 refine ⟨hck,?_⟩
 unfold dck at h
 rw [if_neg (by simpa using hck)] at h
 by_cases hz : xs.length = 0
 ·rw [if_pos hz] at h
  have hv : Pl.val xs = 0 := by rw [List.length_eq_zero_iff.1 hz]; rfl
  by_cases hs : s = true ∨ x ≠ 0
  ·rw [if_pos hs] at h; cases h
  ·exact Or.inl ⟨hv,by cases s <;> simp_all,by omega⟩
 ·rw [if_neg hz] at h
  by_cases hs : Pl.val xs % 2 = 0 ∨ Far x
  ·rw [if_pos hs] at h; cases h
  ·exact Or.inr ⟨by omega,by unfold Far at hs; omega⟩
end Go.Proofs.YtecmcjlgknfnlaaDoor
