/- Of what NearBesideRow stands on: ExAddS ExAdd ExOver ExAddR. -/
import Derived.Test.YtkebhccbhoamjaaGreatDoorPba
import Derived.Test.YtkebhccbhoamjaaGreatDoorPaw
import Derived.Test.YtkebhccbhoamjaaGreatDoorPas
import Derived.Test.YtkebhccbhoamjaaGreatDoorPag
namespace Go.Proofs.YtkebhccbhoamjaaGreatDoor
open Go.RowKit
theorem st_mine2 {base : Nat} (a : Option Addr) (n c m : Nat) : St base (fun W => Mine W base a n c m) := st_mine base a n c m
end Go.Proofs.YtkebhccbhoamjaaGreatDoor
namespace Go.Proofs.YtkebhccbhoamjaaGreatDoor
open Go.RowKit
set_option maxHeartbeats 2000000 in
theorem Add_num (s : Bool) (a : Option Addr) (n cap m : Nat) (x : Int) (s' : Bool) (a' : Option Addr) (n' cap' m' : Nat) (x' : Int) (t : Int) (j j' v z : Nat) (r : Bool) (w : World) (h : Dy w s a n m x) (h' : Dy w s' a' n' m' x') (hn : 0 < n) (hn' : 0 < n') (hT : Tb w) (hmin : min x x' = t) (hj : x - t = (j : Int)) (hj' : x' - t = (j' : Int)) (hj2 : j < 9223372036854775808) (hj2' : j' < 9223372036854775808) (hno : ¬ Over (m * 2 ^ j)) (hno' : ¬ Over (m' * 2 ^ j')) (hv : 0 < v) (hz : Tz v z) (hz2 : z < 524288) (hx : -1073741824 ≤ t + z ∧ t + z ≤ 1073741824) (hS9 : Hid (∀ (W : World) (A : Option Addr) (N C : Nat) (A' : Option Addr) (N' C' : Nat),Num W A N (m * 2 ^ j) → Num W A' N' (m' * 2 ^ j') → Calls Tryz.prog 189 #[.bool s,.agg #[.slice A N C],.bool s',.agg #[.slice A' N' C']] W fun e w' => (∃ A N C,e = .returned (.tuple #[.bool r,.agg #[.slice A N C],.int .i64 0]) ∧ Mine w' W.heap.size A N C v) ∧ Below W.heap.size W w')) :
  Calls Tryz.prog 123 #[.agg #[.bool s,.slice a n cap,.int .i64 x],.agg #[.bool s',.slice a' n' cap',.int .i64 x']] w fun e w' => (∃ A N C,e = .returned (.tuple #[.agg #[.bool r,.slice A N C,.int .i64 (t + (z : Int))],.int .i64 0]) ∧ Mine w' w.heap.size A N C (v / 2 ^ z)) ∧ Below w.heap.size w w' := by
 have H := hide h
 have H' := hide h'
 have HT := hide hT
 have HJ := hide (And.intro hj (And.intro hj' (And.intro hno (And.intro hno' (And.intro hv hz)))))
 clear h h' hT hj hj' hno hno' hv hz
 go_enter Tryz.func123,Tryz.ntmps123
 go_wp2_with fail
 refine (checkBoth_dy s a n cap m x s' a' n' cap' m' x' _ ((unhide H).kept (gr_trans (gr_trans (gr_alloc _ _) (gr_alloc _ _)) (gr_alloc _ _))) ((unhide H').kept (gr_trans (gr_trans (gr_alloc _ _) (gr_alloc _ _)) (gr_alloc _ _)))).mono ?_
 rintro e w1 ⟨rfl,hb1⟩
 have hS := (Fs.three w _ _ _ _ _ _).kept hb1
 obtain ⟨⟨z1_0_0,z1_0_1,z1_0_2,-⟩,⟨z1_1_0,z1_1_1,z1_1_2,-⟩,⟨z1_2_0,z1_2_1,z1_2_2,-⟩,-⟩ := hS.cells
 go_wp2_with fail
 refine (isNought_no a n cap hn _).mono ?_
 rintro e w2 ⟨rfl,hb2⟩
 replace hS := hS.kept hb2
 clear z1_0_0 z1_0_1 z1_0_2 z1_1_0 z1_1_1 z1_1_2 z1_2_0 z1_2_1 z1_2_2
 obtain ⟨⟨z2_0_0,z2_0_1,z2_0_2,-⟩,⟨z2_1_0,z2_1_1,z2_1_2,-⟩,⟨z2_2_0,z2_2_1,z2_2_2,-⟩,-⟩ := hS.cells
 go_wp2_with fail
 refine (isNought_no a' n' cap' hn' _).mono ?_
 rintro e w3 ⟨rfl,hb3⟩
 replace hS := hS.kept hb3
 clear z2_0_0 z2_0_1 z2_0_2 z2_1_0 z2_1_1 z2_1_2 z2_2_0 z2_2_1 z2_2_2
 obtain ⟨⟨z3_0_0,z3_0_1,z3_0_2,-⟩,⟨z3_1_0,z3_1_1,z3_1_2,-⟩,⟨z3_2_0,z3_2_1,z3_2_2,-⟩,-⟩ := hS.cells
 go_wp2_with fail
 refine (together_ok s a n cap m x s' a' n' cap' m' x' t j j' _ ((unhide H).kept hS.fr).num ((unhide H').kept hS.fr).num hmin (unhide HJ).1 (unhide HJ).2.1 hj2 hj2' (unhide HJ).2.2.1 (unhide HJ).2.2.2.1).mono ?_
 rintro e w4 ⟨⟨A4,N4,C4,B4,O4,Q4,rfl,g4,g5⟩,hb4⟩
 replace hS := hS.kept hb4
 clear z3_0_0 z3_0_1 z3_0_2 z3_1_0 z3_1_1 z3_1_2 z3_2_0 z3_2_1 z3_2_2
 obtain ⟨⟨z4_0_0,z4_0_1,z4_0_2,-⟩,⟨z4_1_0,z4_1_1,z4_1_2,-⟩,⟨z4_2_0,z4_2_1,z4_2_2,-⟩,-⟩ := hS.cells
 have G4 := hide g4
 have G5 := hide g5
 clear g4 g5
 have hltw4_0 : w.heap.size < w4.heap.size := block_lt (hS.bx ⟨w.heap.size,#[.bool s,.slice a n cap,.int .i64 x],33⟩ (by simp))
 have hltw4_1 : w.heap.size + 1 < w4.heap.size := block_lt (hS.bx ⟨w.heap.size + 1,#[.bool s',.slice a' n' cap',.int .i64 x'],33⟩ (by simp))
 have hltw4_2 : w.heap.size + 2 < w4.heap.size := block_lt (hS.bx ⟨w.heap.size + 2,#[.bool false,.slice none 0 0,.int .i64 0],33⟩ (by simp))
 replace hS := (hS.alloc #[.slice A4 N4 C4] 31).alloc #[.slice B4 O4 Q4] 31
 rw [World.size_alloc] at hS
 go_wp2_with fail
 refine (unhide hS9 _ A4 N4 C4 B4 O4 Q4 (((unhide G4).alloc _).alloc _) (((unhide G5).alloc _).alloc _)).mono ?_
 rintro e w5 ⟨⟨A5,N5,C5,rfl,f5⟩,hb5⟩
 replace hS := hS.kept hb5
 clear z4_0_0 z4_0_1 z4_0_2 z4_1_0 z4_1_1 z4_1_2 z4_2_0 z4_2_1 z4_2_2
 obtain ⟨⟨z5_0_0,-⟩,⟨z5_1_0,-⟩,⟨z5_2_0,z5_2_1,z5_2_2,-⟩,⟨z5_3_0,z5_3_1,z5_3_2,-⟩,⟨z5_4_0,z5_4_1,z5_4_2,-⟩,-⟩ := hS.cells
 have F5 := hide f5
 clear f5
 have hltw5_0 : w4.heap.size + 1 < w5.heap.size := block_lt (hS.bx ⟨w4.heap.size + 1,#[.slice B4 O4 Q4],31⟩ (by simp))
 have hltw5_1 : w4.heap.size < w5.heap.size := block_lt (hS.bx ⟨w4.heap.size,#[.slice A4 N4 C4],31⟩ (by simp))
 have hltw5_2 : w.heap.size < w5.heap.size := block_lt (hS.bx ⟨w.heap.size,#[.bool s,.slice a n cap,.int .i64 x],33⟩ (by simp))
 have hltw5_3 : w.heap.size + 1 < w5.heap.size := block_lt (hS.bx ⟨w.heap.size + 1,#[.bool s',.slice a' n' cap',.int .i64 x'],33⟩ (by simp))
 have hltw5_4 : w.heap.size + 2 < w5.heap.size := block_lt (hS.bx ⟨w.heap.size + 2,#[.bool false,.slice none 0 0,.int .i64 0],33⟩ (by simp))
 replace hS := hS.alloc #[.slice A5 N5 C5] 31
 go_wp2_with fail
 refine (make_ok r A5 N5 C5 v z t _ ((unhide F5).alloc _).num (unhide HJ).2.2.2.2.1 ((unhide HT).kept hS.fr) (unhide HJ).2.2.2.2.2 hz2 (unhide F5).room.1 (unhide F5).room.2 hx).mono ?_
 rintro e w6 ⟨⟨A6,N6,C6,rfl,f6⟩,hb6⟩
 replace hS := hS.kept hb6
 clear z5_0_0 z5_1_0 z5_2_0 z5_2_1 z5_2_2 z5_3_0 z5_3_1 z5_3_2 z5_4_0 z5_4_1 z5_4_2
 obtain ⟨⟨z6_0_0,-⟩,⟨z6_1_0,-⟩,⟨z6_2_0,-⟩,⟨z6_3_0,z6_3_1,z6_3_2,-⟩,⟨z6_4_0,z6_4_1,z6_4_2,-⟩,⟨z6_5_0,z6_5_1,z6_5_2,-⟩,-⟩ := hS.cells
 have F6 := hide f6
 clear f6
 have fz0 := hS.frozen (b := w.heap.size + 2) (cs := #[.bool false,.slice none 0 0,.int .i64 0]) (t := 33) (by simp) 0
 have fz1 := hS.frozen (b := w.heap.size + 2) (cs := #[.bool false,.slice none 0 0,.int .i64 0]) (t := 33) (by simp) 1
 have fz2 := hS.frozen (b := w.heap.size + 2) (cs := #[.bool false,.slice none 0 0,.int .i64 0]) (t := 33) (by simp) 2
 go_wp2
 exact bodyPost_ret (v := .tuple #[.agg #[.bool r,.slice A6 N6 C6,.int .i64 (t + (z : Int))],.int .i64 0]) (by simp [results,Tryz.results123,go_sem,z6_5_0,z6_5_1,z6_5_2]) rfl
  ⟨⟨_,_,_,rfl,((((unhide F6).set (by simp; omega) _).set (by simp; omega) _).set (by simp; omega) _).mono (by simp; omega)⟩,((hS.fr.setCell (by simp <;> omega) _).setCell (by simp <;> omega) _).setCell (by simp <;> omega) _⟩
end Go.Proofs.YtkebhccbhoamjaaGreatDoor
namespace Go.Proofs.YtkebhccbhoamjaaGreatDoor
open Go.RowKit
end Go.Proofs.YtkebhccbhoamjaaGreatDoor
namespace Go.Proofs.YtkebhccbhoamjaaGreatDoor
open Go.RowKit
set_option maxHeartbeats 1000000 in
theorem Add_left (s : Bool) (a : Option Addr) (cap m : Nat) (x : Int) (s' : Bool) (a' : Option Addr) (n' cap' m' : Nat) (x' : Int) (w : World) (h : Dy w s a 0 m x) (h' : Dy w s' a' n' m' x') :
  Calls Tryz.prog 123 #[.agg #[.bool s,.slice a 0 cap,.int .i64 x],.agg #[.bool s',.slice a' n' cap',.int .i64 x']] w fun e w' => (∃ A N C,e = .returned (.tuple #[.agg #[.bool s',.slice A N C,.int .i64 x'],.int .i64 0]) ∧ Mine w' w.heap.size A N C m') ∧ Below w.heap.size w w' := by
 have H := hide h
 have H' := hide h'
 clear h h'
 go_enter Tryz.func123,Tryz.ntmps123
 go_wp2_with fail
 refine (checkBoth_dy s a 0 cap m x s' a' n' cap' m' x' _ ((unhide H).kept (gr_trans (gr_trans (gr_alloc _ _) (gr_alloc _ _)) (gr_alloc _ _))) ((unhide H').kept (gr_trans (gr_trans (gr_alloc _ _) (gr_alloc _ _)) (gr_alloc _ _)))).mono ?_
 rintro e w1 ⟨rfl,hb1⟩
 have hS := (Fs.three w _ _ _ _ _ _).kept hb1
 obtain ⟨⟨z1_0_0,z1_0_1,z1_0_2,-⟩,⟨z1_1_0,z1_1_1,z1_1_2,-⟩,⟨z1_2_0,z1_2_1,z1_2_2,-⟩,-⟩ := hS.cells
 go_wp2_with fail
 refine (isNought_yes a cap _).mono ?_
 rintro e w2 ⟨rfl,hb2⟩
 replace hS := hS.kept hb2
 clear z1_0_0 z1_0_1 z1_0_2 z1_1_0 z1_1_1 z1_1_2 z1_2_0 z1_2_1 z1_2_2
 obtain ⟨⟨z2_0_0,z2_0_1,z2_0_2,-⟩,⟨z2_1_0,z2_1_1,z2_1_2,-⟩,⟨z2_2_0,z2_2_1,z2_2_2,-⟩,-⟩ := hS.cells
 have hltw2_0 : w.heap.size < w2.heap.size := block_lt (hS.bx ⟨w.heap.size,#[.bool s,.slice a 0 cap,.int .i64 x],33⟩ (by simp))
 have hltw2_1 : w.heap.size + 1 < w2.heap.size := block_lt (hS.bx ⟨w.heap.size + 1,#[.bool s',.slice a' n' cap',.int .i64 x'],33⟩ (by simp))
 have hltw2_2 : w.heap.size + 2 < w2.heap.size := block_lt (hS.bx ⟨w.heap.size + 2,#[.bool false,.slice none 0 0,.int .i64 0],33⟩ (by simp))
 go_wp2_with fail
 refine (copied_any s' a' n' cap' m' x' _ ((unhide H').kept hS.fr).num).mono ?_
 rintro e w3 ⟨⟨A3,C3,rfl,f3⟩,hb3⟩
 replace hS := hS.kept hb3
 clear z2_0_0 z2_0_1 z2_0_2 z2_1_0 z2_1_1 z2_1_2 z2_2_0 z2_2_1 z2_2_2
 obtain ⟨⟨z3_0_0,z3_0_1,z3_0_2,-⟩,⟨z3_1_0,z3_1_1,z3_1_2,-⟩,⟨z3_2_0,z3_2_1,z3_2_2,-⟩,-⟩ := hS.cells
 have F3 := hide f3
 clear f3
 have fz0 := hS.frozen (b := w.heap.size + 2) (cs := #[.bool false,.slice none 0 0,.int .i64 0]) (t := 33) (by simp) 0
 have fz1 := hS.frozen (b := w.heap.size + 2) (cs := #[.bool false,.slice none 0 0,.int .i64 0]) (t := 33) (by simp) 1
 have fz2 := hS.frozen (b := w.heap.size + 2) (cs := #[.bool false,.slice none 0 0,.int .i64 0]) (t := 33) (by simp) 2
 go_wp2
 exact bodyPost_ret (v := .tuple #[.agg #[.bool s',.slice A3 n' C3,.int .i64 x'],.int .i64 0]) (by simp [results,Tryz.results123,go_sem,z3_2_0,z3_2_1,z3_2_2]) rfl ⟨⟨_,_,_,rfl,((((unhide F3).set (by exact hltw2_2) _).set (by exact hltw2_2) _).set (by exact hltw2_2) _).mono (by omega)⟩,((hS.fr.setCell (by simp <;> omega) _).setCell (by simp <;> omega) _).setCell (by simp <;> omega) _⟩
set_option maxHeartbeats 2000000 in
theorem Add_zero (s : Bool) (a : Option Addr) (n cap m : Nat) (x : Int) (s' : Bool) (a' : Option Addr) (n' cap' m' : Nat) (x' : Int) (t : Int) (j j' : Nat) (r : Bool) (w : World) (h : Dy w s a n m x) (h' : Dy w s' a' n' m' x') (hn : 0 < n) (hn' : 0 < n') (hmin : min x x' = t) (hj : x - t = (j : Int)) (hj' : x' - t = (j' : Int)) (hj2 : j < 9223372036854775808) (hj2' : j' < 9223372036854775808) (hno : ¬ Over (m * 2 ^ j)) (hno' : ¬ Over (m' * 2 ^ j')) (hS9 : Hid (∀ (W : World) (A : Option Addr) (N C : Nat) (A' : Option Addr) (N' C' : Nat),Num W A N (m * 2 ^ j) → Num W A' N' (m' * 2 ^ j') → Calls Tryz.prog 189 #[.bool s,.agg #[.slice A N C],.bool s',.agg #[.slice A' N' C']] W fun e w' => (∃ A N C,e = .returned (.tuple #[.bool r,.agg #[.slice A N C],.int .i64 0]) ∧ Mine w' W.heap.size A N C 0) ∧ Below W.heap.size W w')) :
  Calls Tryz.prog 123 #[.agg #[.bool s,.slice a n cap,.int .i64 x],.agg #[.bool s',.slice a' n' cap',.int .i64 x']] w fun e w' => e = .returned (.tuple #[.agg #[.bool false,.slice none 0 0,.int .i64 0],.int .i64 0]) ∧ Below w.heap.size w w' := by
 have H := hide h
 have H' := hide h'
 have HJ := hide (And.intro hj (And.intro hj' (And.intro hno hno')))
 clear h h' hj hj' hno hno'
 go_enter Tryz.func123,Tryz.ntmps123
 go_wp2_with fail
 refine (checkBoth_dy s a n cap m x s' a' n' cap' m' x' _ ((unhide H).kept (gr_trans (gr_trans (gr_alloc _ _) (gr_alloc _ _)) (gr_alloc _ _))) ((unhide H').kept (gr_trans (gr_trans (gr_alloc _ _) (gr_alloc _ _)) (gr_alloc _ _)))).mono ?_
 rintro e w1 ⟨rfl,hb1⟩
 have hS := (Fs.three w _ _ _ _ _ _).kept hb1
 obtain ⟨⟨z1_0_0,z1_0_1,z1_0_2,-⟩,⟨z1_1_0,z1_1_1,z1_1_2,-⟩,⟨z1_2_0,z1_2_1,z1_2_2,-⟩,-⟩ := hS.cells
 go_wp2_with fail
 refine (isNought_no a n cap hn _).mono ?_
 rintro e w2 ⟨rfl,hb2⟩
 replace hS := hS.kept hb2
 clear z1_0_0 z1_0_1 z1_0_2 z1_1_0 z1_1_1 z1_1_2 z1_2_0 z1_2_1 z1_2_2
 obtain ⟨⟨z2_0_0,z2_0_1,z2_0_2,-⟩,⟨z2_1_0,z2_1_1,z2_1_2,-⟩,⟨z2_2_0,z2_2_1,z2_2_2,-⟩,-⟩ := hS.cells
 go_wp2_with fail
 refine (isNought_no a' n' cap' hn' _).mono ?_
 rintro e w3 ⟨rfl,hb3⟩
 replace hS := hS.kept hb3
 clear z2_0_0 z2_0_1 z2_0_2 z2_1_0 z2_1_1 z2_1_2 z2_2_0 z2_2_1 z2_2_2
 obtain ⟨⟨z3_0_0,z3_0_1,z3_0_2,-⟩,⟨z3_1_0,z3_1_1,z3_1_2,-⟩,⟨z3_2_0,z3_2_1,z3_2_2,-⟩,-⟩ := hS.cells
 go_wp2_with fail
 refine (together_ok s a n cap m x s' a' n' cap' m' x' t j j' _ ((unhide H).kept hS.fr).num ((unhide H').kept hS.fr).num hmin (unhide HJ).1 (unhide HJ).2.1 hj2 hj2' (unhide HJ).2.2.1 (unhide HJ).2.2.2).mono ?_
 rintro e w4 ⟨⟨A4,N4,C4,B4,O4,Q4,rfl,g4,g5⟩,hb4⟩
 replace hS := hS.kept hb4
 clear z3_0_0 z3_0_1 z3_0_2 z3_1_0 z3_1_1 z3_1_2 z3_2_0 z3_2_1 z3_2_2
 obtain ⟨⟨z4_0_0,z4_0_1,z4_0_2,-⟩,⟨z4_1_0,z4_1_1,z4_1_2,-⟩,⟨z4_2_0,z4_2_1,z4_2_2,-⟩,-⟩ := hS.cells
 have G4 := hide g4
 have G5 := hide g5
 clear g4 g5
 have hltw4_0 : w.heap.size < w4.heap.size := block_lt (hS.bx ⟨w.heap.size,#[.bool s,.slice a n cap,.int .i64 x],33⟩ (by simp))
 have hltw4_1 : w.heap.size + 1 < w4.heap.size := block_lt (hS.bx ⟨w.heap.size + 1,#[.bool s',.slice a' n' cap',.int .i64 x'],33⟩ (by simp))
 have hltw4_2 : w.heap.size + 2 < w4.heap.size := block_lt (hS.bx ⟨w.heap.size + 2,#[.bool false,.slice none 0 0,.int .i64 0],33⟩ (by simp))
 replace hS := (hS.alloc #[.slice A4 N4 C4] 31).alloc #[.slice B4 O4 Q4] 31
 rw [World.size_alloc] at hS
 go_wp2_with fail
 refine (unhide hS9 _ A4 N4 C4 B4 O4 Q4 (((unhide G4).alloc _).alloc _) (((unhide G5).alloc _).alloc _)).mono ?_
 rintro e w5 ⟨⟨A5,N5,C5,rfl,f5⟩,hb5⟩
 replace hS := hS.kept hb5
 clear z4_0_0 z4_0_1 z4_0_2 z4_1_0 z4_1_1 z4_1_2 z4_2_0 z4_2_1 z4_2_2
 obtain ⟨⟨z5_0_0,-⟩,⟨z5_1_0,-⟩,⟨z5_2_0,z5_2_1,z5_2_2,-⟩,⟨z5_3_0,z5_3_1,z5_3_2,-⟩,⟨z5_4_0,z5_4_1,z5_4_2,-⟩,-⟩ := hS.cells
 have F5 := hide f5
 clear f5
 have hltw5_0 : w4.heap.size + 1 < w5.heap.size := block_lt (hS.bx ⟨w4.heap.size + 1,#[.slice B4 O4 Q4],31⟩ (by simp))
 have hltw5_1 : w4.heap.size < w5.heap.size := block_lt (hS.bx ⟨w4.heap.size,#[.slice A4 N4 C4],31⟩ (by simp))
 have hltw5_2 : w.heap.size < w5.heap.size := block_lt (hS.bx ⟨w.heap.size,#[.bool s,.slice a n cap,.int .i64 x],33⟩ (by simp))
 have hltw5_3 : w.heap.size + 1 < w5.heap.size := block_lt (hS.bx ⟨w.heap.size + 1,#[.bool s',.slice a' n' cap',.int .i64 x'],33⟩ (by simp))
 have hltw5_4 : w.heap.size + 2 < w5.heap.size := block_lt (hS.bx ⟨w.heap.size + 2,#[.bool false,.slice none 0 0,.int .i64 0],33⟩ (by simp))
 replace hS := hS.alloc #[.slice A5 N5 C5] 31
 obtain rfl := (unhide F5).num.zero.2 rfl
 go_wp2_with fail
 refine (make_nought r A5 C5 t _ ((unhide F5).alloc _).num).mono ?_
 rintro e w6 ⟨rfl,hb6⟩
 replace hS := hS.kept hb6
 clear z5_0_0 z5_1_0 z5_2_0 z5_2_1 z5_2_2 z5_3_0 z5_3_1 z5_3_2 z5_4_0 z5_4_1 z5_4_2
 obtain ⟨⟨z6_0_0,-⟩,⟨z6_1_0,-⟩,⟨z6_2_0,-⟩,⟨z6_3_0,z6_3_1,z6_3_2,-⟩,⟨z6_4_0,z6_4_1,z6_4_2,-⟩,⟨z6_5_0,z6_5_1,z6_5_2,-⟩,-⟩ := hS.cells
 have fz0 := hS.frozen (b := w.heap.size + 2) (cs := #[.bool false,.slice none 0 0,.int .i64 0]) (t := 33) (by simp) 0
 have fz1 := hS.frozen (b := w.heap.size + 2) (cs := #[.bool false,.slice none 0 0,.int .i64 0]) (t := 33) (by simp) 1
 have fz2 := hS.frozen (b := w.heap.size + 2) (cs := #[.bool false,.slice none 0 0,.int .i64 0]) (t := 33) (by simp) 2
 go_wp2
 exact bodyPost_ret (v := .tuple #[.agg #[.bool false,.slice none 0 0,.int .i64 0],.int .i64 0]) (by simp [results,Tryz.results123,go_sem,z6_5_0,z6_5_1,z6_5_2]) rfl ⟨rfl,((hS.fr.setCell (by simp <;> omega) _).setCell (by simp <;> omega) _).setCell (by simp <;> omega) _⟩
set_option maxHeartbeats 2000000 in
theorem Add_above (s : Bool) (a : Option Addr) (n cap m : Nat) (x : Int) (s' : Bool) (a' : Option Addr) (n' cap' m' : Nat) (x' : Int) (t : Int) (j j' v z : Nat) (r : Bool) (w : World) (h : Dy w s a n m x) (h' : Dy w s' a' n' m' x') (hn : 0 < n) (hn' : 0 < n') (hmin : min x x' = t) (hj : x - t = (j : Int)) (hj' : x' - t = (j' : Int)) (hj2 : j < 9223372036854775808) (hj2' : j' < 9223372036854775808) (hno : ¬ Over (m * 2 ^ j)) (hno' : ¬ Over (m' * 2 ^ j')) (hT : Tb w) (hv : 0 < v) (hz : Tz v z) (hz2 : z < 524288) (hx : 1073741824 < t + z) (hS9 : Hid (∀ (W : World) (A : Option Addr) (N C : Nat) (A' : Option Addr) (N' C' : Nat),Num W A N (m * 2 ^ j) → Num W A' N' (m' * 2 ^ j') → Calls Tryz.prog 189 #[.bool s,.agg #[.slice A N C],.bool s',.agg #[.slice A' N' C']] W fun e w' => (∃ A N C,e = .returned (.tuple #[.bool r,.agg #[.slice A N C],.int .i64 0]) ∧ Mine w' W.heap.size A N C v) ∧ Below W.heap.size W w')) :
  Calls Tryz.prog 123 #[.agg #[.bool s,.slice a n cap,.int .i64 x],.agg #[.bool s',.slice a' n' cap',.int .i64 x']] w fun e w' => e = .returned (.tuple #[.agg #[.bool false,.slice none 0 0,.int .i64 0],.int .i64 4]) ∧ Below w.heap.size w w' := by
 have H := hide h
 have H' := hide h'
 have HJ := hide (And.intro hj (And.intro hj' (And.intro hno hno')))
 clear h h' hj hj' hno hno'
 have HT := hide hT
 have HV := hide (And.intro hv hz)
 clear hT hv hz
 go_enter Tryz.func123,Tryz.ntmps123
 go_wp2_with fail
 refine (checkBoth_dy s a n cap m x s' a' n' cap' m' x' _ ((unhide H).kept (gr_trans (gr_trans (gr_alloc _ _) (gr_alloc _ _)) (gr_alloc _ _))) ((unhide H').kept (gr_trans (gr_trans (gr_alloc _ _) (gr_alloc _ _)) (gr_alloc _ _)))).mono ?_
 rintro e w1 ⟨rfl,hb1⟩
 have hS := (Fs.three w _ _ _ _ _ _).kept hb1
 obtain ⟨⟨z1_0_0,z1_0_1,z1_0_2,-⟩,⟨z1_1_0,z1_1_1,z1_1_2,-⟩,⟨z1_2_0,z1_2_1,z1_2_2,-⟩,-⟩ := hS.cells
 go_wp2_with fail
 refine (isNought_no a n cap hn _).mono ?_
 rintro e w2 ⟨rfl,hb2⟩
 replace hS := hS.kept hb2
 clear z1_0_0 z1_0_1 z1_0_2 z1_1_0 z1_1_1 z1_1_2 z1_2_0 z1_2_1 z1_2_2
 obtain ⟨⟨z2_0_0,z2_0_1,z2_0_2,-⟩,⟨z2_1_0,z2_1_1,z2_1_2,-⟩,⟨z2_2_0,z2_2_1,z2_2_2,-⟩,-⟩ := hS.cells
 go_wp2_with fail
 refine (isNought_no a' n' cap' hn' _).mono ?_
 rintro e w3 ⟨rfl,hb3⟩
 replace hS := hS.kept hb3
 clear z2_0_0 z2_0_1 z2_0_2 z2_1_0 z2_1_1 z2_1_2 z2_2_0 z2_2_1 z2_2_2
 obtain ⟨⟨z3_0_0,z3_0_1,z3_0_2,-⟩,⟨z3_1_0,z3_1_1,z3_1_2,-⟩,⟨z3_2_0,z3_2_1,z3_2_2,-⟩,-⟩ := hS.cells
 go_wp2_with fail
 refine (together_ok s a n cap m x s' a' n' cap' m' x' t j j' _ ((unhide H).kept hS.fr).num ((unhide H').kept hS.fr).num hmin (unhide HJ).1 (unhide HJ).2.1 hj2 hj2' (unhide HJ).2.2.1 (unhide HJ).2.2.2).mono ?_
 rintro e w4 ⟨⟨A4,N4,C4,B4,O4,Q4,rfl,g4,g5⟩,hb4⟩
 replace hS := hS.kept hb4
 clear z3_0_0 z3_0_1 z3_0_2 z3_1_0 z3_1_1 z3_1_2 z3_2_0 z3_2_1 z3_2_2
 obtain ⟨⟨z4_0_0,z4_0_1,z4_0_2,-⟩,⟨z4_1_0,z4_1_1,z4_1_2,-⟩,⟨z4_2_0,z4_2_1,z4_2_2,-⟩,-⟩ := hS.cells
 have G4 := hide g4
 have G5 := hide g5
 clear g4 g5
 have hltw4_0 : w.heap.size < w4.heap.size := block_lt (hS.bx ⟨w.heap.size,#[.bool s,.slice a n cap,.int .i64 x],33⟩ (by simp))
 have hltw4_1 : w.heap.size + 1 < w4.heap.size := block_lt (hS.bx ⟨w.heap.size + 1,#[.bool s',.slice a' n' cap',.int .i64 x'],33⟩ (by simp))
 have hltw4_2 : w.heap.size + 2 < w4.heap.size := block_lt (hS.bx ⟨w.heap.size + 2,#[.bool false,.slice none 0 0,.int .i64 0],33⟩ (by simp))
 replace hS := (hS.alloc #[.slice A4 N4 C4] 31).alloc #[.slice B4 O4 Q4] 31
 rw [World.size_alloc] at hS
 go_wp2_with fail
 refine (unhide hS9 _ A4 N4 C4 B4 O4 Q4 (((unhide G4).alloc _).alloc _) (((unhide G5).alloc _).alloc _)).mono ?_
 rintro e w5 ⟨⟨A5,N5,C5,rfl,f5⟩,hb5⟩
 replace hS := hS.kept hb5
 clear z4_0_0 z4_0_1 z4_0_2 z4_1_0 z4_1_1 z4_1_2 z4_2_0 z4_2_1 z4_2_2
 obtain ⟨⟨z5_0_0,-⟩,⟨z5_1_0,-⟩,⟨z5_2_0,z5_2_1,z5_2_2,-⟩,⟨z5_3_0,z5_3_1,z5_3_2,-⟩,⟨z5_4_0,z5_4_1,z5_4_2,-⟩,-⟩ := hS.cells
 have F5 := hide f5
 clear f5
 have hltw5_0 : w4.heap.size + 1 < w5.heap.size := block_lt (hS.bx ⟨w4.heap.size + 1,#[.slice B4 O4 Q4],31⟩ (by simp))
 have hltw5_1 : w4.heap.size < w5.heap.size := block_lt (hS.bx ⟨w4.heap.size,#[.slice A4 N4 C4],31⟩ (by simp))
 have hltw5_2 : w.heap.size < w5.heap.size := block_lt (hS.bx ⟨w.heap.size,#[.bool s,.slice a n cap,.int .i64 x],33⟩ (by simp))
 have hltw5_3 : w.heap.size + 1 < w5.heap.size := block_lt (hS.bx ⟨w.heap.size + 1,#[.bool s',.slice a' n' cap',.int .i64 x'],33⟩ (by simp))
 have hltw5_4 : w.heap.size + 2 < w5.heap.size := block_lt (hS.bx ⟨w.heap.size + 2,#[.bool false,.slice none 0 0,.int .i64 0],33⟩ (by simp))
 replace hS := hS.alloc #[.slice A5 N5 C5] 31
 go_wp2_with fail
 refine (make_above r A5 N5 C5 v z t _ ((unhide F5).alloc _).num (unhide HV).1 ((unhide HT).kept hS.fr) (unhide HV).2 hz2 hx).mono ?_
 rintro e w6 ⟨rfl,hb6⟩
 replace hS := hS.kept hb6
 clear z5_0_0 z5_1_0 z5_2_0 z5_2_1 z5_2_2 z5_3_0 z5_3_1 z5_3_2 z5_4_0 z5_4_1 z5_4_2
 obtain ⟨⟨z6_0_0,-⟩,⟨z6_1_0,-⟩,⟨z6_2_0,-⟩,⟨z6_3_0,z6_3_1,z6_3_2,-⟩,⟨z6_4_0,z6_4_1,z6_4_2,-⟩,⟨z6_5_0,z6_5_1,z6_5_2,-⟩,-⟩ := hS.cells
 have fz0 := hS.frozen (b := w.heap.size + 2) (cs := #[.bool false,.slice none 0 0,.int .i64 0]) (t := 33) (by simp) 0
 have fz1 := hS.frozen (b := w.heap.size + 2) (cs := #[.bool false,.slice none 0 0,.int .i64 0]) (t := 33) (by simp) 1
 have fz2 := hS.frozen (b := w.heap.size + 2) (cs := #[.bool false,.slice none 0 0,.int .i64 0]) (t := 33) (by simp) 2
 go_wp2
 exact bodyPost_ret (v := .tuple #[.agg #[.bool false,.slice none 0 0,.int .i64 0],.int .i64 4]) (by simp [results,Tryz.results123,go_sem,z6_5_0,z6_5_1,z6_5_2]) rfl ⟨rfl,((hS.fr.setCell (by simp <;> omega) _).setCell (by simp <;> omega) _).setCell (by simp <;> omega) _⟩
set_option maxHeartbeats 2000000 in
theorem Add_below (s : Bool) (a : Option Addr) (n cap m : Nat) (x : Int) (s' : Bool) (a' : Option Addr) (n' cap' m' : Nat) (x' : Int) (t : Int) (j j' v z : Nat) (r : Bool) (w : World) (h : Dy w s a n m x) (h' : Dy w s' a' n' m' x') (hn : 0 < n) (hn' : 0 < n') (hmin : min x x' = t) (hj : x - t = (j : Int)) (hj' : x' - t = (j' : Int)) (hj2 : j < 9223372036854775808) (hj2' : j' < 9223372036854775808) (hno : ¬ Over (m * 2 ^ j)) (hno' : ¬ Over (m' * 2 ^ j')) (hT : Tb w) (hv : 0 < v) (hz : Tz v z) (hz2 : z < 524288) (hx : t + z < -1073741824) (hS9 : Hid (∀ (W : World) (A : Option Addr) (N C : Nat) (A' : Option Addr) (N' C' : Nat),Num W A N (m * 2 ^ j) → Num W A' N' (m' * 2 ^ j') → Calls Tryz.prog 189 #[.bool s,.agg #[.slice A N C],.bool s',.agg #[.slice A' N' C']] W fun e w' => (∃ A N C,e = .returned (.tuple #[.bool r,.agg #[.slice A N C],.int .i64 0]) ∧ Mine w' W.heap.size A N C v) ∧ Below W.heap.size W w')) :
  Calls Tryz.prog 123 #[.agg #[.bool s,.slice a n cap,.int .i64 x],.agg #[.bool s',.slice a' n' cap',.int .i64 x']] w fun e w' => e = .returned (.tuple #[.agg #[.bool false,.slice none 0 0,.int .i64 0],.int .i64 4]) ∧ Below w.heap.size w w' := by
 have H := hide h
 have H' := hide h'
 have HJ := hide (And.intro hj (And.intro hj' (And.intro hno hno')))
 clear h h' hj hj' hno hno'
 have HT := hide hT
 have HV := hide (And.intro hv hz)
 clear hT hv hz
 go_enter Tryz.func123,Tryz.ntmps123
 go_wp2_with fail
 refine (checkBoth_dy s a n cap m x s' a' n' cap' m' x' _ ((unhide H).kept (gr_trans (gr_trans (gr_alloc _ _) (gr_alloc _ _)) (gr_alloc _ _))) ((unhide H').kept (gr_trans (gr_trans (gr_alloc _ _) (gr_alloc _ _)) (gr_alloc _ _)))).mono ?_
 rintro e w1 ⟨rfl,hb1⟩
 have hS := (Fs.three w _ _ _ _ _ _).kept hb1
 obtain ⟨⟨z1_0_0,z1_0_1,z1_0_2,-⟩,⟨z1_1_0,z1_1_1,z1_1_2,-⟩,⟨z1_2_0,z1_2_1,z1_2_2,-⟩,-⟩ := hS.cells
 go_wp2_with fail
 refine (isNought_no a n cap hn _).mono ?_
 rintro e w2 ⟨rfl,hb2⟩
 replace hS := hS.kept hb2
 clear z1_0_0 z1_0_1 z1_0_2 z1_1_0 z1_1_1 z1_1_2 z1_2_0 z1_2_1 z1_2_2
 obtain ⟨⟨z2_0_0,z2_0_1,z2_0_2,-⟩,⟨z2_1_0,z2_1_1,z2_1_2,-⟩,⟨z2_2_0,z2_2_1,z2_2_2,-⟩,-⟩ := hS.cells
 go_wp2_with fail
 refine (isNought_no a' n' cap' hn' _).mono ?_
 rintro e w3 ⟨rfl,hb3⟩
 replace hS := hS.kept hb3
 clear z2_0_0 z2_0_1 z2_0_2 z2_1_0 z2_1_1 z2_1_2 z2_2_0 z2_2_1 z2_2_2
 obtain ⟨⟨z3_0_0,z3_0_1,z3_0_2,-⟩,⟨z3_1_0,z3_1_1,z3_1_2,-⟩,⟨z3_2_0,z3_2_1,z3_2_2,-⟩,-⟩ := hS.cells
 go_wp2_with fail
 refine (together_ok s a n cap m x s' a' n' cap' m' x' t j j' _ ((unhide H).kept hS.fr).num ((unhide H').kept hS.fr).num hmin (unhide HJ).1 (unhide HJ).2.1 hj2 hj2' (unhide HJ).2.2.1 (unhide HJ).2.2.2).mono ?_
 rintro e w4 ⟨⟨A4,N4,C4,B4,O4,Q4,rfl,g4,g5⟩,hb4⟩
 replace hS := hS.kept hb4
 clear z3_0_0 z3_0_1 z3_0_2 z3_1_0 z3_1_1 z3_1_2 z3_2_0 z3_2_1 z3_2_2
 obtain ⟨⟨z4_0_0,z4_0_1,z4_0_2,-⟩,⟨z4_1_0,z4_1_1,z4_1_2,-⟩,⟨z4_2_0,z4_2_1,z4_2_2,-⟩,-⟩ := hS.cells
 have G4 := hide g4
 have G5 := hide g5
 clear g4 g5
 have hltw4_0 : w.heap.size < w4.heap.size := block_lt (hS.bx ⟨w.heap.size,#[.bool s,.slice a n cap,.int .i64 x],33⟩ (by simp))
 have hltw4_1 : w.heap.size + 1 < w4.heap.size := block_lt (hS.bx ⟨w.heap.size + 1,#[.bool s',.slice a' n' cap',.int .i64 x'],33⟩ (by simp))
 have hltw4_2 : w.heap.size + 2 < w4.heap.size := block_lt (hS.bx ⟨w.heap.size + 2,#[.bool false,.slice none 0 0,.int .i64 0],33⟩ (by simp))
 replace hS := (hS.alloc #[.slice A4 N4 C4] 31).alloc #[.slice B4 O4 Q4] 31
 rw [World.size_alloc] at hS
 go_wp2_with fail
 refine (unhide hS9 _ A4 N4 C4 B4 O4 Q4 (((unhide G4).alloc _).alloc _) (((unhide G5).alloc _).alloc _)).mono ?_
 rintro e w5 ⟨⟨A5,N5,C5,rfl,f5⟩,hb5⟩
 replace hS := hS.kept hb5
 clear z4_0_0 z4_0_1 z4_0_2 z4_1_0 z4_1_1 z4_1_2 z4_2_0 z4_2_1 z4_2_2
 obtain ⟨⟨z5_0_0,-⟩,⟨z5_1_0,-⟩,⟨z5_2_0,z5_2_1,z5_2_2,-⟩,⟨z5_3_0,z5_3_1,z5_3_2,-⟩,⟨z5_4_0,z5_4_1,z5_4_2,-⟩,-⟩ := hS.cells
 have F5 := hide f5
 clear f5
 have hltw5_0 : w4.heap.size + 1 < w5.heap.size := block_lt (hS.bx ⟨w4.heap.size + 1,#[.slice B4 O4 Q4],31⟩ (by simp))
 have hltw5_1 : w4.heap.size < w5.heap.size := block_lt (hS.bx ⟨w4.heap.size,#[.slice A4 N4 C4],31⟩ (by simp))
 have hltw5_2 : w.heap.size < w5.heap.size := block_lt (hS.bx ⟨w.heap.size,#[.bool s,.slice a n cap,.int .i64 x],33⟩ (by simp))
 have hltw5_3 : w.heap.size + 1 < w5.heap.size := block_lt (hS.bx ⟨w.heap.size + 1,#[.bool s',.slice a' n' cap',.int .i64 x'],33⟩ (by simp))
 have hltw5_4 : w.heap.size + 2 < w5.heap.size := block_lt (hS.bx ⟨w.heap.size + 2,#[.bool false,.slice none 0 0,.int .i64 0],33⟩ (by simp))
 replace hS := hS.alloc #[.slice A5 N5 C5] 31
 go_wp2_with fail
 refine (make_below r A5 N5 C5 v z t _ ((unhide F5).alloc _).num (unhide HV).1 ((unhide HT).kept hS.fr) (unhide HV).2 hz2 hx).mono ?_
 rintro e w6 ⟨rfl,hb6⟩
 replace hS := hS.kept hb6
 clear z5_0_0 z5_1_0 z5_2_0 z5_2_1 z5_2_2 z5_3_0 z5_3_1 z5_3_2 z5_4_0 z5_4_1 z5_4_2
 obtain ⟨⟨z6_0_0,-⟩,⟨z6_1_0,-⟩,⟨z6_2_0,-⟩,⟨z6_3_0,z6_3_1,z6_3_2,-⟩,⟨z6_4_0,z6_4_1,z6_4_2,-⟩,⟨z6_5_0,z6_5_1,z6_5_2,-⟩,-⟩ := hS.cells
 have fz0 := hS.frozen (b := w.heap.size + 2) (cs := #[.bool false,.slice none 0 0,.int .i64 0]) (t := 33) (by simp) 0
 have fz1 := hS.frozen (b := w.heap.size + 2) (cs := #[.bool false,.slice none 0 0,.int .i64 0]) (t := 33) (by simp) 1
 have fz2 := hS.frozen (b := w.heap.size + 2) (cs := #[.bool false,.slice none 0 0,.int .i64 0]) (t := 33) (by simp) 2
 go_wp2
 exact bodyPost_ret (v := .tuple #[.agg #[.bool false,.slice none 0 0,.int .i64 0],.int .i64 4]) (by simp [results,Tryz.results123,go_sem,z6_5_0,z6_5_1,z6_5_2]) rfl ⟨rfl,((hS.fr.setCell (by simp <;> omega) _).setCell (by simp <;> omega) _).setCell (by simp <;> omega) _⟩
end Go.Proofs.YtkebhccbhoamjaaGreatDoor
