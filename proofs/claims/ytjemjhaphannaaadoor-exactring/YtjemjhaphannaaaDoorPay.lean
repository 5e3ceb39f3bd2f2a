/- Of what ExactRingRow stands on: ExRingW. -/
import Derived.Test.YtjemjhaphannaaaDoorPax
namespace Go.Proofs.YtjemjhaphannaaaDoor
open Go.RowKit
set_option maxRecDepth 20000 in
set_option maxHeartbeats 16000000 in
theorem ring_many (s : Bool) (a : Option Addr) (n cap m : Nat) (x : Int) (s' : Bool) (a' : Option Addr) (n' cap' m' : Nat) (x' : Int) (e1 e3 y1 y3 c : Int) (q1 q3 n1 n2 : Bool) (v1 v3 : Nat) (w : World) (hT : Tb w) (h : Num w a n m) (h' : Num w a' n' m') (hca : Hid (∀ (W : World) (A : Option Addr) (N C : Nat),Num W A N m → Calls Tryd.prog 21 #[.agg #[.bool s,.slice A N C,.int .i64 x]] W fun e w' => e = .returned (.int .i64 0) ∧ Below W.heap.size W w')) (hcb : Hid (∀ (W : World) (A : Option Addr) (N C : Nat),Num W A N m' → Calls Tryd.prog 21 #[.agg #[.bool s',.slice A N C,.int .i64 x']] W fun e w' => e = .returned (.int .i64 0) ∧ Below W.heap.size W w')) (hs1 : Hid (∀ (W : World) (A : Option Addr) (N C : Nat) (A' : Option Addr) (N' C' : Nat),Num W A N m → Num W A' N' m' → Tb W → Calls Tryd.prog 15 #[.agg #[.bool s,.slice A N C,.int .i64 x],.agg #[.bool s',.slice A' N' C',.int .i64 x']] W fun e w' => (∃ A N C,e = .returned (.tuple #[.agg #[.bool q1,.slice A N C,.int .i64 y1],.int .i64 e1]) ∧ Num w' A N v1) ∧ Below W.heap.size W w')) (hs2 : Hid (∀ (W : World) (A : Option Addr) (N C : Nat) (A' : Option Addr) (N' C' : Nat),Num W A N m' → Num W A' N' m → Tb W → Calls Tryd.prog 15 #[.agg #[.bool s',.slice A N C,.int .i64 x'],.agg #[.bool s,.slice A' N' C',.int .i64 x]] W fun e w' => (∃ A N C,e = .returned (.tuple #[.agg #[.bool q1,.slice A N C,.int .i64 y1],.int .i64 e1]) ∧ Num w' A N v1) ∧ Below W.heap.size W w')) (hp1 : Hid (∀ (W : World) (A : Option Addr) (N C : Nat) (A' : Option Addr) (N' C' : Nat),Num W A N m → Num W A' N' m' → Calls Tryd.prog 44 #[.agg #[.bool s,.slice A N C,.int .i64 x],.agg #[.bool s',.slice A' N' C',.int .i64 x']] W fun e w' => (∃ A N C,e = .returned (.tuple #[.agg #[.bool q3,.slice A N C,.int .i64 y3],.int .i64 e3]) ∧ Num w' A N v3) ∧ Below W.heap.size W w')) (hp2 : Hid (∀ (W : World) (A : Option Addr) (N C : Nat) (A' : Option Addr) (N' C' : Nat),Num W A N m' → Num W A' N' m → Calls Tryd.prog 44 #[.agg #[.bool s',.slice A N C,.int .i64 x'],.agg #[.bool s,.slice A' N' C',.int .i64 x]] W fun e w' => (∃ A N C,e = .returned (.tuple #[.agg #[.bool q3,.slice A N C,.int .i64 y3],.int .i64 e3]) ∧ Num w' A N v3) ∧ Below W.heap.size W w')) (hn1 : Hid (∀ (W : World) (A : Option Addr) (N C : Nat),Num W A N m → Calls Tryd.prog 30 #[.agg #[.bool s,.slice A N C,.int .i64 x]] W fun e w' => (∃ A N C,e = .returned (.tuple #[.agg #[.bool n1,.slice A N C,.int .i64 x],.int .i64 0]) ∧ Num w' A N m) ∧ Below W.heap.size W w')) (hn2 : Hid (∀ (W : World) (A : Option Addr) (N C : Nat),Num W A N m' → Calls Tryd.prog 30 #[.agg #[.bool s',.slice A N C,.int .i64 x']] W fun e w' => (∃ A N C,e = .returned (.tuple #[.agg #[.bool n2,.slice A N C,.int .i64 x'],.int .i64 0]) ∧ Num w' A N m') ∧ Below W.heap.size W w')) (hz : Hid (∀ (W : World) (A : Option Addr) (N C : Nat) (A' : Option Addr) (N' C' : Nat),Num W A N m → Num W A' N' m → Tb W → Calls Tryd.prog 15 #[.agg #[.bool s,.slice A N C,.int .i64 x],.agg #[.bool n1,.slice A' N' C',.int .i64 x]] W fun e w' => (∃ A N C,e = .returned (.tuple #[.agg #[.bool false,.slice A N C,.int .i64 0],.int .i64 0]) ∧ Num w' A N 0) ∧ Below W.heap.size W w')) (hd : Hid (∀ (W : World) (A : Option Addr) (N C : Nat) (A' : Option Addr) (N' C' : Nat),Num W A N m → Num W A' N' m' → Tb W → Calls Tryd.prog 15 #[.agg #[.bool s,.slice A N C,.int .i64 x],.agg #[.bool n2,.slice A' N' C',.int .i64 x']] W fun e w' => (∃ A N C,e = .returned (.tuple #[.agg #[.bool false,.slice A N C,.int .i64 0],.int .i64 4]) ∧ Num w' A N 0) ∧ Below W.heap.size W w')) (hc : Hid (∀ (W : World) (A : Option Addr) (N C : Nat) (A' : Option Addr) (N' C' : Nat),Num W A N m → Num W A' N' m' → Calls Tryd.prog 17 #[.agg #[.bool s,.slice A N C,.int .i64 x],.agg #[.bool s',.slice A' N' C',.int .i64 x']] W fun e w' => e = .returned (.tuple #[.int .i64 c,.int .i64 0]) ∧ Below W.heap.size W w')) :
  Calls Tryd.prog 9 #[.agg #[.bool s,.slice a n cap,.int .i64 x],.agg #[.bool s',.slice a' n' cap',.int .i64 x']] w fun e w' => e = .returned (.bool true) ∧ Below w.heap.size w w' := by
 have HT := hide hT
 have H := hide h
 have H' := hide h'
 clear hT h h'
 go_enter Tryd.func9,Tryd.ntmps9
 go_wp2_with fail
 refine (alive_any _ (((unhide HT).alloc _).alloc _)).mono ?_
 rintro e w1 ⟨rfl,hb1⟩
 have hS := (Fs.two w _ _ _ _).kept hb1
 obtain ⟨⟨z1_0_0,z1_0_1,z1_0_2,-⟩,⟨z1_1_0,z1_1_1,z1_1_2,-⟩,-⟩ := hS.cells
 replace H := hide ((unhide H).kept hS.fr)
 replace H' := hide ((unhide H').kept hS.fr)
 go_wp2_with fail
 refine (unhide hca _ a n cap (unhide H)).mono ?_
 rintro e w2 ⟨rfl,hb2⟩
 replace hS := hS.kept hb2
 clear z1_0_0 z1_0_1 z1_0_2 z1_1_0 z1_1_1 z1_1_2
 obtain ⟨⟨z2_0_0,z2_0_1,z2_0_2,-⟩,⟨z2_1_0,z2_1_1,z2_1_2,-⟩,-⟩ := hS.cells
 replace H := hide ((unhide H).kept hb2)
 replace H' := hide ((unhide H').kept hb2)
 go_wp2_with fail
 refine (unhide hcb _ a' n' cap' (unhide H')).mono ?_
 rintro e w3 ⟨rfl,hb3⟩
 replace hS := hS.kept hb3
 clear z2_0_0 z2_0_1 z2_0_2 z2_1_0 z2_1_1 z2_1_2
 obtain ⟨⟨z3_0_0,z3_0_1,z3_0_2,-⟩,⟨z3_1_0,z3_1_1,z3_1_2,-⟩,-⟩ := hS.cells
 replace H := hide ((unhide H).kept hb3)
 replace H' := hide ((unhide H').kept hb3)
 go_wp2_with fail
 refine (unhide hs1 _ a n cap a' n' cap' (unhide H) (unhide H') ((unhide HT).kept hS.fr)).mono ?_
 rintro e w4 ⟨⟨A1,N1,C1,rfl,f1⟩,hb4⟩
 replace hS := hS.kept hb4
 clear z3_0_0 z3_0_1 z3_0_2 z3_1_0 z3_1_1 z3_1_2
 obtain ⟨⟨z4_0_0,z4_0_1,z4_0_2,-⟩,⟨z4_1_0,z4_1_1,z4_1_2,-⟩,-⟩ := hS.cells
 replace H := hide ((unhide H).kept hb4)
 replace H' := hide ((unhide H').kept hb4)
 have G1 := hide f1
 clear f1
 have hltw4_0 : w.heap.size < w4.heap.size := block_lt (hS.bx ⟨w.heap.size,#[.bool s,.slice a n cap,.int .i64 x],26⟩ (by simp))
 have hltw4_1 : w.heap.size + 1 < w4.heap.size := block_lt (hS.bx ⟨w.heap.size + 1,#[.bool s',.slice a' n' cap',.int .i64 x'],26⟩ (by simp))
 replace hS := hS.alloc #[.bool q1,.slice A1 N1 C1,.int .i64 y1] 26
 replace H := hide ((unhide H).alloc (.cells #[.bool q1,.slice A1 N1 C1,.int .i64 y1] 26))
 replace H' := hide ((unhide H').alloc (.cells #[.bool q1,.slice A1 N1 C1,.int .i64 y1] 26))
 replace G1 := hide ((unhide G1).alloc (.cells #[.bool q1,.slice A1 N1 C1,.int .i64 y1] 26))
 go_wp2_with fail
 refine (unhide hs2 _ a' n' cap' a n cap (unhide H') (unhide H) ((unhide HT).kept hS.fr)).mono ?_
 rintro e w5 ⟨⟨A2,N2,C2,rfl,f2⟩,hb5⟩
 replace hS := hS.kept hb5
 clear z4_0_0 z4_0_1 z4_0_2 z4_1_0 z4_1_1 z4_1_2
 obtain ⟨⟨z5_0_0,z5_0_1,z5_0_2,-⟩,⟨z5_1_0,z5_1_1,z5_1_2,-⟩,⟨z5_2_0,z5_2_1,z5_2_2,-⟩,-⟩ := hS.cells
 replace H := hide ((unhide H).kept hb5)
 replace H' := hide ((unhide H').kept hb5)
 replace G1 := hide ((unhide G1).kept hb5)
 have G2 := hide f2
 clear f2
 have hltw5_0 : w4.heap.size < w5.heap.size := block_lt (hS.bx ⟨w4.heap.size,#[.bool q1,.slice A1 N1 C1,.int .i64 y1],26⟩ (by simp))
 have hltw5_1 : w.heap.size < w5.heap.size := block_lt (hS.bx ⟨w.heap.size,#[.bool s,.slice a n cap,.int .i64 x],26⟩ (by simp))
 have hltw5_2 : w.heap.size + 1 < w5.heap.size := block_lt (hS.bx ⟨w.heap.size + 1,#[.bool s',.slice a' n' cap',.int .i64 x'],26⟩ (by simp))
 replace hS := hS.alloc #[.bool q1,.slice A2 N2 C2,.int .i64 y1] 26
 replace H := hide ((unhide H).alloc (.cells #[.bool q1,.slice A2 N2 C2,.int .i64 y1] 26))
 replace H' := hide ((unhide H').alloc (.cells #[.bool q1,.slice A2 N2 C2,.int .i64 y1] 26))
 replace G1 := hide ((unhide G1).alloc (.cells #[.bool q1,.slice A2 N2 C2,.int .i64 y1] 26))
 replace G2 := hide ((unhide G2).alloc (.cells #[.bool q1,.slice A2 N2 C2,.int .i64 y1] 26))
 go_wp2_with fail
 refine (unhide hp1 _ a n cap a' n' cap' (unhide H) (unhide H')).mono ?_
 rintro e w6 ⟨⟨A3,N3,C3,rfl,f3⟩,hb6⟩
 replace hS := hS.kept hb6
 clear z5_0_0 z5_0_1 z5_0_2 z5_1_0 z5_1_1 z5_1_2 z5_2_0 z5_2_1 z5_2_2
 obtain ⟨⟨z6_0_0,z6_0_1,z6_0_2,-⟩,⟨z6_1_0,z6_1_1,z6_1_2,-⟩,⟨z6_2_0,z6_2_1,z6_2_2,-⟩,⟨z6_3_0,z6_3_1,z6_3_2,-⟩,-⟩ := hS.cells
 replace H := hide ((unhide H).kept hb6)
 replace H' := hide ((unhide H').kept hb6)
 replace G1 := hide ((unhide G1).kept hb6)
 replace G2 := hide ((unhide G2).kept hb6)
 have G3 := hide f3
 clear f3
 have hltw6_0 : w5.heap.size < w6.heap.size := block_lt (hS.bx ⟨w5.heap.size,#[.bool q1,.slice A2 N2 C2,.int .i64 y1],26⟩ (by simp))
 have hltw6_1 : w4.heap.size < w6.heap.size := block_lt (hS.bx ⟨w4.heap.size,#[.bool q1,.slice A1 N1 C1,.int .i64 y1],26⟩ (by simp))
 have hltw6_2 : w.heap.size < w6.heap.size := block_lt (hS.bx ⟨w.heap.size,#[.bool s,.slice a n cap,.int .i64 x],26⟩ (by simp))
 have hltw6_3 : w.heap.size + 1 < w6.heap.size := block_lt (hS.bx ⟨w.heap.size + 1,#[.bool s',.slice a' n' cap',.int .i64 x'],26⟩ (by simp))
 replace hS := hS.alloc #[.bool q3,.slice A3 N3 C3,.int .i64 y3] 26
 replace H := hide ((unhide H).alloc (.cells #[.bool q3,.slice A3 N3 C3,.int .i64 y3] 26))
 replace H' := hide ((unhide H').alloc (.cells #[.bool q3,.slice A3 N3 C3,.int .i64 y3] 26))
 replace G1 := hide ((unhide G1).alloc (.cells #[.bool q3,.slice A3 N3 C3,.int .i64 y3] 26))
 replace G2 := hide ((unhide G2).alloc (.cells #[.bool q3,.slice A3 N3 C3,.int .i64 y3] 26))
 replace G3 := hide ((unhide G3).alloc (.cells #[.bool q3,.slice A3 N3 C3,.int .i64 y3] 26))
 go_wp2_with fail
 refine (unhide hp2 _ a' n' cap' a n cap (unhide H') (unhide H)).mono ?_
 rintro e w7 ⟨⟨A4,N4,C4,rfl,f4⟩,hb7⟩
 replace hS := hS.kept hb7
 clear z6_0_0 z6_0_1 z6_0_2 z6_1_0 z6_1_1 z6_1_2 z6_2_0 z6_2_1 z6_2_2 z6_3_0 z6_3_1 z6_3_2
 obtain ⟨⟨z7_0_0,z7_0_1,z7_0_2,-⟩,⟨z7_1_0,z7_1_1,z7_1_2,-⟩,⟨z7_2_0,z7_2_1,z7_2_2,-⟩,⟨z7_3_0,z7_3_1,z7_3_2,-⟩,⟨z7_4_0,z7_4_1,z7_4_2,-⟩,-⟩ := hS.cells
 replace H := hide ((unhide H).kept hb7)
 replace H' := hide ((unhide H').kept hb7)
 replace G1 := hide ((unhide G1).kept hb7)
 replace G2 := hide ((unhide G2).kept hb7)
 replace G3 := hide ((unhide G3).kept hb7)
 have G4 := hide f4
 clear f4
 have hltw7_0 : w6.heap.size < w7.heap.size := block_lt (hS.bx ⟨w6.heap.size,#[.bool q3,.slice A3 N3 C3,.int .i64 y3],26⟩ (by simp))
 have hltw7_1 : w5.heap.size < w7.heap.size := block_lt (hS.bx ⟨w5.heap.size,#[.bool q1,.slice A2 N2 C2,.int .i64 y1],26⟩ (by simp))
 have hltw7_2 : w4.heap.size < w7.heap.size := block_lt (hS.bx ⟨w4.heap.size,#[.bool q1,.slice A1 N1 C1,.int .i64 y1],26⟩ (by simp))
 have hltw7_3 : w.heap.size < w7.heap.size := block_lt (hS.bx ⟨w.heap.size,#[.bool s,.slice a n cap,.int .i64 x],26⟩ (by simp))
 have hltw7_4 : w.heap.size + 1 < w7.heap.size := block_lt (hS.bx ⟨w.heap.size + 1,#[.bool s',.slice a' n' cap',.int .i64 x'],26⟩ (by simp))
 replace hS := hS.alloc #[.bool q3,.slice A4 N4 C4,.int .i64 y3] 26
 replace H := hide ((unhide H).alloc (.cells #[.bool q3,.slice A4 N4 C4,.int .i64 y3] 26))
 replace H' := hide ((unhide H').alloc (.cells #[.bool q3,.slice A4 N4 C4,.int .i64 y3] 26))
 replace G1 := hide ((unhide G1).alloc (.cells #[.bool q3,.slice A4 N4 C4,.int .i64 y3] 26))
 replace G2 := hide ((unhide G2).alloc (.cells #[.bool q3,.slice A4 N4 C4,.int .i64 y3] 26))
 replace G3 := hide ((unhide G3).alloc (.cells #[.bool q3,.slice A4 N4 C4,.int .i64 y3] 26))
 replace G4 := hide ((unhide G4).alloc (.cells #[.bool q3,.slice A4 N4 C4,.int .i64 y3] 26))
 go_wp2_with fail
 refine (unhide hn1 _ a n cap (unhide H)).mono ?_
 rintro e w8 ⟨⟨A5,N5,C5,rfl,f5⟩,hb8⟩
 replace hS := hS.kept hb8
 clear z7_0_0 z7_0_1 z7_0_2 z7_1_0 z7_1_1 z7_1_2 z7_2_0 z7_2_1 z7_2_2 z7_3_0 z7_3_1 z7_3_2 z7_4_0 z7_4_1 z7_4_2
 obtain ⟨⟨z8_0_0,z8_0_1,z8_0_2,-⟩,⟨z8_1_0,z8_1_1,z8_1_2,-⟩,⟨z8_2_0,z8_2_1,z8_2_2,-⟩,⟨z8_3_0,z8_3_1,z8_3_2,-⟩,⟨z8_4_0,z8_4_1,z8_4_2,-⟩,⟨z8_5_0,z8_5_1,z8_5_2,-⟩,-⟩ := hS.cells
 replace H := hide ((unhide H).kept hb8)
 replace H' := hide ((unhide H').kept hb8)
 replace G1 := hide ((unhide G1).kept hb8)
 replace G2 := hide ((unhide G2).kept hb8)
 replace G3 := hide ((unhide G3).kept hb8)
 replace G4 := hide ((unhide G4).kept hb8)
 have G5 := hide f5
 clear f5
 have hltw8_0 : w7.heap.size < w8.heap.size := block_lt (hS.bx ⟨w7.heap.size,#[.bool q3,.slice A4 N4 C4,.int .i64 y3],26⟩ (by simp))
 have hltw8_1 : w6.heap.size < w8.heap.size := block_lt (hS.bx ⟨w6.heap.size,#[.bool q3,.slice A3 N3 C3,.int .i64 y3],26⟩ (by simp))
 have hltw8_2 : w5.heap.size < w8.heap.size := block_lt (hS.bx ⟨w5.heap.size,#[.bool q1,.slice A2 N2 C2,.int .i64 y1],26⟩ (by simp))
 have hltw8_3 : w4.heap.size < w8.heap.size := block_lt (hS.bx ⟨w4.heap.size,#[.bool q1,.slice A1 N1 C1,.int .i64 y1],26⟩ (by simp))
 have hltw8_4 : w.heap.size < w8.heap.size := block_lt (hS.bx ⟨w.heap.size,#[.bool s,.slice a n cap,.int .i64 x],26⟩ (by simp))
 have hltw8_5 : w.heap.size + 1 < w8.heap.size := block_lt (hS.bx ⟨w.heap.size + 1,#[.bool s',.slice a' n' cap',.int .i64 x'],26⟩ (by simp))
 replace hS := hS.alloc #[.bool n1,.slice A5 N5 C5,.int .i64 x] 26
 replace H := hide ((unhide H).alloc (.cells #[.bool n1,.slice A5 N5 C5,.int .i64 x] 26))
 replace H' := hide ((unhide H').alloc (.cells #[.bool n1,.slice A5 N5 C5,.int .i64 x] 26))
 replace G1 := hide ((unhide G1).alloc (.cells #[.bool n1,.slice A5 N5 C5,.int .i64 x] 26))
 replace G2 := hide ((unhide G2).alloc (.cells #[.bool n1,.slice A5 N5 C5,.int .i64 x] 26))
 replace G3 := hide ((unhide G3).alloc (.cells #[.bool n1,.slice A5 N5 C5,.int .i64 x] 26))
 replace G4 := hide ((unhide G4).alloc (.cells #[.bool n1,.slice A5 N5 C5,.int .i64 x] 26))
 replace G5 := hide ((unhide G5).alloc (.cells #[.bool n1,.slice A5 N5 C5,.int .i64 x] 26))
 go_wp2_with fail
 refine (unhide hn2 _ a' n' cap' (unhide H')).mono ?_
 rintro e w9 ⟨⟨A6,N6,C6,rfl,f6⟩,hb9⟩
 replace hS := hS.kept hb9
 clear z8_0_0 z8_0_1 z8_0_2 z8_1_0 z8_1_1 z8_1_2 z8_2_0 z8_2_1 z8_2_2 z8_3_0 z8_3_1 z8_3_2 z8_4_0 z8_4_1 z8_4_2 z8_5_0 z8_5_1 z8_5_2
 obtain ⟨⟨z9_0_0,z9_0_1,z9_0_2,-⟩,⟨z9_1_0,z9_1_1,z9_1_2,-⟩,⟨z9_2_0,z9_2_1,z9_2_2,-⟩,⟨z9_3_0,z9_3_1,z9_3_2,-⟩,⟨z9_4_0,z9_4_1,z9_4_2,-⟩,⟨z9_5_0,z9_5_1,z9_5_2,-⟩,⟨z9_6_0,z9_6_1,z9_6_2,-⟩,-⟩ := hS.cells
 replace H := hide ((unhide H).kept hb9)
 replace H' := hide ((unhide H').kept hb9)
 replace G1 := hide ((unhide G1).kept hb9)
 replace G2 := hide ((unhide G2).kept hb9)
 replace G3 := hide ((unhide G3).kept hb9)
 replace G4 := hide ((unhide G4).kept hb9)
 replace G5 := hide ((unhide G5).kept hb9)
 have G6 := hide f6
 clear f6
 have hltw9_0 : w8.heap.size < w9.heap.size := block_lt (hS.bx ⟨w8.heap.size,#[.bool n1,.slice A5 N5 C5,.int .i64 x],26⟩ (by simp))
 have hltw9_1 : w7.heap.size < w9.heap.size := block_lt (hS.bx ⟨w7.heap.size,#[.bool q3,.slice A4 N4 C4,.int .i64 y3],26⟩ (by simp))
 have hltw9_2 : w6.heap.size < w9.heap.size := block_lt (hS.bx ⟨w6.heap.size,#[.bool q3,.slice A3 N3 C3,.int .i64 y3],26⟩ (by simp))
 have hltw9_3 : w5.heap.size < w9.heap.size := block_lt (hS.bx ⟨w5.heap.size,#[.bool q1,.slice A2 N2 C2,.int .i64 y1],26⟩ (by simp))
 have hltw9_4 : w4.heap.size < w9.heap.size := block_lt (hS.bx ⟨w4.heap.size,#[.bool q1,.slice A1 N1 C1,.int .i64 y1],26⟩ (by simp))
 have hltw9_5 : w.heap.size < w9.heap.size := block_lt (hS.bx ⟨w.heap.size,#[.bool s,.slice a n cap,.int .i64 x],26⟩ (by simp))
 have hltw9_6 : w.heap.size + 1 < w9.heap.size := block_lt (hS.bx ⟨w.heap.size + 1,#[.bool s',.slice a' n' cap',.int .i64 x'],26⟩ (by simp))
 replace hS := hS.alloc #[.bool n2,.slice A6 N6 C6,.int .i64 x'] 26
 replace H := hide ((unhide H).alloc (.cells #[.bool n2,.slice A6 N6 C6,.int .i64 x'] 26))
 replace H' := hide ((unhide H').alloc (.cells #[.bool n2,.slice A6 N6 C6,.int .i64 x'] 26))
 replace G1 := hide ((unhide G1).alloc (.cells #[.bool n2,.slice A6 N6 C6,.int .i64 x'] 26))
 replace G2 := hide ((unhide G2).alloc (.cells #[.bool n2,.slice A6 N6 C6,.int .i64 x'] 26))
 replace G3 := hide ((unhide G3).alloc (.cells #[.bool n2,.slice A6 N6 C6,.int .i64 x'] 26))
 replace G4 := hide ((unhide G4).alloc (.cells #[.bool n2,.slice A6 N6 C6,.int .i64 x'] 26))
 replace G5 := hide ((unhide G5).alloc (.cells #[.bool n2,.slice A6 N6 C6,.int .i64 x'] 26))
 replace G6 := hide ((unhide G6).alloc (.cells #[.bool n2,.slice A6 N6 C6,.int .i64 x'] 26))
 go_wp2_with fail
 refine (unhide hz _ a n cap A5 N5 C5 (unhide H) (unhide G5) ((unhide HT).kept hS.fr)).mono ?_
 rintro e w10 ⟨⟨A7,N7,C7,rfl,f7⟩,hb10⟩
 replace hS := hS.kept hb10
 clear z9_0_0 z9_0_1 z9_0_2 z9_1_0 z9_1_1 z9_1_2 z9_2_0 z9_2_1 z9_2_2 z9_3_0 z9_3_1 z9_3_2 z9_4_0 z9_4_1 z9_4_2 z9_5_0 z9_5_1 z9_5_2 z9_6_0 z9_6_1 z9_6_2
 obtain ⟨⟨z10_0_0,z10_0_1,z10_0_2,-⟩,⟨z10_1_0,z10_1_1,z10_1_2,-⟩,⟨z10_2_0,z10_2_1,z10_2_2,-⟩,⟨z10_3_0,z10_3_1,z10_3_2,-⟩,⟨z10_4_0,z10_4_1,z10_4_2,-⟩,⟨z10_5_0,z10_5_1,z10_5_2,-⟩,⟨z10_6_0,z10_6_1,z10_6_2,-⟩,⟨z10_7_0,z10_7_1,z10_7_2,-⟩,-⟩ := hS.cells
 replace H := hide ((unhide H).kept hb10)
 replace H' := hide ((unhide H').kept hb10)
 replace G1 := hide ((unhide G1).kept hb10)
 replace G2 := hide ((unhide G2).kept hb10)
 replace G3 := hide ((unhide G3).kept hb10)
 replace G4 := hide ((unhide G4).kept hb10)
 replace G5 := hide ((unhide G5).kept hb10)
 replace G6 := hide ((unhide G6).kept hb10)
 have G7 := hide f7
 clear f7
 obtain rfl := (unhide G7).zero.2 rfl
 clear G7
 have hltw10_0 : w9.heap.size < w10.heap.size := block_lt (hS.bx ⟨w9.heap.size,#[.bool n2,.slice A6 N6 C6,.int .i64 x'],26⟩ (by simp))
 have hltw10_1 : w8.heap.size < w10.heap.size := block_lt (hS.bx ⟨w8.heap.size,#[.bool n1,.slice A5 N5 C5,.int .i64 x],26⟩ (by simp))
 have hltw10_2 : w7.heap.size < w10.heap.size := block_lt (hS.bx ⟨w7.heap.size,#[.bool q3,.slice A4 N4 C4,.int .i64 y3],26⟩ (by simp))
 have hltw10_3 : w6.heap.size < w10.heap.size := block_lt (hS.bx ⟨w6.heap.size,#[.bool q3,.slice A3 N3 C3,.int .i64 y3],26⟩ (by simp))
 have hltw10_4 : w5.heap.size < w10.heap.size := block_lt (hS.bx ⟨w5.heap.size,#[.bool q1,.slice A2 N2 C2,.int .i64 y1],26⟩ (by simp))
 have hltw10_5 : w4.heap.size < w10.heap.size := block_lt (hS.bx ⟨w4.heap.size,#[.bool q1,.slice A1 N1 C1,.int .i64 y1],26⟩ (by simp))
 have hltw10_6 : w.heap.size < w10.heap.size := block_lt (hS.bx ⟨w.heap.size,#[.bool s,.slice a n cap,.int .i64 x],26⟩ (by simp))
 have hltw10_7 : w.heap.size + 1 < w10.heap.size := block_lt (hS.bx ⟨w.heap.size + 1,#[.bool s',.slice a' n' cap',.int .i64 x'],26⟩ (by simp))
 replace hS := hS.alloc #[.bool false,.slice A7 0 C7,.int .i64 0] 26
 replace H := hide ((unhide H).alloc (.cells #[.bool false,.slice A7 0 C7,.int .i64 0] 26))
 replace H' := hide ((unhide H').alloc (.cells #[.bool false,.slice A7 0 C7,.int .i64 0] 26))
 replace G1 := hide ((unhide G1).alloc (.cells #[.bool false,.slice A7 0 C7,.int .i64 0] 26))
 replace G2 := hide ((unhide G2).alloc (.cells #[.bool false,.slice A7 0 C7,.int .i64 0] 26))
 replace G3 := hide ((unhide G3).alloc (.cells #[.bool false,.slice A7 0 C7,.int .i64 0] 26))
 replace G4 := hide ((unhide G4).alloc (.cells #[.bool false,.slice A7 0 C7,.int .i64 0] 26))
 replace G5 := hide ((unhide G5).alloc (.cells #[.bool false,.slice A7 0 C7,.int .i64 0] 26))
 replace G6 := hide ((unhide G6).alloc (.cells #[.bool false,.slice A7 0 C7,.int .i64 0] 26))
 go_wp2_with fail
 refine (unhide hd _ a n cap A6 N6 C6 (unhide H) (unhide G6) ((unhide HT).kept hS.fr)).mono ?_
 rintro e w11 ⟨⟨A8,N8,C8,rfl,f8⟩,hb11⟩
 replace hS := hS.kept hb11
 clear z10_0_0 z10_0_1 z10_0_2 z10_1_0 z10_1_1 z10_1_2 z10_2_0 z10_2_1 z10_2_2 z10_3_0 z10_3_1 z10_3_2 z10_4_0 z10_4_1 z10_4_2 z10_5_0 z10_5_1 z10_5_2 z10_6_0 z10_6_1 z10_6_2 z10_7_0 z10_7_1 z10_7_2
 obtain ⟨⟨z11_0_0,z11_0_1,z11_0_2,-⟩,⟨z11_1_0,z11_1_1,z11_1_2,-⟩,⟨z11_2_0,z11_2_1,z11_2_2,-⟩,⟨z11_3_0,z11_3_1,z11_3_2,-⟩,⟨z11_4_0,z11_4_1,z11_4_2,-⟩,⟨z11_5_0,z11_5_1,z11_5_2,-⟩,⟨z11_6_0,z11_6_1,z11_6_2,-⟩,⟨z11_7_0,z11_7_1,z11_7_2,-⟩,⟨z11_8_0,z11_8_1,z11_8_2,-⟩,-⟩ := hS.cells
 replace H := hide ((unhide H).kept hb11)
 replace H' := hide ((unhide H').kept hb11)
 replace G1 := hide ((unhide G1).kept hb11)
 replace G2 := hide ((unhide G2).kept hb11)
 replace G3 := hide ((unhide G3).kept hb11)
 replace G4 := hide ((unhide G4).kept hb11)
 replace G5 := hide ((unhide G5).kept hb11)
 replace G6 := hide ((unhide G6).kept hb11)
 have G8 := hide f8
 clear f8
 clear G8
 have hltw11_0 : w10.heap.size < w11.heap.size := block_lt (hS.bx ⟨w10.heap.size,#[.bool false,.slice A7 0 C7,.int .i64 0],26⟩ (by simp))
 have hltw11_1 : w9.heap.size < w11.heap.size := block_lt (hS.bx ⟨w9.heap.size,#[.bool n2,.slice A6 N6 C6,.int .i64 x'],26⟩ (by simp))
 have hltw11_2 : w8.heap.size < w11.heap.size := block_lt (hS.bx ⟨w8.heap.size,#[.bool n1,.slice A5 N5 C5,.int .i64 x],26⟩ (by simp))
 have hltw11_3 : w7.heap.size < w11.heap.size := block_lt (hS.bx ⟨w7.heap.size,#[.bool q3,.slice A4 N4 C4,.int .i64 y3],26⟩ (by simp))
 have hltw11_4 : w6.heap.size < w11.heap.size := block_lt (hS.bx ⟨w6.heap.size,#[.bool q3,.slice A3 N3 C3,.int .i64 y3],26⟩ (by simp))
 have hltw11_5 : w5.heap.size < w11.heap.size := block_lt (hS.bx ⟨w5.heap.size,#[.bool q1,.slice A2 N2 C2,.int .i64 y1],26⟩ (by simp))
 have hltw11_6 : w4.heap.size < w11.heap.size := block_lt (hS.bx ⟨w4.heap.size,#[.bool q1,.slice A1 N1 C1,.int .i64 y1],26⟩ (by simp))
 have hltw11_7 : w.heap.size < w11.heap.size := block_lt (hS.bx ⟨w.heap.size,#[.bool s,.slice a n cap,.int .i64 x],26⟩ (by simp))
 have hltw11_8 : w.heap.size + 1 < w11.heap.size := block_lt (hS.bx ⟨w.heap.size + 1,#[.bool s',.slice a' n' cap',.int .i64 x'],26⟩ (by simp))
 replace hS := hS.alloc #[.bool false,.slice A8 N8 C8,.int .i64 0] 26
 replace H := hide ((unhide H).alloc (.cells #[.bool false,.slice A8 N8 C8,.int .i64 0] 26))
 replace H' := hide ((unhide H').alloc (.cells #[.bool false,.slice A8 N8 C8,.int .i64 0] 26))
 replace G1 := hide ((unhide G1).alloc (.cells #[.bool false,.slice A8 N8 C8,.int .i64 0] 26))
 replace G2 := hide ((unhide G2).alloc (.cells #[.bool false,.slice A8 N8 C8,.int .i64 0] 26))
 replace G3 := hide ((unhide G3).alloc (.cells #[.bool false,.slice A8 N8 C8,.int .i64 0] 26))
 replace G4 := hide ((unhide G4).alloc (.cells #[.bool false,.slice A8 N8 C8,.int .i64 0] 26))
 replace G5 := hide ((unhide G5).alloc (.cells #[.bool false,.slice A8 N8 C8,.int .i64 0] 26))
 replace G6 := hide ((unhide G6).alloc (.cells #[.bool false,.slice A8 N8 C8,.int .i64 0] 26))
 go_wp2_with fail
 refine (unhide hc _ a n cap a' n' cap' (unhide H) (unhide H')).mono ?_
 rintro e w12 ⟨rfl,hb12⟩
 replace hS := hS.kept hb12
 clear z11_0_0 z11_0_1 z11_0_2 z11_1_0 z11_1_1 z11_1_2 z11_2_0 z11_2_1 z11_2_2 z11_3_0 z11_3_1 z11_3_2 z11_4_0 z11_4_1 z11_4_2 z11_5_0 z11_5_1 z11_5_2 z11_6_0 z11_6_1 z11_6_2 z11_7_0 z11_7_1 z11_7_2 z11_8_0 z11_8_1 z11_8_2
 obtain ⟨⟨z12_0_0,z12_0_1,z12_0_2,-⟩,⟨z12_1_0,z12_1_1,z12_1_2,-⟩,⟨z12_2_0,z12_2_1,z12_2_2,-⟩,⟨z12_3_0,z12_3_1,z12_3_2,-⟩,⟨z12_4_0,z12_4_1,z12_4_2,-⟩,⟨z12_5_0,z12_5_1,z12_5_2,-⟩,⟨z12_6_0,z12_6_1,z12_6_2,-⟩,⟨z12_7_0,z12_7_1,z12_7_2,-⟩,⟨z12_8_0,z12_8_1,z12_8_2,-⟩,⟨z12_9_0,z12_9_1,z12_9_2,-⟩,-⟩ := hS.cells
 replace H := hide ((unhide H).kept hb12)
 replace H' := hide ((unhide H').kept hb12)
 replace G1 := hide ((unhide G1).kept hb12)
 replace G2 := hide ((unhide G2).kept hb12)
 replace G3 := hide ((unhide G3).kept hb12)
 replace G4 := hide ((unhide G4).kept hb12)
 replace G5 := hide ((unhide G5).kept hb12)
 replace G6 := hide ((unhide G6).kept hb12)
 go_wp2_with fail
 refine (dsame_any q1 A1 N1 C1 v1 A2 N2 C2 y1 _ (unhide G1) (unhide G2)).mono ?_
 rintro e w13 ⟨rfl,hb13⟩
 replace hS := hS.kept hb13
 clear z12_0_0 z12_0_1 z12_0_2 z12_1_0 z12_1_1 z12_1_2 z12_2_0 z12_2_1 z12_2_2 z12_3_0 z12_3_1 z12_3_2 z12_4_0 z12_4_1 z12_4_2 z12_5_0 z12_5_1 z12_5_2 z12_6_0 z12_6_1 z12_6_2 z12_7_0 z12_7_1 z12_7_2 z12_8_0 z12_8_1 z12_8_2 z12_9_0 z12_9_1 z12_9_2
 obtain ⟨⟨z13_0_0,z13_0_1,z13_0_2,-⟩,⟨z13_1_0,z13_1_1,z13_1_2,-⟩,⟨z13_2_0,z13_2_1,z13_2_2,-⟩,⟨z13_3_0,z13_3_1,z13_3_2,-⟩,⟨z13_4_0,z13_4_1,z13_4_2,-⟩,⟨z13_5_0,z13_5_1,z13_5_2,-⟩,⟨z13_6_0,z13_6_1,z13_6_2,-⟩,⟨z13_7_0,z13_7_1,z13_7_2,-⟩,⟨z13_8_0,z13_8_1,z13_8_2,-⟩,⟨z13_9_0,z13_9_1,z13_9_2,-⟩,-⟩ := hS.cells
 replace H := hide ((unhide H).kept hb13)
 replace H' := hide ((unhide H').kept hb13)
 replace G1 := hide ((unhide G1).kept hb13)
 replace G2 := hide ((unhide G2).kept hb13)
 replace G3 := hide ((unhide G3).kept hb13)
 replace G4 := hide ((unhide G4).kept hb13)
 replace G5 := hide ((unhide G5).kept hb13)
 replace G6 := hide ((unhide G6).kept hb13)
 go_wp2_with fail
 refine (dsame_any q3 A3 N3 C3 v3 A4 N4 C4 y3 _ (unhide G3) (unhide G4)).mono ?_
 rintro e w14 ⟨rfl,hb14⟩
 replace hS := hS.kept hb14
 clear z13_0_0 z13_0_1 z13_0_2 z13_1_0 z13_1_1 z13_1_2 z13_2_0 z13_2_1 z13_2_2 z13_3_0 z13_3_1 z13_3_2 z13_4_0 z13_4_1 z13_4_2 z13_5_0 z13_5_1 z13_5_2 z13_6_0 z13_6_1 z13_6_2 z13_7_0 z13_7_1 z13_7_2 z13_8_0 z13_8_1 z13_8_2 z13_9_0 z13_9_1 z13_9_2
 obtain ⟨⟨z14_0_0,z14_0_1,z14_0_2,-⟩,⟨z14_1_0,z14_1_1,z14_1_2,-⟩,⟨z14_2_0,z14_2_1,z14_2_2,-⟩,⟨z14_3_0,z14_3_1,z14_3_2,-⟩,⟨z14_4_0,z14_4_1,z14_4_2,-⟩,⟨z14_5_0,z14_5_1,z14_5_2,-⟩,⟨z14_6_0,z14_6_1,z14_6_2,-⟩,⟨z14_7_0,z14_7_1,z14_7_2,-⟩,⟨z14_8_0,z14_8_1,z14_8_2,-⟩,⟨z14_9_0,z14_9_1,z14_9_2,-⟩,-⟩ := hS.cells
 replace H := hide ((unhide H).kept hb14)
 replace H' := hide ((unhide H').kept hb14)
 replace G1 := hide ((unhide G1).kept hb14)
 replace G2 := hide ((unhide G2).kept hb14)
 replace G3 := hide ((unhide G3).kept hb14)
 replace G4 := hide ((unhide G4).kept hb14)
 replace G5 := hide ((unhide G5).kept hb14)
 replace G6 := hide ((unhide G6).kept hb14)
 go_wp2
 go_ret
 exact ⟨rfl,hS.fr⟩
set_option maxRecDepth 20000 in
set_option maxHeartbeats 16000000 in
theorem ring_zt (s : Bool) (a : Option Addr) (n cap m : Nat) (x : Int) (s' : Bool) (a' : Option Addr) (n' cap' m' : Nat) (x' : Int) (e1 e3 y1 y3 y8 : Int) (q1 q3 n1 n2 : Bool) (v1 v3 : Nat) (w : World) (hT : Tb w) (h : Num w a n m) (h' : Num w a' n' m') (hca : Hid (∀ (W : World) (A : Option Addr) (N C : Nat),Num W A N m → Calls Tryd.prog 21 #[.agg #[.bool s,.slice A N C,.int .i64 x]] W fun e w' => e = .returned (.int .i64 0) ∧ Below W.heap.size W w')) (hcb : Hid (∀ (W : World) (A : Option Addr) (N C : Nat),Num W A N m' → Calls Tryd.prog 21 #[.agg #[.bool s',.slice A N C,.int .i64 x']] W fun e w' => e = .returned (.int .i64 0) ∧ Below W.heap.size W w')) (hs1 : Hid (∀ (W : World) (A : Option Addr) (N C : Nat) (A' : Option Addr) (N' C' : Nat),Num W A N m → Num W A' N' m' → Tb W → Calls Tryd.prog 15 #[.agg #[.bool s,.slice A N C,.int .i64 x],.agg #[.bool s',.slice A' N' C',.int .i64 x']] W fun e w' => (∃ A N C,e = .returned (.tuple #[.agg #[.bool q1,.slice A N C,.int .i64 y1],.int .i64 e1]) ∧ Num w' A N v1) ∧ Below W.heap.size W w')) (hs2 : Hid (∀ (W : World) (A : Option Addr) (N C : Nat) (A' : Option Addr) (N' C' : Nat),Num W A N m' → Num W A' N' m → Tb W → Calls Tryd.prog 15 #[.agg #[.bool s',.slice A N C,.int .i64 x'],.agg #[.bool s,.slice A' N' C',.int .i64 x]] W fun e w' => (∃ A N C,e = .returned (.tuple #[.agg #[.bool q1,.slice A N C,.int .i64 y1],.int .i64 e1]) ∧ Num w' A N v1) ∧ Below W.heap.size W w')) (hp1 : Hid (∀ (W : World) (A : Option Addr) (N C : Nat) (A' : Option Addr) (N' C' : Nat),Num W A N m → Num W A' N' m' → Calls Tryd.prog 44 #[.agg #[.bool s,.slice A N C,.int .i64 x],.agg #[.bool s',.slice A' N' C',.int .i64 x']] W fun e w' => (∃ A N C,e = .returned (.tuple #[.agg #[.bool q3,.slice A N C,.int .i64 y3],.int .i64 e3]) ∧ Num w' A N v3) ∧ Below W.heap.size W w')) (hp2 : Hid (∀ (W : World) (A : Option Addr) (N C : Nat) (A' : Option Addr) (N' C' : Nat),Num W A N m' → Num W A' N' m → Calls Tryd.prog 44 #[.agg #[.bool s',.slice A N C,.int .i64 x'],.agg #[.bool s,.slice A' N' C',.int .i64 x]] W fun e w' => (∃ A N C,e = .returned (.tuple #[.agg #[.bool q3,.slice A N C,.int .i64 y3],.int .i64 e3]) ∧ Num w' A N v3) ∧ Below W.heap.size W w')) (hn1 : Hid (∀ (W : World) (A : Option Addr) (N C : Nat),Num W A N m → Calls Tryd.prog 30 #[.agg #[.bool s,.slice A N C,.int .i64 x]] W fun e w' => (∃ A N C,e = .returned (.tuple #[.agg #[.bool n1,.slice A N C,.int .i64 x],.int .i64 0]) ∧ Num w' A N m) ∧ Below W.heap.size W w')) (hn2 : Hid (∀ (W : World) (A : Option Addr) (N C : Nat),Num W A N m' → Calls Tryd.prog 30 #[.agg #[.bool s',.slice A N C,.int .i64 x']] W fun e w' => (∃ A N C,e = .returned (.tuple #[.agg #[.bool n2,.slice A N C,.int .i64 x'],.int .i64 0]) ∧ Num w' A N m') ∧ Below W.heap.size W w')) (hz : Hid (∀ (W : World) (A : Option Addr) (N C : Nat) (A' : Option Addr) (N' C' : Nat),Num W A N m → Num W A' N' m → Tb W → Calls Tryd.prog 15 #[.agg #[.bool s,.slice A N C,.int .i64 x],.agg #[.bool n1,.slice A' N' C',.int .i64 x]] W fun e w' => (∃ A N C,e = .returned (.tuple #[.agg #[.bool false,.slice A N C,.int .i64 0],.int .i64 0]) ∧ Num w' A N 0) ∧ Below W.heap.size W w')) (hd : Hid (∀ (W : World) (A : Option Addr) (N C : Nat) (A' : Option Addr) (N' C' : Nat),Num W A N m → Num W A' N' m' → Tb W → Calls Tryd.prog 15 #[.agg #[.bool s,.slice A N C,.int .i64 x],.agg #[.bool n2,.slice A' N' C',.int .i64 x']] W fun e w' => (∃ A N C,e = .returned (.tuple #[.agg #[.bool true,.slice A N C,.int .i64 y8],.int .i64 0]) ∧ Num w' A N 0) ∧ Below W.heap.size W w')) (hc : Hid (∀ (W : World) (A : Option Addr) (N C : Nat) (A' : Option Addr) (N' C' : Nat),Num W A N m → Num W A' N' m' → Calls Tryd.prog 17 #[.agg #[.bool s,.slice A N C,.int .i64 x],.agg #[.bool s',.slice A' N' C',.int .i64 x']] W fun e w' => e = .returned (.tuple #[.int .i64 0,.int .i64 0]) ∧ Below W.heap.size W w')) :
  Calls Tryd.prog 9 #[.agg #[.bool s,.slice a n cap,.int .i64 x],.agg #[.bool s',.slice a' n' cap',.int .i64 x']] w fun e w' => e = .returned (.bool true) ∧ Below w.heap.size w w' := by
 have HT := hide hT
 have H := hide h
 have H' := hide h'
 clear hT h h'
 go_enter Tryd.func9,Tryd.ntmps9
 go_wp2_with fail
 refine (alive_any _ (((unhide HT).alloc _).alloc _)).mono ?_
 rintro e w1 ⟨rfl,hb1⟩
 have hS := (Fs.two w _ _ _ _).kept hb1
 obtain ⟨⟨z1_0_0,z1_0_1,z1_0_2,-⟩,⟨z1_1_0,z1_1_1,z1_1_2,-⟩,-⟩ := hS.cells
 replace H := hide ((unhide H).kept hS.fr)
 replace H' := hide ((unhide H').kept hS.fr)
 go_wp2_with fail
 refine (unhide hca _ a n cap (unhide H)).mono ?_
 rintro e w2 ⟨rfl,hb2⟩
 replace hS := hS.kept hb2
 clear z1_0_0 z1_0_1 z1_0_2 z1_1_0 z1_1_1 z1_1_2
 obtain ⟨⟨z2_0_0,z2_0_1,z2_0_2,-⟩,⟨z2_1_0,z2_1_1,z2_1_2,-⟩,-⟩ := hS.cells
 replace H := hide ((unhide H).kept hb2)
 replace H' := hide ((unhide H').kept hb2)
 go_wp2_with fail
 refine (unhide hcb _ a' n' cap' (unhide H')).mono ?_
 rintro e w3 ⟨rfl,hb3⟩
 replace hS := hS.kept hb3
 clear z2_0_0 z2_0_1 z2_0_2 z2_1_0 z2_1_1 z2_1_2
 obtain ⟨⟨z3_0_0,z3_0_1,z3_0_2,-⟩,⟨z3_1_0,z3_1_1,z3_1_2,-⟩,-⟩ := hS.cells
 replace H := hide ((unhide H).kept hb3)
 replace H' := hide ((unhide H').kept hb3)
 go_wp2_with fail
 refine (unhide hs1 _ a n cap a' n' cap' (unhide H) (unhide H') ((unhide HT).kept hS.fr)).mono ?_
 rintro e w4 ⟨⟨A1,N1,C1,rfl,f1⟩,hb4⟩
 replace hS := hS.kept hb4
 clear z3_0_0 z3_0_1 z3_0_2 z3_1_0 z3_1_1 z3_1_2
 obtain ⟨⟨z4_0_0,z4_0_1,z4_0_2,-⟩,⟨z4_1_0,z4_1_1,z4_1_2,-⟩,-⟩ := hS.cells
 replace H := hide ((unhide H).kept hb4)
 replace H' := hide ((unhide H').kept hb4)
 have G1 := hide f1
 clear f1
 have hltw4_0 : w.heap.size < w4.heap.size := block_lt (hS.bx ⟨w.heap.size,#[.bool s,.slice a n cap,.int .i64 x],26⟩ (by simp))
 have hltw4_1 : w.heap.size + 1 < w4.heap.size := block_lt (hS.bx ⟨w.heap.size + 1,#[.bool s',.slice a' n' cap',.int .i64 x'],26⟩ (by simp))
 replace hS := hS.alloc #[.bool q1,.slice A1 N1 C1,.int .i64 y1] 26
 replace H := hide ((unhide H).alloc (.cells #[.bool q1,.slice A1 N1 C1,.int .i64 y1] 26))
 replace H' := hide ((unhide H').alloc (.cells #[.bool q1,.slice A1 N1 C1,.int .i64 y1] 26))
 replace G1 := hide ((unhide G1).alloc (.cells #[.bool q1,.slice A1 N1 C1,.int .i64 y1] 26))
 go_wp2_with fail
 refine (unhide hs2 _ a' n' cap' a n cap (unhide H') (unhide H) ((unhide HT).kept hS.fr)).mono ?_
 rintro e w5 ⟨⟨A2,N2,C2,rfl,f2⟩,hb5⟩
 replace hS := hS.kept hb5
 clear z4_0_0 z4_0_1 z4_0_2 z4_1_0 z4_1_1 z4_1_2
 obtain ⟨⟨z5_0_0,z5_0_1,z5_0_2,-⟩,⟨z5_1_0,z5_1_1,z5_1_2,-⟩,⟨z5_2_0,z5_2_1,z5_2_2,-⟩,-⟩ := hS.cells
 replace H := hide ((unhide H).kept hb5)
 replace H' := hide ((unhide H').kept hb5)
 replace G1 := hide ((unhide G1).kept hb5)
 have G2 := hide f2
 clear f2
 have hltw5_0 : w4.heap.size < w5.heap.size := block_lt (hS.bx ⟨w4.heap.size,#[.bool q1,.slice A1 N1 C1,.int .i64 y1],26⟩ (by simp))
 have hltw5_1 : w.heap.size < w5.heap.size := block_lt (hS.bx ⟨w.heap.size,#[.bool s,.slice a n cap,.int .i64 x],26⟩ (by simp))
 have hltw5_2 : w.heap.size + 1 < w5.heap.size := block_lt (hS.bx ⟨w.heap.size + 1,#[.bool s',.slice a' n' cap',.int .i64 x'],26⟩ (by simp))
 replace hS := hS.alloc #[.bool q1,.slice A2 N2 C2,.int .i64 y1] 26
 replace H := hide ((unhide H).alloc (.cells #[.bool q1,.slice A2 N2 C2,.int .i64 y1] 26))
 replace H' := hide ((unhide H').alloc (.cells #[.bool q1,.slice A2 N2 C2,.int .i64 y1] 26))
 replace G1 := hide ((unhide G1).alloc (.cells #[.bool q1,.slice A2 N2 C2,.int .i64 y1] 26))
 replace G2 := hide ((unhide G2).alloc (.cells #[.bool q1,.slice A2 N2 C2,.int .i64 y1] 26))
 go_wp2_with fail
 refine (unhide hp1 _ a n cap a' n' cap' (unhide H) (unhide H')).mono ?_
 rintro e w6 ⟨⟨A3,N3,C3,rfl,f3⟩,hb6⟩
 replace hS := hS.kept hb6
 clear z5_0_0 z5_0_1 z5_0_2 z5_1_0 z5_1_1 z5_1_2 z5_2_0 z5_2_1 z5_2_2
 obtain ⟨⟨z6_0_0,z6_0_1,z6_0_2,-⟩,⟨z6_1_0,z6_1_1,z6_1_2,-⟩,⟨z6_2_0,z6_2_1,z6_2_2,-⟩,⟨z6_3_0,z6_3_1,z6_3_2,-⟩,-⟩ := hS.cells
 replace H := hide ((unhide H).kept hb6)
 replace H' := hide ((unhide H').kept hb6)
 replace G1 := hide ((unhide G1).kept hb6)
 replace G2 := hide ((unhide G2).kept hb6)
 have G3 := hide f3
 clear f3
 have hltw6_0 : w5.heap.size < w6.heap.size := block_lt (hS.bx ⟨w5.heap.size,#[.bool q1,.slice A2 N2 C2,.int .i64 y1],26⟩ (by simp))
 have hltw6_1 : w4.heap.size < w6.heap.size := block_lt (hS.bx ⟨w4.heap.size,#[.bool q1,.slice A1 N1 C1,.int .i64 y1],26⟩ (by simp))
 have hltw6_2 : w.heap.size < w6.heap.size := block_lt (hS.bx ⟨w.heap.size,#[.bool s,.slice a n cap,.int .i64 x],26⟩ (by simp))
 have hltw6_3 : w.heap.size + 1 < w6.heap.size := block_lt (hS.bx ⟨w.heap.size + 1,#[.bool s',.slice a' n' cap',.int .i64 x'],26⟩ (by simp))
 replace hS := hS.alloc #[.bool q3,.slice A3 N3 C3,.int .i64 y3] 26
 replace H := hide ((unhide H).alloc (.cells #[.bool q3,.slice A3 N3 C3,.int .i64 y3] 26))
 replace H' := hide ((unhide H').alloc (.cells #[.bool q3,.slice A3 N3 C3,.int .i64 y3] 26))
 replace G1 := hide ((unhide G1).alloc (.cells #[.bool q3,.slice A3 N3 C3,.int .i64 y3] 26))
 replace G2 := hide ((unhide G2).alloc (.cells #[.bool q3,.slice A3 N3 C3,.int .i64 y3] 26))
 replace G3 := hide ((unhide G3).alloc (.cells #[.bool q3,.slice A3 N3 C3,.int .i64 y3] 26))
 go_wp2_with fail
 refine (unhide hp2 _ a' n' cap' a n cap (unhide H') (unhide H)).mono ?_
 rintro e w7 ⟨⟨A4,N4,C4,rfl,f4⟩,hb7⟩
 replace hS := hS.kept hb7
 clear z6_0_0 z6_0_1 z6_0_2 z6_1_0 z6_1_1 z6_1_2 z6_2_0 z6_2_1 z6_2_2 z6_3_0 z6_3_1 z6_3_2
 obtain ⟨⟨z7_0_0,z7_0_1,z7_0_2,-⟩,⟨z7_1_0,z7_1_1,z7_1_2,-⟩,⟨z7_2_0,z7_2_1,z7_2_2,-⟩,⟨z7_3_0,z7_3_1,z7_3_2,-⟩,⟨z7_4_0,z7_4_1,z7_4_2,-⟩,-⟩ := hS.cells
 replace H := hide ((unhide H).kept hb7)
 replace H' := hide ((unhide H').kept hb7)
 replace G1 := hide ((unhide G1).kept hb7)
 replace G2 := hide ((unhide G2).kept hb7)
 replace G3 := hide ((unhide G3).kept hb7)
 have G4 := hide f4
 clear f4
 have hltw7_0 : w6.heap.size < w7.heap.size := block_lt (hS.bx ⟨w6.heap.size,#[.bool q3,.slice A3 N3 C3,.int .i64 y3],26⟩ (by simp))
 have hltw7_1 : w5.heap.size < w7.heap.size := block_lt (hS.bx ⟨w5.heap.size,#[.bool q1,.slice A2 N2 C2,.int .i64 y1],26⟩ (by simp))
 have hltw7_2 : w4.heap.size < w7.heap.size := block_lt (hS.bx ⟨w4.heap.size,#[.bool q1,.slice A1 N1 C1,.int .i64 y1],26⟩ (by simp))
 have hltw7_3 : w.heap.size < w7.heap.size := block_lt (hS.bx ⟨w.heap.size,#[.bool s,.slice a n cap,.int .i64 x],26⟩ (by simp))
 have hltw7_4 : w.heap.size + 1 < w7.heap.size := block_lt (hS.bx ⟨w.heap.size + 1,#[.bool s',.slice a' n' cap',.int .i64 x'],26⟩ (by simp))
 replace hS := hS.alloc #[.bool q3,.slice A4 N4 C4,.int .i64 y3] 26
 replace H := hide ((unhide H).alloc (.cells #[.bool q3,.slice A4 N4 C4,.int .i64 y3] 26))
 replace H' := hide ((unhide H').alloc (.cells #[.bool q3,.slice A4 N4 C4,.int .i64 y3] 26))
 replace G1 := hide ((unhide G1).alloc (.cells #[.bool q3,.slice A4 N4 C4,.int .i64 y3] 26))
 replace G2 := hide ((unhide G2).alloc (.cells #[.bool q3,.slice A4 N4 C4,.int .i64 y3] 26))
 replace G3 := hide ((unhide G3).alloc (.cells #[.bool q3,.slice A4 N4 C4,.int .i64 y3] 26))
 replace G4 := hide ((unhide G4).alloc (.cells #[.bool q3,.slice A4 N4 C4,.int .i64 y3] 26))
 go_wp2_with fail
 refine (unhide hn1 _ a n cap (unhide H)).mono ?_
 rintro e w8 ⟨⟨A5,N5,C5,rfl,f5⟩,hb8⟩
 replace hS := hS.kept hb8
 clear z7_0_0 z7_0_1 z7_0_2 z7_1_0 z7_1_1 z7_1_2 z7_2_0 z7_2_1 z7_2_2 z7_3_0 z7_3_1 z7_3_2 z7_4_0 z7_4_1 z7_4_2
 obtain ⟨⟨z8_0_0,z8_0_1,z8_0_2,-⟩,⟨z8_1_0,z8_1_1,z8_1_2,-⟩,⟨z8_2_0,z8_2_1,z8_2_2,-⟩,⟨z8_3_0,z8_3_1,z8_3_2,-⟩,⟨z8_4_0,z8_4_1,z8_4_2,-⟩,⟨z8_5_0,z8_5_1,z8_5_2,-⟩,-⟩ := hS.cells
 replace H := hide ((unhide H).kept hb8)
 replace H' := hide ((unhide H').kept hb8)
 replace G1 := hide ((unhide G1).kept hb8)
 replace G2 := hide ((unhide G2).kept hb8)
 replace G3 := hide ((unhide G3).kept hb8)
 replace G4 := hide ((unhide G4).kept hb8)
 have G5 := hide f5
 clear f5
 have hltw8_0 : w7.heap.size < w8.heap.size := block_lt (hS.bx ⟨w7.heap.size,#[.bool q3,.slice A4 N4 C4,.int .i64 y3],26⟩ (by simp))
 have hltw8_1 : w6.heap.size < w8.heap.size := block_lt (hS.bx ⟨w6.heap.size,#[.bool q3,.slice A3 N3 C3,.int .i64 y3],26⟩ (by simp))
 have hltw8_2 : w5.heap.size < w8.heap.size := block_lt (hS.bx ⟨w5.heap.size,#[.bool q1,.slice A2 N2 C2,.int .i64 y1],26⟩ (by simp))
 have hltw8_3 : w4.heap.size < w8.heap.size := block_lt (hS.bx ⟨w4.heap.size,#[.bool q1,.slice A1 N1 C1,.int .i64 y1],26⟩ (by simp))
 have hltw8_4 : w.heap.size < w8.heap.size := block_lt (hS.bx ⟨w.heap.size,#[.bool s,.slice a n cap,.int .i64 x],26⟩ (by simp))
 have hltw8_5 : w.heap.size + 1 < w8.heap.size := block_lt (hS.bx ⟨w.heap.size + 1,#[.bool s',.slice a' n' cap',.int .i64 x'],26⟩ (by simp))
 replace hS := hS.alloc #[.bool n1,.slice A5 N5 C5,.int .i64 x] 26
 replace H := hide ((unhide H).alloc (.cells #[.bool n1,.slice A5 N5 C5,.int .i64 x] 26))
 replace H' := hide ((unhide H').alloc (.cells #[.bool n1,.slice A5 N5 C5,.int .i64 x] 26))
 replace G1 := hide ((unhide G1).alloc (.cells #[.bool n1,.slice A5 N5 C5,.int .i64 x] 26))
 replace G2 := hide ((unhide G2).alloc (.cells #[.bool n1,.slice A5 N5 C5,.int .i64 x] 26))
 replace G3 := hide ((unhide G3).alloc (.cells #[.bool n1,.slice A5 N5 C5,.int .i64 x] 26))
 replace G4 := hide ((unhide G4).alloc (.cells #[.bool n1,.slice A5 N5 C5,.int .i64 x] 26))
 replace G5 := hide ((unhide G5).alloc (.cells #[.bool n1,.slice A5 N5 C5,.int .i64 x] 26))
 go_wp2_with fail
 refine (unhide hn2 _ a' n' cap' (unhide H')).mono ?_
 rintro e w9 ⟨⟨A6,N6,C6,rfl,f6⟩,hb9⟩
 replace hS := hS.kept hb9
 clear z8_0_0 z8_0_1 z8_0_2 z8_1_0 z8_1_1 z8_1_2 z8_2_0 z8_2_1 z8_2_2 z8_3_0 z8_3_1 z8_3_2 z8_4_0 z8_4_1 z8_4_2 z8_5_0 z8_5_1 z8_5_2
 obtain ⟨⟨z9_0_0,z9_0_1,z9_0_2,-⟩,⟨z9_1_0,z9_1_1,z9_1_2,-⟩,⟨z9_2_0,z9_2_1,z9_2_2,-⟩,⟨z9_3_0,z9_3_1,z9_3_2,-⟩,⟨z9_4_0,z9_4_1,z9_4_2,-⟩,⟨z9_5_0,z9_5_1,z9_5_2,-⟩,⟨z9_6_0,z9_6_1,z9_6_2,-⟩,-⟩ := hS.cells
 replace H := hide ((unhide H).kept hb9)
 replace H' := hide ((unhide H').kept hb9)
 replace G1 := hide ((unhide G1).kept hb9)
 replace G2 := hide ((unhide G2).kept hb9)
 replace G3 := hide ((unhide G3).kept hb9)
 replace G4 := hide ((unhide G4).kept hb9)
 replace G5 := hide ((unhide G5).kept hb9)
 have G6 := hide f6
 clear f6
 have hltw9_0 : w8.heap.size < w9.heap.size := block_lt (hS.bx ⟨w8.heap.size,#[.bool n1,.slice A5 N5 C5,.int .i64 x],26⟩ (by simp))
 have hltw9_1 : w7.heap.size < w9.heap.size := block_lt (hS.bx ⟨w7.heap.size,#[.bool q3,.slice A4 N4 C4,.int .i64 y3],26⟩ (by simp))
 have hltw9_2 : w6.heap.size < w9.heap.size := block_lt (hS.bx ⟨w6.heap.size,#[.bool q3,.slice A3 N3 C3,.int .i64 y3],26⟩ (by simp))
 have hltw9_3 : w5.heap.size < w9.heap.size := block_lt (hS.bx ⟨w5.heap.size,#[.bool q1,.slice A2 N2 C2,.int .i64 y1],26⟩ (by simp))
 have hltw9_4 : w4.heap.size < w9.heap.size := block_lt (hS.bx ⟨w4.heap.size,#[.bool q1,.slice A1 N1 C1,.int .i64 y1],26⟩ (by simp))
 have hltw9_5 : w.heap.size < w9.heap.size := block_lt (hS.bx ⟨w.heap.size,#[.bool s,.slice a n cap,.int .i64 x],26⟩ (by simp))
 have hltw9_6 : w.heap.size + 1 < w9.heap.size := block_lt (hS.bx ⟨w.heap.size + 1,#[.bool s',.slice a' n' cap',.int .i64 x'],26⟩ (by simp))
 replace hS := hS.alloc #[.bool n2,.slice A6 N6 C6,.int .i64 x'] 26
 replace H := hide ((unhide H).alloc (.cells #[.bool n2,.slice A6 N6 C6,.int .i64 x'] 26))
 replace H' := hide ((unhide H').alloc (.cells #[.bool n2,.slice A6 N6 C6,.int .i64 x'] 26))
 replace G1 := hide ((unhide G1).alloc (.cells #[.bool n2,.slice A6 N6 C6,.int .i64 x'] 26))
 replace G2 := hide ((unhide G2).alloc (.cells #[.bool n2,.slice A6 N6 C6,.int .i64 x'] 26))
 replace G3 := hide ((unhide G3).alloc (.cells #[.bool n2,.slice A6 N6 C6,.int .i64 x'] 26))
 replace G4 := hide ((unhide G4).alloc (.cells #[.bool n2,.slice A6 N6 C6,.int .i64 x'] 26))
 replace G5 := hide ((unhide G5).alloc (.cells #[.bool n2,.slice A6 N6 C6,.int .i64 x'] 26))
 replace G6 := hide ((unhide G6).alloc (.cells #[.bool n2,.slice A6 N6 C6,.int .i64 x'] 26))
 go_wp2_with fail
 refine (unhide hz _ a n cap A5 N5 C5 (unhide H) (unhide G5) ((unhide HT).kept hS.fr)).mono ?_
 rintro e w10 ⟨⟨A7,N7,C7,rfl,f7⟩,hb10⟩
 replace hS := hS.kept hb10
 clear z9_0_0 z9_0_1 z9_0_2 z9_1_0 z9_1_1 z9_1_2 z9_2_0 z9_2_1 z9_2_2 z9_3_0 z9_3_1 z9_3_2 z9_4_0 z9_4_1 z9_4_2 z9_5_0 z9_5_1 z9_5_2 z9_6_0 z9_6_1 z9_6_2
 obtain ⟨⟨z10_0_0,z10_0_1,z10_0_2,-⟩,⟨z10_1_0,z10_1_1,z10_1_2,-⟩,⟨z10_2_0,z10_2_1,z10_2_2,-⟩,⟨z10_3_0,z10_3_1,z10_3_2,-⟩,⟨z10_4_0,z10_4_1,z10_4_2,-⟩,⟨z10_5_0,z10_5_1,z10_5_2,-⟩,⟨z10_6_0,z10_6_1,z10_6_2,-⟩,⟨z10_7_0,z10_7_1,z10_7_2,-⟩,-⟩ := hS.cells
 replace H := hide ((unhide H).kept hb10)
 replace H' := hide ((unhide H').kept hb10)
 replace G1 := hide ((unhide G1).kept hb10)
 replace G2 := hide ((unhide G2).kept hb10)
 replace G3 := hide ((unhide G3).kept hb10)
 replace G4 := hide ((unhide G4).kept hb10)
 replace G5 := hide ((unhide G5).kept hb10)
 replace G6 := hide ((unhide G6).kept hb10)
 have G7 := hide f7
 clear f7
 obtain rfl := (unhide G7).zero.2 rfl
 clear G7
 have hltw10_0 : w9.heap.size < w10.heap.size := block_lt (hS.bx ⟨w9.heap.size,#[.bool n2,.slice A6 N6 C6,.int .i64 x'],26⟩ (by simp))
 have hltw10_1 : w8.heap.size < w10.heap.size := block_lt (hS.bx ⟨w8.heap.size,#[.bool n1,.slice A5 N5 C5,.int .i64 x],26⟩ (by simp))
 have hltw10_2 : w7.heap.size < w10.heap.size := block_lt (hS.bx ⟨w7.heap.size,#[.bool q3,.slice A4 N4 C4,.int .i64 y3],26⟩ (by simp))
 have hltw10_3 : w6.heap.size < w10.heap.size := block_lt (hS.bx ⟨w6.heap.size,#[.bool q3,.slice A3 N3 C3,.int .i64 y3],26⟩ (by simp))
 have hltw10_4 : w5.heap.size < w10.heap.size := block_lt (hS.bx ⟨w5.heap.size,#[.bool q1,.slice A2 N2 C2,.int .i64 y1],26⟩ (by simp))
 have hltw10_5 : w4.heap.size < w10.heap.size := block_lt (hS.bx ⟨w4.heap.size,#[.bool q1,.slice A1 N1 C1,.int .i64 y1],26⟩ (by simp))
 have hltw10_6 : w.heap.size < w10.heap.size := block_lt (hS.bx ⟨w.heap.size,#[.bool s,.slice a n cap,.int .i64 x],26⟩ (by simp))
 have hltw10_7 : w.heap.size + 1 < w10.heap.size := block_lt (hS.bx ⟨w.heap.size + 1,#[.bool s',.slice a' n' cap',.int .i64 x'],26⟩ (by simp))
 replace hS := hS.alloc #[.bool false,.slice A7 0 C7,.int .i64 0] 26
 replace H := hide ((unhide H).alloc (.cells #[.bool false,.slice A7 0 C7,.int .i64 0] 26))
 replace H' := hide ((unhide H').alloc (.cells #[.bool false,.slice A7 0 C7,.int .i64 0] 26))
 replace G1 := hide ((unhide G1).alloc (.cells #[.bool false,.slice A7 0 C7,.int .i64 0] 26))
 replace G2 := hide ((unhide G2).alloc (.cells #[.bool false,.slice A7 0 C7,.int .i64 0] 26))
 replace G3 := hide ((unhide G3).alloc (.cells #[.bool false,.slice A7 0 C7,.int .i64 0] 26))
 replace G4 := hide ((unhide G4).alloc (.cells #[.bool false,.slice A7 0 C7,.int .i64 0] 26))
 replace G5 := hide ((unhide G5).alloc (.cells #[.bool false,.slice A7 0 C7,.int .i64 0] 26))
 replace G6 := hide ((unhide G6).alloc (.cells #[.bool false,.slice A7 0 C7,.int .i64 0] 26))
 go_wp2_with fail
 refine (unhide hd _ a n cap A6 N6 C6 (unhide H) (unhide G6) ((unhide HT).kept hS.fr)).mono ?_
 rintro e w11 ⟨⟨A8,N8,C8,rfl,f8⟩,hb11⟩
 replace hS := hS.kept hb11
 clear z10_0_0 z10_0_1 z10_0_2 z10_1_0 z10_1_1 z10_1_2 z10_2_0 z10_2_1 z10_2_2 z10_3_0 z10_3_1 z10_3_2 z10_4_0 z10_4_1 z10_4_2 z10_5_0 z10_5_1 z10_5_2 z10_6_0 z10_6_1 z10_6_2 z10_7_0 z10_7_1 z10_7_2
 obtain ⟨⟨z11_0_0,z11_0_1,z11_0_2,-⟩,⟨z11_1_0,z11_1_1,z11_1_2,-⟩,⟨z11_2_0,z11_2_1,z11_2_2,-⟩,⟨z11_3_0,z11_3_1,z11_3_2,-⟩,⟨z11_4_0,z11_4_1,z11_4_2,-⟩,⟨z11_5_0,z11_5_1,z11_5_2,-⟩,⟨z11_6_0,z11_6_1,z11_6_2,-⟩,⟨z11_7_0,z11_7_1,z11_7_2,-⟩,⟨z11_8_0,z11_8_1,z11_8_2,-⟩,-⟩ := hS.cells
 replace H := hide ((unhide H).kept hb11)
 replace H' := hide ((unhide H').kept hb11)
 replace G1 := hide ((unhide G1).kept hb11)
 replace G2 := hide ((unhide G2).kept hb11)
 replace G3 := hide ((unhide G3).kept hb11)
 replace G4 := hide ((unhide G4).kept hb11)
 replace G5 := hide ((unhide G5).kept hb11)
 replace G6 := hide ((unhide G6).kept hb11)
 have G8 := hide f8
 clear f8
 obtain rfl := (unhide G8).zero.2 rfl
 clear G8
 have hltw11_0 : w10.heap.size < w11.heap.size := block_lt (hS.bx ⟨w10.heap.size,#[.bool false,.slice A7 0 C7,.int .i64 0],26⟩ (by simp))
 have hltw11_1 : w9.heap.size < w11.heap.size := block_lt (hS.bx ⟨w9.heap.size,#[.bool n2,.slice A6 N6 C6,.int .i64 x'],26⟩ (by simp))
 have hltw11_2 : w8.heap.size < w11.heap.size := block_lt (hS.bx ⟨w8.heap.size,#[.bool n1,.slice A5 N5 C5,.int .i64 x],26⟩ (by simp))
 have hltw11_3 : w7.heap.size < w11.heap.size := block_lt (hS.bx ⟨w7.heap.size,#[.bool q3,.slice A4 N4 C4,.int .i64 y3],26⟩ (by simp))
 have hltw11_4 : w6.heap.size < w11.heap.size := block_lt (hS.bx ⟨w6.heap.size,#[.bool q3,.slice A3 N3 C3,.int .i64 y3],26⟩ (by simp))
 have hltw11_5 : w5.heap.size < w11.heap.size := block_lt (hS.bx ⟨w5.heap.size,#[.bool q1,.slice A2 N2 C2,.int .i64 y1],26⟩ (by simp))
 have hltw11_6 : w4.heap.size < w11.heap.size := block_lt (hS.bx ⟨w4.heap.size,#[.bool q1,.slice A1 N1 C1,.int .i64 y1],26⟩ (by simp))
 have hltw11_7 : w.heap.size < w11.heap.size := block_lt (hS.bx ⟨w.heap.size,#[.bool s,.slice a n cap,.int .i64 x],26⟩ (by simp))
 have hltw11_8 : w.heap.size + 1 < w11.heap.size := block_lt (hS.bx ⟨w.heap.size + 1,#[.bool s',.slice a' n' cap',.int .i64 x'],26⟩ (by simp))
 replace hS := hS.alloc #[.bool true,.slice A8 0 C8,.int .i64 y8] 26
 replace H := hide ((unhide H).alloc (.cells #[.bool true,.slice A8 0 C8,.int .i64 y8] 26))
 replace H' := hide ((unhide H').alloc (.cells #[.bool true,.slice A8 0 C8,.int .i64 y8] 26))
 replace G1 := hide ((unhide G1).alloc (.cells #[.bool true,.slice A8 0 C8,.int .i64 y8] 26))
 replace G2 := hide ((unhide G2).alloc (.cells #[.bool true,.slice A8 0 C8,.int .i64 y8] 26))
 replace G3 := hide ((unhide G3).alloc (.cells #[.bool true,.slice A8 0 C8,.int .i64 y8] 26))
 replace G4 := hide ((unhide G4).alloc (.cells #[.bool true,.slice A8 0 C8,.int .i64 y8] 26))
 replace G5 := hide ((unhide G5).alloc (.cells #[.bool true,.slice A8 0 C8,.int .i64 y8] 26))
 replace G6 := hide ((unhide G6).alloc (.cells #[.bool true,.slice A8 0 C8,.int .i64 y8] 26))
 go_wp2_with fail
 refine (unhide hc _ a n cap a' n' cap' (unhide H) (unhide H')).mono ?_
 rintro e w12 ⟨rfl,hb12⟩
 replace hS := hS.kept hb12
 clear z11_0_0 z11_0_1 z11_0_2 z11_1_0 z11_1_1 z11_1_2 z11_2_0 z11_2_1 z11_2_2 z11_3_0 z11_3_1 z11_3_2 z11_4_0 z11_4_1 z11_4_2 z11_5_0 z11_5_1 z11_5_2 z11_6_0 z11_6_1 z11_6_2 z11_7_0 z11_7_1 z11_7_2 z11_8_0 z11_8_1 z11_8_2
 obtain ⟨⟨z12_0_0,z12_0_1,z12_0_2,-⟩,⟨z12_1_0,z12_1_1,z12_1_2,-⟩,⟨z12_2_0,z12_2_1,z12_2_2,-⟩,⟨z12_3_0,z12_3_1,z12_3_2,-⟩,⟨z12_4_0,z12_4_1,z12_4_2,-⟩,⟨z12_5_0,z12_5_1,z12_5_2,-⟩,⟨z12_6_0,z12_6_1,z12_6_2,-⟩,⟨z12_7_0,z12_7_1,z12_7_2,-⟩,⟨z12_8_0,z12_8_1,z12_8_2,-⟩,⟨z12_9_0,z12_9_1,z12_9_2,-⟩,-⟩ := hS.cells
 replace H := hide ((unhide H).kept hb12)
 replace H' := hide ((unhide H').kept hb12)
 replace G1 := hide ((unhide G1).kept hb12)
 replace G2 := hide ((unhide G2).kept hb12)
 replace G3 := hide ((unhide G3).kept hb12)
 replace G4 := hide ((unhide G4).kept hb12)
 replace G5 := hide ((unhide G5).kept hb12)
 replace G6 := hide ((unhide G6).kept hb12)
 go_wp2_with fail
 refine (dsame_any q1 A1 N1 C1 v1 A2 N2 C2 y1 _ (unhide G1) (unhide G2)).mono ?_
 rintro e w13 ⟨rfl,hb13⟩
 replace hS := hS.kept hb13
 clear z12_0_0 z12_0_1 z12_0_2 z12_1_0 z12_1_1 z12_1_2 z12_2_0 z12_2_1 z12_2_2 z12_3_0 z12_3_1 z12_3_2 z12_4_0 z12_4_1 z12_4_2 z12_5_0 z12_5_1 z12_5_2 z12_6_0 z12_6_1 z12_6_2 z12_7_0 z12_7_1 z12_7_2 z12_8_0 z12_8_1 z12_8_2 z12_9_0 z12_9_1 z12_9_2
 obtain ⟨⟨z13_0_0,z13_0_1,z13_0_2,-⟩,⟨z13_1_0,z13_1_1,z13_1_2,-⟩,⟨z13_2_0,z13_2_1,z13_2_2,-⟩,⟨z13_3_0,z13_3_1,z13_3_2,-⟩,⟨z13_4_0,z13_4_1,z13_4_2,-⟩,⟨z13_5_0,z13_5_1,z13_5_2,-⟩,⟨z13_6_0,z13_6_1,z13_6_2,-⟩,⟨z13_7_0,z13_7_1,z13_7_2,-⟩,⟨z13_8_0,z13_8_1,z13_8_2,-⟩,⟨z13_9_0,z13_9_1,z13_9_2,-⟩,-⟩ := hS.cells
 replace H := hide ((unhide H).kept hb13)
 replace H' := hide ((unhide H').kept hb13)
 replace G1 := hide ((unhide G1).kept hb13)
 replace G2 := hide ((unhide G2).kept hb13)
 replace G3 := hide ((unhide G3).kept hb13)
 replace G4 := hide ((unhide G4).kept hb13)
 replace G5 := hide ((unhide G5).kept hb13)
 replace G6 := hide ((unhide G6).kept hb13)
 go_wp2_with fail
 refine (dsame_any q3 A3 N3 C3 v3 A4 N4 C4 y3 _ (unhide G3) (unhide G4)).mono ?_
 rintro e w14 ⟨rfl,hb14⟩
 replace hS := hS.kept hb14
 clear z13_0_0 z13_0_1 z13_0_2 z13_1_0 z13_1_1 z13_1_2 z13_2_0 z13_2_1 z13_2_2 z13_3_0 z13_3_1 z13_3_2 z13_4_0 z13_4_1 z13_4_2 z13_5_0 z13_5_1 z13_5_2 z13_6_0 z13_6_1 z13_6_2 z13_7_0 z13_7_1 z13_7_2 z13_8_0 z13_8_1 z13_8_2 z13_9_0 z13_9_1 z13_9_2
 obtain ⟨⟨z14_0_0,z14_0_1,z14_0_2,-⟩,⟨z14_1_0,z14_1_1,z14_1_2,-⟩,⟨z14_2_0,z14_2_1,z14_2_2,-⟩,⟨z14_3_0,z14_3_1,z14_3_2,-⟩,⟨z14_4_0,z14_4_1,z14_4_2,-⟩,⟨z14_5_0,z14_5_1,z14_5_2,-⟩,⟨z14_6_0,z14_6_1,z14_6_2,-⟩,⟨z14_7_0,z14_7_1,z14_7_2,-⟩,⟨z14_8_0,z14_8_1,z14_8_2,-⟩,⟨z14_9_0,z14_9_1,z14_9_2,-⟩,-⟩ := hS.cells
 replace H := hide ((unhide H).kept hb14)
 replace H' := hide ((unhide H').kept hb14)
 replace G1 := hide ((unhide G1).kept hb14)
 replace G2 := hide ((unhide G2).kept hb14)
 replace G3 := hide ((unhide G3).kept hb14)
 replace G4 := hide ((unhide G4).kept hb14)
 replace G5 := hide ((unhide G5).kept hb14)
 replace G6 := hide ((unhide G6).kept hb14)
 go_wp2
 go_ret
 exact ⟨rfl,hS.fr⟩
set_option maxRecDepth 20000 in
set_option maxHeartbeats 16000000 in
theorem ring_zf (s : Bool) (a : Option Addr) (n cap m : Nat) (x : Int) (s' : Bool) (a' : Option Addr) (n' cap' m' : Nat) (x' : Int) (e1 e3 y1 y3 y8 : Int) (q1 q3 n1 n2 : Bool) (v1 v3 : Nat) (w : World) (hT : Tb w) (h : Num w a n m) (h' : Num w a' n' m') (hca : Hid (∀ (W : World) (A : Option Addr) (N C : Nat),Num W A N m → Calls Tryd.prog 21 #[.agg #[.bool s,.slice A N C,.int .i64 x]] W fun e w' => e = .returned (.int .i64 0) ∧ Below W.heap.size W w')) (hcb : Hid (∀ (W : World) (A : Option Addr) (N C : Nat),Num W A N m' → Calls Tryd.prog 21 #[.agg #[.bool s',.slice A N C,.int .i64 x']] W fun e w' => e = .returned (.int .i64 0) ∧ Below W.heap.size W w')) (hs1 : Hid (∀ (W : World) (A : Option Addr) (N C : Nat) (A' : Option Addr) (N' C' : Nat),Num W A N m → Num W A' N' m' → Tb W → Calls Tryd.prog 15 #[.agg #[.bool s,.slice A N C,.int .i64 x],.agg #[.bool s',.slice A' N' C',.int .i64 x']] W fun e w' => (∃ A N C,e = .returned (.tuple #[.agg #[.bool q1,.slice A N C,.int .i64 y1],.int .i64 e1]) ∧ Num w' A N v1) ∧ Below W.heap.size W w')) (hs2 : Hid (∀ (W : World) (A : Option Addr) (N C : Nat) (A' : Option Addr) (N' C' : Nat),Num W A N m' → Num W A' N' m → Tb W → Calls Tryd.prog 15 #[.agg #[.bool s',.slice A N C,.int .i64 x'],.agg #[.bool s,.slice A' N' C',.int .i64 x]] W fun e w' => (∃ A N C,e = .returned (.tuple #[.agg #[.bool q1,.slice A N C,.int .i64 y1],.int .i64 e1]) ∧ Num w' A N v1) ∧ Below W.heap.size W w')) (hp1 : Hid (∀ (W : World) (A : Option Addr) (N C : Nat) (A' : Option Addr) (N' C' : Nat),Num W A N m → Num W A' N' m' → Calls Tryd.prog 44 #[.agg #[.bool s,.slice A N C,.int .i64 x],.agg #[.bool s',.slice A' N' C',.int .i64 x']] W fun e w' => (∃ A N C,e = .returned (.tuple #[.agg #[.bool q3,.slice A N C,.int .i64 y3],.int .i64 e3]) ∧ Num w' A N v3) ∧ Below W.heap.size W w')) (hp2 : Hid (∀ (W : World) (A : Option Addr) (N C : Nat) (A' : Option Addr) (N' C' : Nat),Num W A N m' → Num W A' N' m → Calls Tryd.prog 44 #[.agg #[.bool s',.slice A N C,.int .i64 x'],.agg #[.bool s,.slice A' N' C',.int .i64 x]] W fun e w' => (∃ A N C,e = .returned (.tuple #[.agg #[.bool q3,.slice A N C,.int .i64 y3],.int .i64 e3]) ∧ Num w' A N v3) ∧ Below W.heap.size W w')) (hn1 : Hid (∀ (W : World) (A : Option Addr) (N C : Nat),Num W A N m → Calls Tryd.prog 30 #[.agg #[.bool s,.slice A N C,.int .i64 x]] W fun e w' => (∃ A N C,e = .returned (.tuple #[.agg #[.bool n1,.slice A N C,.int .i64 x],.int .i64 0]) ∧ Num w' A N m) ∧ Below W.heap.size W w')) (hn2 : Hid (∀ (W : World) (A : Option Addr) (N C : Nat),Num W A N m' → Calls Tryd.prog 30 #[.agg #[.bool s',.slice A N C,.int .i64 x']] W fun e w' => (∃ A N C,e = .returned (.tuple #[.agg #[.bool n2,.slice A N C,.int .i64 x'],.int .i64 0]) ∧ Num w' A N m') ∧ Below W.heap.size W w')) (hz : Hid (∀ (W : World) (A : Option Addr) (N C : Nat) (A' : Option Addr) (N' C' : Nat),Num W A N m → Num W A' N' m → Tb W → Calls Tryd.prog 15 #[.agg #[.bool s,.slice A N C,.int .i64 x],.agg #[.bool n1,.slice A' N' C',.int .i64 x]] W fun e w' => (∃ A N C,e = .returned (.tuple #[.agg #[.bool false,.slice A N C,.int .i64 0],.int .i64 0]) ∧ Num w' A N 0) ∧ Below W.heap.size W w')) (hd : Hid (∀ (W : World) (A : Option Addr) (N C : Nat) (A' : Option Addr) (N' C' : Nat),Num W A N m → Num W A' N' m' → Tb W → Calls Tryd.prog 15 #[.agg #[.bool s,.slice A N C,.int .i64 x],.agg #[.bool n2,.slice A' N' C',.int .i64 x']] W fun e w' => (∃ A N C,e = .returned (.tuple #[.agg #[.bool false,.slice A N C,.int .i64 y8],.int .i64 0]) ∧ Num w' A N 0) ∧ Below W.heap.size W w')) (hc : Hid (∀ (W : World) (A : Option Addr) (N C : Nat) (A' : Option Addr) (N' C' : Nat),Num W A N m → Num W A' N' m' → Calls Tryd.prog 17 #[.agg #[.bool s,.slice A N C,.int .i64 x],.agg #[.bool s',.slice A' N' C',.int .i64 x']] W fun e w' => e = .returned (.tuple #[.int .i64 0,.int .i64 0]) ∧ Below W.heap.size W w')) :
  Calls Tryd.prog 9 #[.agg #[.bool s,.slice a n cap,.int .i64 x],.agg #[.bool s',.slice a' n' cap',.int .i64 x']] w fun e w' => e = .returned (.bool true) ∧ Below w.heap.size w w' := by
 have HT := hide hT
 have H := hide h
 have H' := hide h'
 clear hT h h'
 go_enter Tryd.func9,Tryd.ntmps9
 go_wp2_with fail
 refine (alive_any _ (((unhide HT).alloc _).alloc _)).mono ?_
 rintro e w1 ⟨rfl,hb1⟩
 have hS := (Fs.two w _ _ _ _).kept hb1
 obtain ⟨⟨z1_0_0,z1_0_1,z1_0_2,-⟩,⟨z1_1_0,z1_1_1,z1_1_2,-⟩,-⟩ := hS.cells
 replace H := hide ((unhide H).kept hS.fr)
 replace H' := hide ((unhide H').kept hS.fr)
 go_wp2_with fail
 refine (unhide hca _ a n cap (unhide H)).mono ?_
 rintro e w2 ⟨rfl,hb2⟩
 replace hS := hS.kept hb2
 clear z1_0_0 z1_0_1 z1_0_2 z1_1_0 z1_1_1 z1_1_2
 obtain ⟨⟨z2_0_0,z2_0_1,z2_0_2,-⟩,⟨z2_1_0,z2_1_1,z2_1_2,-⟩,-⟩ := hS.cells
 replace H := hide ((unhide H).kept hb2)
 replace H' := hide ((unhide H').kept hb2)
 go_wp2_with fail
 refine (unhide hcb _ a' n' cap' (unhide H')).mono ?_
 rintro e w3 ⟨rfl,hb3⟩
 replace hS := hS.kept hb3
 clear z2_0_0 z2_0_1 z2_0_2 z2_1_0 z2_1_1 z2_1_2
 obtain ⟨⟨z3_0_0,z3_0_1,z3_0_2,-⟩,⟨z3_1_0,z3_1_1,z3_1_2,-⟩,-⟩ := hS.cells
 replace H := hide ((unhide H).kept hb3)
 replace H' := hide ((unhide H').kept hb3)
 go_wp2_with fail
 refine (unhide hs1 _ a n cap a' n' cap' (unhide H) (unhide H') ((unhide HT).kept hS.fr)).mono ?_
 rintro e w4 ⟨⟨A1,N1,C1,rfl,f1⟩,hb4⟩
 replace hS := hS.kept hb4
 clear z3_0_0 z3_0_1 z3_0_2 z3_1_0 z3_1_1 z3_1_2
 obtain ⟨⟨z4_0_0,z4_0_1,z4_0_2,-⟩,⟨z4_1_0,z4_1_1,z4_1_2,-⟩,-⟩ := hS.cells
 replace H := hide ((unhide H).kept hb4)
 replace H' := hide ((unhide H').kept hb4)
 have G1 := hide f1
 clear f1
 have hltw4_0 : w.heap.size < w4.heap.size := block_lt (hS.bx ⟨w.heap.size,#[.bool s,.slice a n cap,.int .i64 x],26⟩ (by simp))
 have hltw4_1 : w.heap.size + 1 < w4.heap.size := block_lt (hS.bx ⟨w.heap.size + 1,#[.bool s',.slice a' n' cap',.int .i64 x'],26⟩ (by simp))
 replace hS := hS.alloc #[.bool q1,.slice A1 N1 C1,.int .i64 y1] 26
 replace H := hide ((unhide H).alloc (.cells #[.bool q1,.slice A1 N1 C1,.int .i64 y1] 26))
 replace H' := hide ((unhide H').alloc (.cells #[.bool q1,.slice A1 N1 C1,.int .i64 y1] 26))
 replace G1 := hide ((unhide G1).alloc (.cells #[.bool q1,.slice A1 N1 C1,.int .i64 y1] 26))
 go_wp2_with fail
 refine (unhide hs2 _ a' n' cap' a n cap (unhide H') (unhide H) ((unhide HT).kept hS.fr)).mono ?_
 rintro e w5 ⟨⟨A2,N2,C2,rfl,f2⟩,hb5⟩
 replace hS := hS.kept hb5
 clear z4_0_0 z4_0_1 z4_0_2 z4_1_0 z4_1_1 z4_1_2
 obtain ⟨⟨z5_0_0,z5_0_1,z5_0_2,-⟩,⟨z5_1_0,z5_1_1,z5_1_2,-⟩,⟨z5_2_0,z5_2_1,z5_2_2,-⟩,-⟩ := hS.cells
 replace H := hide ((unhide H).kept hb5)
 replace H' := hide ((unhide H').kept hb5)
 replace G1 := hide ((unhide G1).kept hb5)
 have G2 := hide f2
 clear f2
 have hltw5_0 : w4.heap.size < w5.heap.size := block_lt (hS.bx ⟨w4.heap.size,#[.bool q1,.slice A1 N1 C1,.int .i64 y1],26⟩ (by simp))
 have hltw5_1 : w.heap.size < w5.heap.size := block_lt (hS.bx ⟨w.heap.size,#[.bool s,.slice a n cap,.int .i64 x],26⟩ (by simp))
 have hltw5_2 : w.heap.size + 1 < w5.heap.size := block_lt (hS.bx ⟨w.heap.size + 1,#[.bool s',.slice a' n' cap',.int .i64 x'],26⟩ (by simp))
 replace hS := hS.alloc #[.bool q1,.slice A2 N2 C2,.int .i64 y1] 26
 replace H := hide ((unhide H).alloc (.cells #[.bool q1,.slice A2 N2 C2,.int .i64 y1] 26))
 replace H' := hide ((unhide H').alloc (.cells #[.bool q1,.slice A2 N2 C2,.int .i64 y1] 26))
 replace G1 := hide ((unhide G1).alloc (.cells #[.bool q1,.slice A2 N2 C2,.int .i64 y1] 26))
 replace G2 := hide ((unhide G2).alloc (.cells #[.bool q1,.slice A2 N2 C2,.int .i64 y1] 26))
 go_wp2_with fail
 refine (unhide hp1 _ a n cap a' n' cap' (unhide H) (unhide H')).mono ?_
 rintro e w6 ⟨⟨A3,N3,C3,rfl,f3⟩,hb6⟩
 replace hS := hS.kept hb6
 clear z5_0_0 z5_0_1 z5_0_2 z5_1_0 z5_1_1 z5_1_2 z5_2_0 z5_2_1 z5_2_2
 obtain ⟨⟨z6_0_0,z6_0_1,z6_0_2,-⟩,⟨z6_1_0,z6_1_1,z6_1_2,-⟩,⟨z6_2_0,z6_2_1,z6_2_2,-⟩,⟨z6_3_0,z6_3_1,z6_3_2,-⟩,-⟩ := hS.cells
 replace H := hide ((unhide H).kept hb6)
 replace H' := hide ((unhide H').kept hb6)
 replace G1 := hide ((unhide G1).kept hb6)
 replace G2 := hide ((unhide G2).kept hb6)
 have G3 := hide f3
 clear f3
 have hltw6_0 : w5.heap.size < w6.heap.size := block_lt (hS.bx ⟨w5.heap.size,#[.bool q1,.slice A2 N2 C2,.int .i64 y1],26⟩ (by simp))
 have hltw6_1 : w4.heap.size < w6.heap.size := block_lt (hS.bx ⟨w4.heap.size,#[.bool q1,.slice A1 N1 C1,.int .i64 y1],26⟩ (by simp))
 have hltw6_2 : w.heap.size < w6.heap.size := block_lt (hS.bx ⟨w.heap.size,#[.bool s,.slice a n cap,.int .i64 x],26⟩ (by simp))
 have hltw6_3 : w.heap.size + 1 < w6.heap.size := block_lt (hS.bx ⟨w.heap.size + 1,#[.bool s',.slice a' n' cap',.int .i64 x'],26⟩ (by simp))
 replace hS := hS.alloc #[.bool q3,.slice A3 N3 C3,.int .i64 y3] 26
 replace H := hide ((unhide H).alloc (.cells #[.bool q3,.slice A3 N3 C3,.int .i64 y3] 26))
 replace H' := hide ((unhide H').alloc (.cells #[.bool q3,.slice A3 N3 C3,.int .i64 y3] 26))
 replace G1 := hide ((unhide G1).alloc (.cells #[.bool q3,.slice A3 N3 C3,.int .i64 y3] 26))
 replace G2 := hide ((unhide G2).alloc (.cells #[.bool q3,.slice A3 N3 C3,.int .i64 y3] 26))
 replace G3 := hide ((unhide G3).alloc (.cells #[.bool q3,.slice A3 N3 C3,.int .i64 y3] 26))
 go_wp2_with fail
 refine (unhide hp2 _ a' n' cap' a n cap (unhide H') (unhide H)).mono ?_
 rintro e w7 ⟨⟨A4,N4,C4,rfl,f4⟩,hb7⟩
 replace hS := hS.kept hb7
 clear z6_0_0 z6_0_1 z6_0_2 z6_1_0 z6_1_1 z6_1_2 z6_2_0 z6_2_1 z6_2_2 z6_3_0 z6_3_1 z6_3_2
 obtain ⟨⟨z7_0_0,z7_0_1,z7_0_2,-⟩,⟨z7_1_0,z7_1_1,z7_1_2,-⟩,⟨z7_2_0,z7_2_1,z7_2_2,-⟩,⟨z7_3_0,z7_3_1,z7_3_2,-⟩,⟨z7_4_0,z7_4_1,z7_4_2,-⟩,-⟩ := hS.cells
 replace H := hide ((unhide H).kept hb7)
 replace H' := hide ((unhide H').kept hb7)
 replace G1 := hide ((unhide G1).kept hb7)
 replace G2 := hide ((unhide G2).kept hb7)
 replace G3 := hide ((unhide G3).kept hb7)
 have G4 := hide f4
 clear f4
 have hltw7_0 : w6.heap.size < w7.heap.size := block_lt (hS.bx ⟨w6.heap.size,#[.bool q3,.slice A3 N3 C3,.int .i64 y3],26⟩ (by simp))
 have hltw7_1 : w5.heap.size < w7.heap.size := block_lt (hS.bx ⟨w5.heap.size,#[.bool q1,.slice A2 N2 C2,.int .i64 y1],26⟩ (by simp))
 have hltw7_2 : w4.heap.size < w7.heap.size := block_lt (hS.bx ⟨w4.heap.size,#[.bool q1,.slice A1 N1 C1,.int .i64 y1],26⟩ (by simp))
 have hltw7_3 : w.heap.size < w7.heap.size := block_lt (hS.bx ⟨w.heap.size,#[.bool s,.slice a n cap,.int .i64 x],26⟩ (by simp))
 have hltw7_4 : w.heap.size + 1 < w7.heap.size := block_lt (hS.bx ⟨w.heap.size + 1,#[.bool s',.slice a' n' cap',.int .i64 x'],26⟩ (by simp))
 replace hS := hS.alloc #[.bool q3,.slice A4 N4 C4,.int .i64 y3] 26
 replace H := hide ((unhide H).alloc (.cells #[.bool q3,.slice A4 N4 C4,.int .i64 y3] 26))
 replace H' := hide ((unhide H').alloc (.cells #[.bool q3,.slice A4 N4 C4,.int .i64 y3] 26))
 replace G1 := hide ((unhide G1).alloc (.cells #[.bool q3,.slice A4 N4 C4,.int .i64 y3] 26))
 replace G2 := hide ((unhide G2).alloc (.cells #[.bool q3,.slice A4 N4 C4,.int .i64 y3] 26))
 replace G3 := hide ((unhide G3).alloc (.cells #[.bool q3,.slice A4 N4 C4,.int .i64 y3] 26))
 replace G4 := hide ((unhide G4).alloc (.cells #[.bool q3,.slice A4 N4 C4,.int .i64 y3] 26))
 go_wp2_with fail
 refine (unhide hn1 _ a n cap (unhide H)).mono ?_
 rintro e w8 ⟨⟨A5,N5,C5,rfl,f5⟩,hb8⟩
 replace hS := hS.kept hb8
 clear z7_0_0 z7_0_1 z7_0_2 z7_1_0 z7_1_1 z7_1_2 z7_2_0 z7_2_1 z7_2_2 z7_3_0 z7_3_1 z7_3_2 z7_4_0 z7_4_1 z7_4_2
 obtain ⟨⟨z8_0_0,z8_0_1,z8_0_2,-⟩,⟨z8_1_0,z8_1_1,z8_1_2,-⟩,⟨z8_2_0,z8_2_1,z8_2_2,-⟩,⟨z8_3_0,z8_3_1,z8_3_2,-⟩,⟨z8_4_0,z8_4_1,z8_4_2,-⟩,⟨z8_5_0,z8_5_1,z8_5_2,-⟩,-⟩ := hS.cells
 replace H := hide ((unhide H).kept hb8)
 replace H' := hide ((unhide H').kept hb8)
 replace G1 := hide ((unhide G1).kept hb8)
 replace G2 := hide ((unhide G2).kept hb8)
 replace G3 := hide ((unhide G3).kept hb8)
 replace G4 := hide ((unhide G4).kept hb8)
 have G5 := hide f5
 clear f5
 have hltw8_0 : w7.heap.size < w8.heap.size := block_lt (hS.bx ⟨w7.heap.size,#[.bool q3,.slice A4 N4 C4,.int .i64 y3],26⟩ (by simp))
 have hltw8_1 : w6.heap.size < w8.heap.size := block_lt (hS.bx ⟨w6.heap.size,#[.bool q3,.slice A3 N3 C3,.int .i64 y3],26⟩ (by simp))
 have hltw8_2 : w5.heap.size < w8.heap.size := block_lt (hS.bx ⟨w5.heap.size,#[.bool q1,.slice A2 N2 C2,.int .i64 y1],26⟩ (by simp))
 have hltw8_3 : w4.heap.size < w8.heap.size := block_lt (hS.bx ⟨w4.heap.size,#[.bool q1,.slice A1 N1 C1,.int .i64 y1],26⟩ (by simp))
 have hltw8_4 : w.heap.size < w8.heap.size := block_lt (hS.bx ⟨w.heap.size,#[.bool s,.slice a n cap,.int .i64 x],26⟩ (by simp))
 have hltw8_5 : w.heap.size + 1 < w8.heap.size := block_lt (hS.bx ⟨w.heap.size + 1,#[.bool s',.slice a' n' cap',.int .i64 x'],26⟩ (by simp))
 replace hS := hS.alloc #[.bool n1,.slice A5 N5 C5,.int .i64 x] 26
 replace H := hide ((unhide H).alloc (.cells #[.bool n1,.slice A5 N5 C5,.int .i64 x] 26))
 replace H' := hide ((unhide H').alloc (.cells #[.bool n1,.slice A5 N5 C5,.int .i64 x] 26))
 replace G1 := hide ((unhide G1).alloc (.cells #[.bool n1,.slice A5 N5 C5,.int .i64 x] 26))
 replace G2 := hide ((unhide G2).alloc (.cells #[.bool n1,.slice A5 N5 C5,.int .i64 x] 26))
 replace G3 := hide ((unhide G3).alloc (.cells #[.bool n1,.slice A5 N5 C5,.int .i64 x] 26))
 replace G4 := hide ((unhide G4).alloc (.cells #[.bool n1,.slice A5 N5 C5,.int .i64 x] 26))
 replace G5 := hide ((unhide G5).alloc (.cells #[.bool n1,.slice A5 N5 C5,.int .i64 x] 26))
 go_wp2_with fail
 refine (unhide hn2 _ a' n' cap' (unhide H')).mono ?_
 rintro e w9 ⟨⟨A6,N6,C6,rfl,f6⟩,hb9⟩
 replace hS := hS.kept hb9
 clear z8_0_0 z8_0_1 z8_0_2 z8_1_0 z8_1_1 z8_1_2 z8_2_0 z8_2_1 z8_2_2 z8_3_0 z8_3_1 z8_3_2 z8_4_0 z8_4_1 z8_4_2 z8_5_0 z8_5_1 z8_5_2
 obtain ⟨⟨z9_0_0,z9_0_1,z9_0_2,-⟩,⟨z9_1_0,z9_1_1,z9_1_2,-⟩,⟨z9_2_0,z9_2_1,z9_2_2,-⟩,⟨z9_3_0,z9_3_1,z9_3_2,-⟩,⟨z9_4_0,z9_4_1,z9_4_2,-⟩,⟨z9_5_0,z9_5_1,z9_5_2,-⟩,⟨z9_6_0,z9_6_1,z9_6_2,-⟩,-⟩ := hS.cells
 replace H := hide ((unhide H).kept hb9)
 replace H' := hide ((unhide H').kept hb9)
 replace G1 := hide ((unhide G1).kept hb9)
 replace G2 := hide ((unhide G2).kept hb9)
 replace G3 := hide ((unhide G3).kept hb9)
 replace G4 := hide ((unhide G4).kept hb9)
 replace G5 := hide ((unhide G5).kept hb9)
 have G6 := hide f6
 clear f6
 have hltw9_0 : w8.heap.size < w9.heap.size := block_lt (hS.bx ⟨w8.heap.size,#[.bool n1,.slice A5 N5 C5,.int .i64 x],26⟩ (by simp))
 have hltw9_1 : w7.heap.size < w9.heap.size := block_lt (hS.bx ⟨w7.heap.size,#[.bool q3,.slice A4 N4 C4,.int .i64 y3],26⟩ (by simp))
 have hltw9_2 : w6.heap.size < w9.heap.size := block_lt (hS.bx ⟨w6.heap.size,#[.bool q3,.slice A3 N3 C3,.int .i64 y3],26⟩ (by simp))
 have hltw9_3 : w5.heap.size < w9.heap.size := block_lt (hS.bx ⟨w5.heap.size,#[.bool q1,.slice A2 N2 C2,.int .i64 y1],26⟩ (by simp))
 have hltw9_4 : w4.heap.size < w9.heap.size := block_lt (hS.bx ⟨w4.heap.size,#[.bool q1,.slice A1 N1 C1,.int .i64 y1],26⟩ (by simp))
 have hltw9_5 : w.heap.size < w9.heap.size := block_lt (hS.bx ⟨w.heap.size,#[.bool s,.slice a n cap,.int .i64 x],26⟩ (by simp))
 have hltw9_6 : w.heap.size + 1 < w9.heap.size := block_lt (hS.bx ⟨w.heap.size + 1,#[.bool s',.slice a' n' cap',.int .i64 x'],26⟩ (by simp))
 replace hS := hS.alloc #[.bool n2,.slice A6 N6 C6,.int .i64 x'] 26
 replace H := hide ((unhide H).alloc (.cells #[.bool n2,.slice A6 N6 C6,.int .i64 x'] 26))
 replace H' := hide ((unhide H').alloc (.cells #[.bool n2,.slice A6 N6 C6,.int .i64 x'] 26))
 replace G1 := hide ((unhide G1).alloc (.cells #[.bool n2,.slice A6 N6 C6,.int .i64 x'] 26))
 replace G2 := hide ((unhide G2).alloc (.cells #[.bool n2,.slice A6 N6 C6,.int .i64 x'] 26))
 replace G3 := hide ((unhide G3).alloc (.cells #[.bool n2,.slice A6 N6 C6,.int .i64 x'] 26))
 replace G4 := hide ((unhide G4).alloc (.cells #[.bool n2,.slice A6 N6 C6,.int .i64 x'] 26))
 replace G5 := hide ((unhide G5).alloc (.cells #[.bool n2,.slice A6 N6 C6,.int .i64 x'] 26))
 replace G6 := hide ((unhide G6).alloc (.cells #[.bool n2,.slice A6 N6 C6,.int .i64 x'] 26))
 go_wp2_with fail
 refine (unhide hz _ a n cap A5 N5 C5 (unhide H) (unhide G5) ((unhide HT).kept hS.fr)).mono ?_
 rintro e w10 ⟨⟨A7,N7,C7,rfl,f7⟩,hb10⟩
 replace hS := hS.kept hb10
 clear z9_0_0 z9_0_1 z9_0_2 z9_1_0 z9_1_1 z9_1_2 z9_2_0 z9_2_1 z9_2_2 z9_3_0 z9_3_1 z9_3_2 z9_4_0 z9_4_1 z9_4_2 z9_5_0 z9_5_1 z9_5_2 z9_6_0 z9_6_1 z9_6_2
 obtain ⟨⟨z10_0_0,z10_0_1,z10_0_2,-⟩,⟨z10_1_0,z10_1_1,z10_1_2,-⟩,⟨z10_2_0,z10_2_1,z10_2_2,-⟩,⟨z10_3_0,z10_3_1,z10_3_2,-⟩,⟨z10_4_0,z10_4_1,z10_4_2,-⟩,⟨z10_5_0,z10_5_1,z10_5_2,-⟩,⟨z10_6_0,z10_6_1,z10_6_2,-⟩,⟨z10_7_0,z10_7_1,z10_7_2,-⟩,-⟩ := hS.cells
 replace H := hide ((unhide H).kept hb10)
 replace H' := hide ((unhide H').kept hb10)
 replace G1 := hide ((unhide G1).kept hb10)
 replace G2 := hide ((unhide G2).kept hb10)
 replace G3 := hide ((unhide G3).kept hb10)
 replace G4 := hide ((unhide G4).kept hb10)
 replace G5 := hide ((unhide G5).kept hb10)
 replace G6 := hide ((unhide G6).kept hb10)
 have G7 := hide f7
 clear f7
 obtain rfl := (unhide G7).zero.2 rfl
 clear G7
 have hltw10_0 : w9.heap.size < w10.heap.size := block_lt (hS.bx ⟨w9.heap.size,#[.bool n2,.slice A6 N6 C6,.int .i64 x'],26⟩ (by simp))
 have hltw10_1 : w8.heap.size < w10.heap.size := block_lt (hS.bx ⟨w8.heap.size,#[.bool n1,.slice A5 N5 C5,.int .i64 x],26⟩ (by simp))
 have hltw10_2 : w7.heap.size < w10.heap.size := block_lt (hS.bx ⟨w7.heap.size,#[.bool q3,.slice A4 N4 C4,.int .i64 y3],26⟩ (by simp))
 have hltw10_3 : w6.heap.size < w10.heap.size := block_lt (hS.bx ⟨w6.heap.size,#[.bool q3,.slice A3 N3 C3,.int .i64 y3],26⟩ (by simp))
 have hltw10_4 : w5.heap.size < w10.heap.size := block_lt (hS.bx ⟨w5.heap.size,#[.bool q1,.slice A2 N2 C2,.int .i64 y1],26⟩ (by simp))
 have hltw10_5 : w4.heap.size < w10.heap.size := block_lt (hS.bx ⟨w4.heap.size,#[.bool q1,.slice A1 N1 C1,.int .i64 y1],26⟩ (by simp))
 have hltw10_6 : w.heap.size < w10.heap.size := block_lt (hS.bx ⟨w.heap.size,#[.bool s,.slice a n cap,.int .i64 x],26⟩ (by simp))
 have hltw10_7 : w.heap.size + 1 < w10.heap.size := block_lt (hS.bx ⟨w.heap.size + 1,#[.bool s',.slice a' n' cap',.int .i64 x'],26⟩ (by simp))
 replace hS := hS.alloc #[.bool false,.slice A7 0 C7,.int .i64 0] 26
 replace H := hide ((unhide H).alloc (.cells #[.bool false,.slice A7 0 C7,.int .i64 0] 26))
 replace H' := hide ((unhide H').alloc (.cells #[.bool false,.slice A7 0 C7,.int .i64 0] 26))
 replace G1 := hide ((unhide G1).alloc (.cells #[.bool false,.slice A7 0 C7,.int .i64 0] 26))
 replace G2 := hide ((unhide G2).alloc (.cells #[.bool false,.slice A7 0 C7,.int .i64 0] 26))
 replace G3 := hide ((unhide G3).alloc (.cells #[.bool false,.slice A7 0 C7,.int .i64 0] 26))
 replace G4 := hide ((unhide G4).alloc (.cells #[.bool false,.slice A7 0 C7,.int .i64 0] 26))
 replace G5 := hide ((unhide G5).alloc (.cells #[.bool false,.slice A7 0 C7,.int .i64 0] 26))
 replace G6 := hide ((unhide G6).alloc (.cells #[.bool false,.slice A7 0 C7,.int .i64 0] 26))
 go_wp2_with fail
 refine (unhide hd _ a n cap A6 N6 C6 (unhide H) (unhide G6) ((unhide HT).kept hS.fr)).mono ?_
 rintro e w11 ⟨⟨A8,N8,C8,rfl,f8⟩,hb11⟩
 replace hS := hS.kept hb11
 clear z10_0_0 z10_0_1 z10_0_2 z10_1_0 z10_1_1 z10_1_2 z10_2_0 z10_2_1 z10_2_2 z10_3_0 z10_3_1 z10_3_2 z10_4_0 z10_4_1 z10_4_2 z10_5_0 z10_5_1 z10_5_2 z10_6_0 z10_6_1 z10_6_2 z10_7_0 z10_7_1 z10_7_2
 obtain ⟨⟨z11_0_0,z11_0_1,z11_0_2,-⟩,⟨z11_1_0,z11_1_1,z11_1_2,-⟩,⟨z11_2_0,z11_2_1,z11_2_2,-⟩,⟨z11_3_0,z11_3_1,z11_3_2,-⟩,⟨z11_4_0,z11_4_1,z11_4_2,-⟩,⟨z11_5_0,z11_5_1,z11_5_2,-⟩,⟨z11_6_0,z11_6_1,z11_6_2,-⟩,⟨z11_7_0,z11_7_1,z11_7_2,-⟩,⟨z11_8_0,z11_8_1,z11_8_2,-⟩,-⟩ := hS.cells
 replace H := hide ((unhide H).kept hb11)
 replace H' := hide ((unhide H').kept hb11)
 replace G1 := hide ((unhide G1).kept hb11)
 replace G2 := hide ((unhide G2).kept hb11)
 replace G3 := hide ((unhide G3).kept hb11)
 replace G4 := hide ((unhide G4).kept hb11)
 replace G5 := hide ((unhide G5).kept hb11)
 replace G6 := hide ((unhide G6).kept hb11)
 have G8 := hide f8
 clear f8
 obtain rfl := (unhide G8).zero.2 rfl
 clear G8
 have hltw11_0 : w10.heap.size < w11.heap.size := block_lt (hS.bx ⟨w10.heap.size,#[.bool false,.slice A7 0 C7,.int .i64 0],26⟩ (by simp))
 have hltw11_1 : w9.heap.size < w11.heap.size := block_lt (hS.bx ⟨w9.heap.size,#[.bool n2,.slice A6 N6 C6,.int .i64 x'],26⟩ (by simp))
 have hltw11_2 : w8.heap.size < w11.heap.size := block_lt (hS.bx ⟨w8.heap.size,#[.bool n1,.slice A5 N5 C5,.int .i64 x],26⟩ (by simp))
 have hltw11_3 : w7.heap.size < w11.heap.size := block_lt (hS.bx ⟨w7.heap.size,#[.bool q3,.slice A4 N4 C4,.int .i64 y3],26⟩ (by simp))
 have hltw11_4 : w6.heap.size < w11.heap.size := block_lt (hS.bx ⟨w6.heap.size,#[.bool q3,.slice A3 N3 C3,.int .i64 y3],26⟩ (by simp))
 have hltw11_5 : w5.heap.size < w11.heap.size := block_lt (hS.bx ⟨w5.heap.size,#[.bool q1,.slice A2 N2 C2,.int .i64 y1],26⟩ (by simp))
 have hltw11_6 : w4.heap.size < w11.heap.size := block_lt (hS.bx ⟨w4.heap.size,#[.bool q1,.slice A1 N1 C1,.int .i64 y1],26⟩ (by simp))
 have hltw11_7 : w.heap.size < w11.heap.size := block_lt (hS.bx ⟨w.heap.size,#[.bool s,.slice a n cap,.int .i64 x],26⟩ (by simp))
 have hltw11_8 : w.heap.size + 1 < w11.heap.size := block_lt (hS.bx ⟨w.heap.size + 1,#[.bool s',.slice a' n' cap',.int .i64 x'],26⟩ (by simp))
 replace hS := hS.alloc #[.bool false,.slice A8 0 C8,.int .i64 y8] 26
 replace H := hide ((unhide H).alloc (.cells #[.bool false,.slice A8 0 C8,.int .i64 y8] 26))
 replace H' := hide ((unhide H').alloc (.cells #[.bool false,.slice A8 0 C8,.int .i64 y8] 26))
 replace G1 := hide ((unhide G1).alloc (.cells #[.bool false,.slice A8 0 C8,.int .i64 y8] 26))
 replace G2 := hide ((unhide G2).alloc (.cells #[.bool false,.slice A8 0 C8,.int .i64 y8] 26))
 replace G3 := hide ((unhide G3).alloc (.cells #[.bool false,.slice A8 0 C8,.int .i64 y8] 26))
 replace G4 := hide ((unhide G4).alloc (.cells #[.bool false,.slice A8 0 C8,.int .i64 y8] 26))
 replace G5 := hide ((unhide G5).alloc (.cells #[.bool false,.slice A8 0 C8,.int .i64 y8] 26))
 replace G6 := hide ((unhide G6).alloc (.cells #[.bool false,.slice A8 0 C8,.int .i64 y8] 26))
 go_wp2_with fail
 refine (unhide hc _ a n cap a' n' cap' (unhide H) (unhide H')).mono ?_
 rintro e w12 ⟨rfl,hb12⟩
 replace hS := hS.kept hb12
 clear z11_0_0 z11_0_1 z11_0_2 z11_1_0 z11_1_1 z11_1_2 z11_2_0 z11_2_1 z11_2_2 z11_3_0 z11_3_1 z11_3_2 z11_4_0 z11_4_1 z11_4_2 z11_5_0 z11_5_1 z11_5_2 z11_6_0 z11_6_1 z11_6_2 z11_7_0 z11_7_1 z11_7_2 z11_8_0 z11_8_1 z11_8_2
 obtain ⟨⟨z12_0_0,z12_0_1,z12_0_2,-⟩,⟨z12_1_0,z12_1_1,z12_1_2,-⟩,⟨z12_2_0,z12_2_1,z12_2_2,-⟩,⟨z12_3_0,z12_3_1,z12_3_2,-⟩,⟨z12_4_0,z12_4_1,z12_4_2,-⟩,⟨z12_5_0,z12_5_1,z12_5_2,-⟩,⟨z12_6_0,z12_6_1,z12_6_2,-⟩,⟨z12_7_0,z12_7_1,z12_7_2,-⟩,⟨z12_8_0,z12_8_1,z12_8_2,-⟩,⟨z12_9_0,z12_9_1,z12_9_2,-⟩,-⟩ := hS.cells
 replace H := hide ((unhide H).kept hb12)
 replace H' := hide ((unhide H').kept hb12)
 replace G1 := hide ((unhide G1).kept hb12)
 replace G2 := hide ((unhide G2).kept hb12)
 replace G3 := hide ((unhide G3).kept hb12)
 replace G4 := hide ((unhide G4).kept hb12)
 replace G5 := hide ((unhide G5).kept hb12)
 replace G6 := hide ((unhide G6).kept hb12)
 go_wp2_with fail
 refine (dsame_any q1 A1 N1 C1 v1 A2 N2 C2 y1 _ (unhide G1) (unhide G2)).mono ?_
 rintro e w13 ⟨rfl,hb13⟩
 replace hS := hS.kept hb13
 clear z12_0_0 z12_0_1 z12_0_2 z12_1_0 z12_1_1 z12_1_2 z12_2_0 z12_2_1 z12_2_2 z12_3_0 z12_3_1 z12_3_2 z12_4_0 z12_4_1 z12_4_2 z12_5_0 z12_5_1 z12_5_2 z12_6_0 z12_6_1 z12_6_2 z12_7_0 z12_7_1 z12_7_2 z12_8_0 z12_8_1 z12_8_2 z12_9_0 z12_9_1 z12_9_2
 obtain ⟨⟨z13_0_0,z13_0_1,z13_0_2,-⟩,⟨z13_1_0,z13_1_1,z13_1_2,-⟩,⟨z13_2_0,z13_2_1,z13_2_2,-⟩,⟨z13_3_0,z13_3_1,z13_3_2,-⟩,⟨z13_4_0,z13_4_1,z13_4_2,-⟩,⟨z13_5_0,z13_5_1,z13_5_2,-⟩,⟨z13_6_0,z13_6_1,z13_6_2,-⟩,⟨z13_7_0,z13_7_1,z13_7_2,-⟩,⟨z13_8_0,z13_8_1,z13_8_2,-⟩,⟨z13_9_0,z13_9_1,z13_9_2,-⟩,-⟩ := hS.cells
 replace H := hide ((unhide H).kept hb13)
 replace H' := hide ((unhide H').kept hb13)
 replace G1 := hide ((unhide G1).kept hb13)
 replace G2 := hide ((unhide G2).kept hb13)
 replace G3 := hide ((unhide G3).kept hb13)
 replace G4 := hide ((unhide G4).kept hb13)
 replace G5 := hide ((unhide G5).kept hb13)
 replace G6 := hide ((unhide G6).kept hb13)
 go_wp2_with fail
 refine (dsame_any q3 A3 N3 C3 v3 A4 N4 C4 y3 _ (unhide G3) (unhide G4)).mono ?_
 rintro e w14 ⟨rfl,hb14⟩
 replace hS := hS.kept hb14
 clear z13_0_0 z13_0_1 z13_0_2 z13_1_0 z13_1_1 z13_1_2 z13_2_0 z13_2_1 z13_2_2 z13_3_0 z13_3_1 z13_3_2 z13_4_0 z13_4_1 z13_4_2 z13_5_0 z13_5_1 z13_5_2 z13_6_0 z13_6_1 z13_6_2 z13_7_0 z13_7_1 z13_7_2 z13_8_0 z13_8_1 z13_8_2 z13_9_0 z13_9_1 z13_9_2
 obtain ⟨⟨z14_0_0,z14_0_1,z14_0_2,-⟩,⟨z14_1_0,z14_1_1,z14_1_2,-⟩,⟨z14_2_0,z14_2_1,z14_2_2,-⟩,⟨z14_3_0,z14_3_1,z14_3_2,-⟩,⟨z14_4_0,z14_4_1,z14_4_2,-⟩,⟨z14_5_0,z14_5_1,z14_5_2,-⟩,⟨z14_6_0,z14_6_1,z14_6_2,-⟩,⟨z14_7_0,z14_7_1,z14_7_2,-⟩,⟨z14_8_0,z14_8_1,z14_8_2,-⟩,⟨z14_9_0,z14_9_1,z14_9_2,-⟩,-⟩ := hS.cells
 replace H := hide ((unhide H).kept hb14)
 replace H' := hide ((unhide H').kept hb14)
 replace G1 := hide ((unhide G1).kept hb14)
 replace G2 := hide ((unhide G2).kept hb14)
 replace G3 := hide ((unhide G3).kept hb14)
 replace G4 := hide ((unhide G4).kept hb14)
 replace G5 := hide ((unhide G5).kept hb14)
 replace G6 := hide ((unhide G6).kept hb14)
 go_wp2
 go_ret
 exact ⟨rfl,hS.fr⟩
set_option maxRecDepth 20000 in
set_option maxHeartbeats 16000000 in
theorem ring_neg (s : Bool) (a : Option Addr) (n cap m : Nat) (x : Int) (s' : Bool) (a' : Option Addr) (n' cap' m' : Nat) (x' : Int) (e1 e3 y1 y3 y8 : Int) (q1 q3 n1 n2 : Bool) (v1 v3 v8 : Nat) (w : World) (hT : Tb w) (h : Num w a n m) (h' : Num w a' n' m') (hca : Hid (∀ (W : World) (A : Option Addr) (N C : Nat),Num W A N m → Calls Tryd.prog 21 #[.agg #[.bool s,.slice A N C,.int .i64 x]] W fun e w' => e = .returned (.int .i64 0) ∧ Below W.heap.size W w')) (hcb : Hid (∀ (W : World) (A : Option Addr) (N C : Nat),Num W A N m' → Calls Tryd.prog 21 #[.agg #[.bool s',.slice A N C,.int .i64 x']] W fun e w' => e = .returned (.int .i64 0) ∧ Below W.heap.size W w')) (hs1 : Hid (∀ (W : World) (A : Option Addr) (N C : Nat) (A' : Option Addr) (N' C' : Nat),Num W A N m → Num W A' N' m' → Tb W → Calls Tryd.prog 15 #[.agg #[.bool s,.slice A N C,.int .i64 x],.agg #[.bool s',.slice A' N' C',.int .i64 x']] W fun e w' => (∃ A N C,e = .returned (.tuple #[.agg #[.bool q1,.slice A N C,.int .i64 y1],.int .i64 e1]) ∧ Num w' A N v1) ∧ Below W.heap.size W w')) (hs2 : Hid (∀ (W : World) (A : Option Addr) (N C : Nat) (A' : Option Addr) (N' C' : Nat),Num W A N m' → Num W A' N' m → Tb W → Calls Tryd.prog 15 #[.agg #[.bool s',.slice A N C,.int .i64 x'],.agg #[.bool s,.slice A' N' C',.int .i64 x]] W fun e w' => (∃ A N C,e = .returned (.tuple #[.agg #[.bool q1,.slice A N C,.int .i64 y1],.int .i64 e1]) ∧ Num w' A N v1) ∧ Below W.heap.size W w')) (hp1 : Hid (∀ (W : World) (A : Option Addr) (N C : Nat) (A' : Option Addr) (N' C' : Nat),Num W A N m → Num W A' N' m' → Calls Tryd.prog 44 #[.agg #[.bool s,.slice A N C,.int .i64 x],.agg #[.bool s',.slice A' N' C',.int .i64 x']] W fun e w' => (∃ A N C,e = .returned (.tuple #[.agg #[.bool q3,.slice A N C,.int .i64 y3],.int .i64 e3]) ∧ Num w' A N v3) ∧ Below W.heap.size W w')) (hp2 : Hid (∀ (W : World) (A : Option Addr) (N C : Nat) (A' : Option Addr) (N' C' : Nat),Num W A N m' → Num W A' N' m → Calls Tryd.prog 44 #[.agg #[.bool s',.slice A N C,.int .i64 x'],.agg #[.bool s,.slice A' N' C',.int .i64 x]] W fun e w' => (∃ A N C,e = .returned (.tuple #[.agg #[.bool q3,.slice A N C,.int .i64 y3],.int .i64 e3]) ∧ Num w' A N v3) ∧ Below W.heap.size W w')) (hn1 : Hid (∀ (W : World) (A : Option Addr) (N C : Nat),Num W A N m → Calls Tryd.prog 30 #[.agg #[.bool s,.slice A N C,.int .i64 x]] W fun e w' => (∃ A N C,e = .returned (.tuple #[.agg #[.bool n1,.slice A N C,.int .i64 x],.int .i64 0]) ∧ Num w' A N m) ∧ Below W.heap.size W w')) (hn2 : Hid (∀ (W : World) (A : Option Addr) (N C : Nat),Num W A N m' → Calls Tryd.prog 30 #[.agg #[.bool s',.slice A N C,.int .i64 x']] W fun e w' => (∃ A N C,e = .returned (.tuple #[.agg #[.bool n2,.slice A N C,.int .i64 x'],.int .i64 0]) ∧ Num w' A N m') ∧ Below W.heap.size W w')) (hz : Hid (∀ (W : World) (A : Option Addr) (N C : Nat) (A' : Option Addr) (N' C' : Nat),Num W A N m → Num W A' N' m → Tb W → Calls Tryd.prog 15 #[.agg #[.bool s,.slice A N C,.int .i64 x],.agg #[.bool n1,.slice A' N' C',.int .i64 x]] W fun e w' => (∃ A N C,e = .returned (.tuple #[.agg #[.bool false,.slice A N C,.int .i64 0],.int .i64 0]) ∧ Num w' A N 0) ∧ Below W.heap.size W w')) (hd : Hid (∀ (W : World) (A : Option Addr) (N C : Nat) (A' : Option Addr) (N' C' : Nat),Num W A N m → Num W A' N' m' → Tb W → Calls Tryd.prog 15 #[.agg #[.bool s,.slice A N C,.int .i64 x],.agg #[.bool n2,.slice A' N' C',.int .i64 x']] W fun e w' => (∃ A N C,e = .returned (.tuple #[.agg #[.bool true,.slice A N C,.int .i64 y8],.int .i64 0]) ∧ Num w' A N v8) ∧ Below W.heap.size W w')) (hc : Hid (∀ (W : World) (A : Option Addr) (N C : Nat) (A' : Option Addr) (N' C' : Nat),Num W A N m → Num W A' N' m' → Calls Tryd.prog 17 #[.agg #[.bool s,.slice A N C,.int .i64 x],.agg #[.bool s',.slice A' N' C',.int .i64 x']] W fun e w' => e = .returned (.tuple #[.int .i64 (-1),.int .i64 0]) ∧ Below W.heap.size W w')) (hv8 : 0 < v8) :
  Calls Tryd.prog 9 #[.agg #[.bool s,.slice a n cap,.int .i64 x],.agg #[.bool s',.slice a' n' cap',.int .i64 x']] w fun e w' => e = .returned (.bool true) ∧ Below w.heap.size w w' := by
 have HT := hide hT
 have H := hide h
 have H' := hide h'
 clear hT h h'
 go_enter Tryd.func9,Tryd.ntmps9
 go_wp2_with fail
 refine (alive_any _ (((unhide HT).alloc _).alloc _)).mono ?_
 rintro e w1 ⟨rfl,hb1⟩
 have hS := (Fs.two w _ _ _ _).kept hb1
 obtain ⟨⟨z1_0_0,z1_0_1,z1_0_2,-⟩,⟨z1_1_0,z1_1_1,z1_1_2,-⟩,-⟩ := hS.cells
 replace H := hide ((unhide H).kept hS.fr)
 replace H' := hide ((unhide H').kept hS.fr)
 go_wp2_with fail
 refine (unhide hca _ a n cap (unhide H)).mono ?_
 rintro e w2 ⟨rfl,hb2⟩
 replace hS := hS.kept hb2
 clear z1_0_0 z1_0_1 z1_0_2 z1_1_0 z1_1_1 z1_1_2
 obtain ⟨⟨z2_0_0,z2_0_1,z2_0_2,-⟩,⟨z2_1_0,z2_1_1,z2_1_2,-⟩,-⟩ := hS.cells
 replace H := hide ((unhide H).kept hb2)
 replace H' := hide ((unhide H').kept hb2)
 go_wp2_with fail
 refine (unhide hcb _ a' n' cap' (unhide H')).mono ?_
 rintro e w3 ⟨rfl,hb3⟩
 replace hS := hS.kept hb3
 clear z2_0_0 z2_0_1 z2_0_2 z2_1_0 z2_1_1 z2_1_2
 obtain ⟨⟨z3_0_0,z3_0_1,z3_0_2,-⟩,⟨z3_1_0,z3_1_1,z3_1_2,-⟩,-⟩ := hS.cells
 replace H := hide ((unhide H).kept hb3)
 replace H' := hide ((unhide H').kept hb3)
 go_wp2_with fail
 refine (unhide hs1 _ a n cap a' n' cap' (unhide H) (unhide H') ((unhide HT).kept hS.fr)).mono ?_
 rintro e w4 ⟨⟨A1,N1,C1,rfl,f1⟩,hb4⟩
 replace hS := hS.kept hb4
 clear z3_0_0 z3_0_1 z3_0_2 z3_1_0 z3_1_1 z3_1_2
 obtain ⟨⟨z4_0_0,z4_0_1,z4_0_2,-⟩,⟨z4_1_0,z4_1_1,z4_1_2,-⟩,-⟩ := hS.cells
 replace H := hide ((unhide H).kept hb4)
 replace H' := hide ((unhide H').kept hb4)
 have G1 := hide f1
 clear f1
 have hltw4_0 : w.heap.size < w4.heap.size := block_lt (hS.bx ⟨w.heap.size,#[.bool s,.slice a n cap,.int .i64 x],26⟩ (by simp))
 have hltw4_1 : w.heap.size + 1 < w4.heap.size := block_lt (hS.bx ⟨w.heap.size + 1,#[.bool s',.slice a' n' cap',.int .i64 x'],26⟩ (by simp))
 replace hS := hS.alloc #[.bool q1,.slice A1 N1 C1,.int .i64 y1] 26
 replace H := hide ((unhide H).alloc (.cells #[.bool q1,.slice A1 N1 C1,.int .i64 y1] 26))
 replace H' := hide ((unhide H').alloc (.cells #[.bool q1,.slice A1 N1 C1,.int .i64 y1] 26))
 replace G1 := hide ((unhide G1).alloc (.cells #[.bool q1,.slice A1 N1 C1,.int .i64 y1] 26))
 go_wp2_with fail
 refine (unhide hs2 _ a' n' cap' a n cap (unhide H') (unhide H) ((unhide HT).kept hS.fr)).mono ?_
 rintro e w5 ⟨⟨A2,N2,C2,rfl,f2⟩,hb5⟩
 replace hS := hS.kept hb5
 clear z4_0_0 z4_0_1 z4_0_2 z4_1_0 z4_1_1 z4_1_2
 obtain ⟨⟨z5_0_0,z5_0_1,z5_0_2,-⟩,⟨z5_1_0,z5_1_1,z5_1_2,-⟩,⟨z5_2_0,z5_2_1,z5_2_2,-⟩,-⟩ := hS.cells
 replace H := hide ((unhide H).kept hb5)
 replace H' := hide ((unhide H').kept hb5)
 replace G1 := hide ((unhide G1).kept hb5)
 have G2 := hide f2
 clear f2
 have hltw5_0 : w4.heap.size < w5.heap.size := block_lt (hS.bx ⟨w4.heap.size,#[.bool q1,.slice A1 N1 C1,.int .i64 y1],26⟩ (by simp))
 have hltw5_1 : w.heap.size < w5.heap.size := block_lt (hS.bx ⟨w.heap.size,#[.bool s,.slice a n cap,.int .i64 x],26⟩ (by simp))
 have hltw5_2 : w.heap.size + 1 < w5.heap.size := block_lt (hS.bx ⟨w.heap.size + 1,#[.bool s',.slice a' n' cap',.int .i64 x'],26⟩ (by simp))
 replace hS := hS.alloc #[.bool q1,.slice A2 N2 C2,.int .i64 y1] 26
 replace H := hide ((unhide H).alloc (.cells #[.bool q1,.slice A2 N2 C2,.int .i64 y1] 26))
 replace H' := hide ((unhide H').alloc (.cells #[.bool q1,.slice A2 N2 C2,.int .i64 y1] 26))
 replace G1 := hide ((unhide G1).alloc (.cells #[.bool q1,.slice A2 N2 C2,.int .i64 y1] 26))
 replace G2 := hide ((unhide G2).alloc (.cells #[.bool q1,.slice A2 N2 C2,.int .i64 y1] 26))
 go_wp2_with fail
 refine (unhide hp1 _ a n cap a' n' cap' (unhide H) (unhide H')).mono ?_
 rintro e w6 ⟨⟨A3,N3,C3,rfl,f3⟩,hb6⟩
 replace hS := hS.kept hb6
 clear z5_0_0 z5_0_1 z5_0_2 z5_1_0 z5_1_1 z5_1_2 z5_2_0 z5_2_1 z5_2_2
 obtain ⟨⟨z6_0_0,z6_0_1,z6_0_2,-⟩,⟨z6_1_0,z6_1_1,z6_1_2,-⟩,⟨z6_2_0,z6_2_1,z6_2_2,-⟩,⟨z6_3_0,z6_3_1,z6_3_2,-⟩,-⟩ := hS.cells
 replace H := hide ((unhide H).kept hb6)
 replace H' := hide ((unhide H').kept hb6)
 replace G1 := hide ((unhide G1).kept hb6)
 replace G2 := hide ((unhide G2).kept hb6)
 have G3 := hide f3
 clear f3
 have hltw6_0 : w5.heap.size < w6.heap.size := block_lt (hS.bx ⟨w5.heap.size,#[.bool q1,.slice A2 N2 C2,.int .i64 y1],26⟩ (by simp))
 have hltw6_1 : w4.heap.size < w6.heap.size := block_lt (hS.bx ⟨w4.heap.size,#[.bool q1,.slice A1 N1 C1,.int .i64 y1],26⟩ (by simp))
 have hltw6_2 : w.heap.size < w6.heap.size := block_lt (hS.bx ⟨w.heap.size,#[.bool s,.slice a n cap,.int .i64 x],26⟩ (by simp))
 have hltw6_3 : w.heap.size + 1 < w6.heap.size := block_lt (hS.bx ⟨w.heap.size + 1,#[.bool s',.slice a' n' cap',.int .i64 x'],26⟩ (by simp))
 replace hS := hS.alloc #[.bool q3,.slice A3 N3 C3,.int .i64 y3] 26
 replace H := hide ((unhide H).alloc (.cells #[.bool q3,.slice A3 N3 C3,.int .i64 y3] 26))
 replace H' := hide ((unhide H').alloc (.cells #[.bool q3,.slice A3 N3 C3,.int .i64 y3] 26))
 replace G1 := hide ((unhide G1).alloc (.cells #[.bool q3,.slice A3 N3 C3,.int .i64 y3] 26))
 replace G2 := hide ((unhide G2).alloc (.cells #[.bool q3,.slice A3 N3 C3,.int .i64 y3] 26))
 replace G3 := hide ((unhide G3).alloc (.cells #[.bool q3,.slice A3 N3 C3,.int .i64 y3] 26))
 go_wp2_with fail
 refine (unhide hp2 _ a' n' cap' a n cap (unhide H') (unhide H)).mono ?_
 rintro e w7 ⟨⟨A4,N4,C4,rfl,f4⟩,hb7⟩
 replace hS := hS.kept hb7
 clear z6_0_0 z6_0_1 z6_0_2 z6_1_0 z6_1_1 z6_1_2 z6_2_0 z6_2_1 z6_2_2 z6_3_0 z6_3_1 z6_3_2
 obtain ⟨⟨z7_0_0,z7_0_1,z7_0_2,-⟩,⟨z7_1_0,z7_1_1,z7_1_2,-⟩,⟨z7_2_0,z7_2_1,z7_2_2,-⟩,⟨z7_3_0,z7_3_1,z7_3_2,-⟩,⟨z7_4_0,z7_4_1,z7_4_2,-⟩,-⟩ := hS.cells
 replace H := hide ((unhide H).kept hb7)
 replace H' := hide ((unhide H').kept hb7)
 replace G1 := hide ((unhide G1).kept hb7)
 replace G2 := hide ((unhide G2).kept hb7)
 replace G3 := hide ((unhide G3).kept hb7)
 have G4 := hide f4
 clear f4
 have hltw7_0 : w6.heap.size < w7.heap.size := block_lt (hS.bx ⟨w6.heap.size,#[.bool q3,.slice A3 N3 C3,.int .i64 y3],26⟩ (by simp))
 have hltw7_1 : w5.heap.size < w7.heap.size := block_lt (hS.bx ⟨w5.heap.size,#[.bool q1,.slice A2 N2 C2,.int .i64 y1],26⟩ (by simp))
 have hltw7_2 : w4.heap.size < w7.heap.size := block_lt (hS.bx ⟨w4.heap.size,#[.bool q1,.slice A1 N1 C1,.int .i64 y1],26⟩ (by simp))
 have hltw7_3 : w.heap.size < w7.heap.size := block_lt (hS.bx ⟨w.heap.size,#[.bool s,.slice a n cap,.int .i64 x],26⟩ (by simp))
 have hltw7_4 : w.heap.size + 1 < w7.heap.size := block_lt (hS.bx ⟨w.heap.size + 1,#[.bool s',.slice a' n' cap',.int .i64 x'],26⟩ (by simp))
 replace hS := hS.alloc #[.bool q3,.slice A4 N4 C4,.int .i64 y3] 26
 replace H := hide ((unhide H).alloc (.cells #[.bool q3,.slice A4 N4 C4,.int .i64 y3] 26))
 replace H' := hide ((unhide H').alloc (.cells #[.bool q3,.slice A4 N4 C4,.int .i64 y3] 26))
 replace G1 := hide ((unhide G1).alloc (.cells #[.bool q3,.slice A4 N4 C4,.int .i64 y3] 26))
 replace G2 := hide ((unhide G2).alloc (.cells #[.bool q3,.slice A4 N4 C4,.int .i64 y3] 26))
 replace G3 := hide ((unhide G3).alloc (.cells #[.bool q3,.slice A4 N4 C4,.int .i64 y3] 26))
 replace G4 := hide ((unhide G4).alloc (.cells #[.bool q3,.slice A4 N4 C4,.int .i64 y3] 26))
 go_wp2_with fail
 refine (unhide hn1 _ a n cap (unhide H)).mono ?_
 rintro e w8 ⟨⟨A5,N5,C5,rfl,f5⟩,hb8⟩
 replace hS := hS.kept hb8
 clear z7_0_0 z7_0_1 z7_0_2 z7_1_0 z7_1_1 z7_1_2 z7_2_0 z7_2_1 z7_2_2 z7_3_0 z7_3_1 z7_3_2 z7_4_0 z7_4_1 z7_4_2
 obtain ⟨⟨z8_0_0,z8_0_1,z8_0_2,-⟩,⟨z8_1_0,z8_1_1,z8_1_2,-⟩,⟨z8_2_0,z8_2_1,z8_2_2,-⟩,⟨z8_3_0,z8_3_1,z8_3_2,-⟩,⟨z8_4_0,z8_4_1,z8_4_2,-⟩,⟨z8_5_0,z8_5_1,z8_5_2,-⟩,-⟩ := hS.cells
 replace H := hide ((unhide H).kept hb8)
 replace H' := hide ((unhide H').kept hb8)
 replace G1 := hide ((unhide G1).kept hb8)
 replace G2 := hide ((unhide G2).kept hb8)
 replace G3 := hide ((unhide G3).kept hb8)
 replace G4 := hide ((unhide G4).kept hb8)
 have G5 := hide f5
 clear f5
 have hltw8_0 : w7.heap.size < w8.heap.size := block_lt (hS.bx ⟨w7.heap.size,#[.bool q3,.slice A4 N4 C4,.int .i64 y3],26⟩ (by simp))
 have hltw8_1 : w6.heap.size < w8.heap.size := block_lt (hS.bx ⟨w6.heap.size,#[.bool q3,.slice A3 N3 C3,.int .i64 y3],26⟩ (by simp))
 have hltw8_2 : w5.heap.size < w8.heap.size := block_lt (hS.bx ⟨w5.heap.size,#[.bool q1,.slice A2 N2 C2,.int .i64 y1],26⟩ (by simp))
 have hltw8_3 : w4.heap.size < w8.heap.size := block_lt (hS.bx ⟨w4.heap.size,#[.bool q1,.slice A1 N1 C1,.int .i64 y1],26⟩ (by simp))
 have hltw8_4 : w.heap.size < w8.heap.size := block_lt (hS.bx ⟨w.heap.size,#[.bool s,.slice a n cap,.int .i64 x],26⟩ (by simp))
 have hltw8_5 : w.heap.size + 1 < w8.heap.size := block_lt (hS.bx ⟨w.heap.size + 1,#[.bool s',.slice a' n' cap',.int .i64 x'],26⟩ (by simp))
 replace hS := hS.alloc #[.bool n1,.slice A5 N5 C5,.int .i64 x] 26
 replace H := hide ((unhide H).alloc (.cells #[.bool n1,.slice A5 N5 C5,.int .i64 x] 26))
 replace H' := hide ((unhide H').alloc (.cells #[.bool n1,.slice A5 N5 C5,.int .i64 x] 26))
 replace G1 := hide ((unhide G1).alloc (.cells #[.bool n1,.slice A5 N5 C5,.int .i64 x] 26))
 replace G2 := hide ((unhide G2).alloc (.cells #[.bool n1,.slice A5 N5 C5,.int .i64 x] 26))
 replace G3 := hide ((unhide G3).alloc (.cells #[.bool n1,.slice A5 N5 C5,.int .i64 x] 26))
 replace G4 := hide ((unhide G4).alloc (.cells #[.bool n1,.slice A5 N5 C5,.int .i64 x] 26))
 replace G5 := hide ((unhide G5).alloc (.cells #[.bool n1,.slice A5 N5 C5,.int .i64 x] 26))
 go_wp2_with fail
 refine (unhide hn2 _ a' n' cap' (unhide H')).mono ?_
 rintro e w9 ⟨⟨A6,N6,C6,rfl,f6⟩,hb9⟩
 replace hS := hS.kept hb9
 clear z8_0_0 z8_0_1 z8_0_2 z8_1_0 z8_1_1 z8_1_2 z8_2_0 z8_2_1 z8_2_2 z8_3_0 z8_3_1 z8_3_2 z8_4_0 z8_4_1 z8_4_2 z8_5_0 z8_5_1 z8_5_2
 obtain ⟨⟨z9_0_0,z9_0_1,z9_0_2,-⟩,⟨z9_1_0,z9_1_1,z9_1_2,-⟩,⟨z9_2_0,z9_2_1,z9_2_2,-⟩,⟨z9_3_0,z9_3_1,z9_3_2,-⟩,⟨z9_4_0,z9_4_1,z9_4_2,-⟩,⟨z9_5_0,z9_5_1,z9_5_2,-⟩,⟨z9_6_0,z9_6_1,z9_6_2,-⟩,-⟩ := hS.cells
 replace H := hide ((unhide H).kept hb9)
 replace H' := hide ((unhide H').kept hb9)
 replace G1 := hide ((unhide G1).kept hb9)
 replace G2 := hide ((unhide G2).kept hb9)
 replace G3 := hide ((unhide G3).kept hb9)
 replace G4 := hide ((unhide G4).kept hb9)
 replace G5 := hide ((unhide G5).kept hb9)
 have G6 := hide f6
 clear f6
 have hltw9_0 : w8.heap.size < w9.heap.size := block_lt (hS.bx ⟨w8.heap.size,#[.bool n1,.slice A5 N5 C5,.int .i64 x],26⟩ (by simp))
 have hltw9_1 : w7.heap.size < w9.heap.size := block_lt (hS.bx ⟨w7.heap.size,#[.bool q3,.slice A4 N4 C4,.int .i64 y3],26⟩ (by simp))
 have hltw9_2 : w6.heap.size < w9.heap.size := block_lt (hS.bx ⟨w6.heap.size,#[.bool q3,.slice A3 N3 C3,.int .i64 y3],26⟩ (by simp))
 have hltw9_3 : w5.heap.size < w9.heap.size := block_lt (hS.bx ⟨w5.heap.size,#[.bool q1,.slice A2 N2 C2,.int .i64 y1],26⟩ (by simp))
 have hltw9_4 : w4.heap.size < w9.heap.size := block_lt (hS.bx ⟨w4.heap.size,#[.bool q1,.slice A1 N1 C1,.int .i64 y1],26⟩ (by simp))
 have hltw9_5 : w.heap.size < w9.heap.size := block_lt (hS.bx ⟨w.heap.size,#[.bool s,.slice a n cap,.int .i64 x],26⟩ (by simp))
 have hltw9_6 : w.heap.size + 1 < w9.heap.size := block_lt (hS.bx ⟨w.heap.size + 1,#[.bool s',.slice a' n' cap',.int .i64 x'],26⟩ (by simp))
 replace hS := hS.alloc #[.bool n2,.slice A6 N6 C6,.int .i64 x'] 26
 replace H := hide ((unhide H).alloc (.cells #[.bool n2,.slice A6 N6 C6,.int .i64 x'] 26))
 replace H' := hide ((unhide H').alloc (.cells #[.bool n2,.slice A6 N6 C6,.int .i64 x'] 26))
 replace G1 := hide ((unhide G1).alloc (.cells #[.bool n2,.slice A6 N6 C6,.int .i64 x'] 26))
 replace G2 := hide ((unhide G2).alloc (.cells #[.bool n2,.slice A6 N6 C6,.int .i64 x'] 26))
 replace G3 := hide ((unhide G3).alloc (.cells #[.bool n2,.slice A6 N6 C6,.int .i64 x'] 26))
 replace G4 := hide ((unhide G4).alloc (.cells #[.bool n2,.slice A6 N6 C6,.int .i64 x'] 26))
 replace G5 := hide ((unhide G5).alloc (.cells #[.bool n2,.slice A6 N6 C6,.int .i64 x'] 26))
 replace G6 := hide ((unhide G6).alloc (.cells #[.bool n2,.slice A6 N6 C6,.int .i64 x'] 26))
 go_wp2_with fail
 refine (unhide hz _ a n cap A5 N5 C5 (unhide H) (unhide G5) ((unhide HT).kept hS.fr)).mono ?_
 rintro e w10 ⟨⟨A7,N7,C7,rfl,f7⟩,hb10⟩
 replace hS := hS.kept hb10
 clear z9_0_0 z9_0_1 z9_0_2 z9_1_0 z9_1_1 z9_1_2 z9_2_0 z9_2_1 z9_2_2 z9_3_0 z9_3_1 z9_3_2 z9_4_0 z9_4_1 z9_4_2 z9_5_0 z9_5_1 z9_5_2 z9_6_0 z9_6_1 z9_6_2
 obtain ⟨⟨z10_0_0,z10_0_1,z10_0_2,-⟩,⟨z10_1_0,z10_1_1,z10_1_2,-⟩,⟨z10_2_0,z10_2_1,z10_2_2,-⟩,⟨z10_3_0,z10_3_1,z10_3_2,-⟩,⟨z10_4_0,z10_4_1,z10_4_2,-⟩,⟨z10_5_0,z10_5_1,z10_5_2,-⟩,⟨z10_6_0,z10_6_1,z10_6_2,-⟩,⟨z10_7_0,z10_7_1,z10_7_2,-⟩,-⟩ := hS.cells
 replace H := hide ((unhide H).kept hb10)
 replace H' := hide ((unhide H').kept hb10)
 replace G1 := hide ((unhide G1).kept hb10)
 replace G2 := hide ((unhide G2).kept hb10)
 replace G3 := hide ((unhide G3).kept hb10)
 replace G4 := hide ((unhide G4).kept hb10)
 replace G5 := hide ((unhide G5).kept hb10)
 replace G6 := hide ((unhide G6).kept hb10)
 have G7 := hide f7
 clear f7
 obtain rfl := (unhide G7).zero.2 rfl
 clear G7
 have hltw10_0 : w9.heap.size < w10.heap.size := block_lt (hS.bx ⟨w9.heap.size,#[.bool n2,.slice A6 N6 C6,.int .i64 x'],26⟩ (by simp))
 have hltw10_1 : w8.heap.size < w10.heap.size := block_lt (hS.bx ⟨w8.heap.size,#[.bool n1,.slice A5 N5 C5,.int .i64 x],26⟩ (by simp))
 have hltw10_2 : w7.heap.size < w10.heap.size := block_lt (hS.bx ⟨w7.heap.size,#[.bool q3,.slice A4 N4 C4,.int .i64 y3],26⟩ (by simp))
 have hltw10_3 : w6.heap.size < w10.heap.size := block_lt (hS.bx ⟨w6.heap.size,#[.bool q3,.slice A3 N3 C3,.int .i64 y3],26⟩ (by simp))
 have hltw10_4 : w5.heap.size < w10.heap.size := block_lt (hS.bx ⟨w5.heap.size,#[.bool q1,.slice A2 N2 C2,.int .i64 y1],26⟩ (by simp))
 have hltw10_5 : w4.heap.size < w10.heap.size := block_lt (hS.bx ⟨w4.heap.size,#[.bool q1,.slice A1 N1 C1,.int .i64 y1],26⟩ (by simp))
 have hltw10_6 : w.heap.size < w10.heap.size := block_lt (hS.bx ⟨w.heap.size,#[.bool s,.slice a n cap,.int .i64 x],26⟩ (by simp))
 have hltw10_7 : w.heap.size + 1 < w10.heap.size := block_lt (hS.bx ⟨w.heap.size + 1,#[.bool s',.slice a' n' cap',.int .i64 x'],26⟩ (by simp))
 replace hS := hS.alloc #[.bool false,.slice A7 0 C7,.int .i64 0] 26
 replace H := hide ((unhide H).alloc (.cells #[.bool false,.slice A7 0 C7,.int .i64 0] 26))
 replace H' := hide ((unhide H').alloc (.cells #[.bool false,.slice A7 0 C7,.int .i64 0] 26))
 replace G1 := hide ((unhide G1).alloc (.cells #[.bool false,.slice A7 0 C7,.int .i64 0] 26))
 replace G2 := hide ((unhide G2).alloc (.cells #[.bool false,.slice A7 0 C7,.int .i64 0] 26))
 replace G3 := hide ((unhide G3).alloc (.cells #[.bool false,.slice A7 0 C7,.int .i64 0] 26))
 replace G4 := hide ((unhide G4).alloc (.cells #[.bool false,.slice A7 0 C7,.int .i64 0] 26))
 replace G5 := hide ((unhide G5).alloc (.cells #[.bool false,.slice A7 0 C7,.int .i64 0] 26))
 replace G6 := hide ((unhide G6).alloc (.cells #[.bool false,.slice A7 0 C7,.int .i64 0] 26))
 go_wp2_with fail
 refine (unhide hd _ a n cap A6 N6 C6 (unhide H) (unhide G6) ((unhide HT).kept hS.fr)).mono ?_
 rintro e w11 ⟨⟨A8,N8,C8,rfl,f8⟩,hb11⟩
 replace hS := hS.kept hb11
 clear z10_0_0 z10_0_1 z10_0_2 z10_1_0 z10_1_1 z10_1_2 z10_2_0 z10_2_1 z10_2_2 z10_3_0 z10_3_1 z10_3_2 z10_4_0 z10_4_1 z10_4_2 z10_5_0 z10_5_1 z10_5_2 z10_6_0 z10_6_1 z10_6_2 z10_7_0 z10_7_1 z10_7_2
 obtain ⟨⟨z11_0_0,z11_0_1,z11_0_2,-⟩,⟨z11_1_0,z11_1_1,z11_1_2,-⟩,⟨z11_2_0,z11_2_1,z11_2_2,-⟩,⟨z11_3_0,z11_3_1,z11_3_2,-⟩,⟨z11_4_0,z11_4_1,z11_4_2,-⟩,⟨z11_5_0,z11_5_1,z11_5_2,-⟩,⟨z11_6_0,z11_6_1,z11_6_2,-⟩,⟨z11_7_0,z11_7_1,z11_7_2,-⟩,⟨z11_8_0,z11_8_1,z11_8_2,-⟩,-⟩ := hS.cells
 replace H := hide ((unhide H).kept hb11)
 replace H' := hide ((unhide H').kept hb11)
 replace G1 := hide ((unhide G1).kept hb11)
 replace G2 := hide ((unhide G2).kept hb11)
 replace G3 := hide ((unhide G3).kept hb11)
 replace G4 := hide ((unhide G4).kept hb11)
 replace G5 := hide ((unhide G5).kept hb11)
 replace G6 := hide ((unhide G6).kept hb11)
 have G8 := hide f8
 clear f8
 have hn8 : 0 < N8 := by have := (unhide G8).zero; omega
 clear G8
 have hltw11_0 : w10.heap.size < w11.heap.size := block_lt (hS.bx ⟨w10.heap.size,#[.bool false,.slice A7 0 C7,.int .i64 0],26⟩ (by simp))
 have hltw11_1 : w9.heap.size < w11.heap.size := block_lt (hS.bx ⟨w9.heap.size,#[.bool n2,.slice A6 N6 C6,.int .i64 x'],26⟩ (by simp))
 have hltw11_2 : w8.heap.size < w11.heap.size := block_lt (hS.bx ⟨w8.heap.size,#[.bool n1,.slice A5 N5 C5,.int .i64 x],26⟩ (by simp))
 have hltw11_3 : w7.heap.size < w11.heap.size := block_lt (hS.bx ⟨w7.heap.size,#[.bool q3,.slice A4 N4 C4,.int .i64 y3],26⟩ (by simp))
 have hltw11_4 : w6.heap.size < w11.heap.size := block_lt (hS.bx ⟨w6.heap.size,#[.bool q3,.slice A3 N3 C3,.int .i64 y3],26⟩ (by simp))
 have hltw11_5 : w5.heap.size < w11.heap.size := block_lt (hS.bx ⟨w5.heap.size,#[.bool q1,.slice A2 N2 C2,.int .i64 y1],26⟩ (by simp))
 have hltw11_6 : w4.heap.size < w11.heap.size := block_lt (hS.bx ⟨w4.heap.size,#[.bool q1,.slice A1 N1 C1,.int .i64 y1],26⟩ (by simp))
 have hltw11_7 : w.heap.size < w11.heap.size := block_lt (hS.bx ⟨w.heap.size,#[.bool s,.slice a n cap,.int .i64 x],26⟩ (by simp))
 have hltw11_8 : w.heap.size + 1 < w11.heap.size := block_lt (hS.bx ⟨w.heap.size + 1,#[.bool s',.slice a' n' cap',.int .i64 x'],26⟩ (by simp))
 replace hS := hS.alloc #[.bool true,.slice A8 N8 C8,.int .i64 y8] 26
 replace H := hide ((unhide H).alloc (.cells #[.bool true,.slice A8 N8 C8,.int .i64 y8] 26))
 replace H' := hide ((unhide H').alloc (.cells #[.bool true,.slice A8 N8 C8,.int .i64 y8] 26))
 replace G1 := hide ((unhide G1).alloc (.cells #[.bool true,.slice A8 N8 C8,.int .i64 y8] 26))
 replace G2 := hide ((unhide G2).alloc (.cells #[.bool true,.slice A8 N8 C8,.int .i64 y8] 26))
 replace G3 := hide ((unhide G3).alloc (.cells #[.bool true,.slice A8 N8 C8,.int .i64 y8] 26))
 replace G4 := hide ((unhide G4).alloc (.cells #[.bool true,.slice A8 N8 C8,.int .i64 y8] 26))
 replace G5 := hide ((unhide G5).alloc (.cells #[.bool true,.slice A8 N8 C8,.int .i64 y8] 26))
 replace G6 := hide ((unhide G6).alloc (.cells #[.bool true,.slice A8 N8 C8,.int .i64 y8] 26))
 go_wp2_with fail
 refine (unhide hc _ a n cap a' n' cap' (unhide H) (unhide H')).mono ?_
 rintro e w12 ⟨rfl,hb12⟩
 replace hS := hS.kept hb12
 clear z11_0_0 z11_0_1 z11_0_2 z11_1_0 z11_1_1 z11_1_2 z11_2_0 z11_2_1 z11_2_2 z11_3_0 z11_3_1 z11_3_2 z11_4_0 z11_4_1 z11_4_2 z11_5_0 z11_5_1 z11_5_2 z11_6_0 z11_6_1 z11_6_2 z11_7_0 z11_7_1 z11_7_2 z11_8_0 z11_8_1 z11_8_2
 obtain ⟨⟨z12_0_0,z12_0_1,z12_0_2,-⟩,⟨z12_1_0,z12_1_1,z12_1_2,-⟩,⟨z12_2_0,z12_2_1,z12_2_2,-⟩,⟨z12_3_0,z12_3_1,z12_3_2,-⟩,⟨z12_4_0,z12_4_1,z12_4_2,-⟩,⟨z12_5_0,z12_5_1,z12_5_2,-⟩,⟨z12_6_0,z12_6_1,z12_6_2,-⟩,⟨z12_7_0,z12_7_1,z12_7_2,-⟩,⟨z12_8_0,z12_8_1,z12_8_2,-⟩,⟨z12_9_0,z12_9_1,z12_9_2,-⟩,-⟩ := hS.cells
 replace H := hide ((unhide H).kept hb12)
 replace H' := hide ((unhide H').kept hb12)
 replace G1 := hide ((unhide G1).kept hb12)
 replace G2 := hide ((unhide G2).kept hb12)
 replace G3 := hide ((unhide G3).kept hb12)
 replace G4 := hide ((unhide G4).kept hb12)
 replace G5 := hide ((unhide G5).kept hb12)
 replace G6 := hide ((unhide G6).kept hb12)
 go_wp2_with fail
 refine (dsame_any q1 A1 N1 C1 v1 A2 N2 C2 y1 _ (unhide G1) (unhide G2)).mono ?_
 rintro e w13 ⟨rfl,hb13⟩
 replace hS := hS.kept hb13
 clear z12_0_0 z12_0_1 z12_0_2 z12_1_0 z12_1_1 z12_1_2 z12_2_0 z12_2_1 z12_2_2 z12_3_0 z12_3_1 z12_3_2 z12_4_0 z12_4_1 z12_4_2 z12_5_0 z12_5_1 z12_5_2 z12_6_0 z12_6_1 z12_6_2 z12_7_0 z12_7_1 z12_7_2 z12_8_0 z12_8_1 z12_8_2 z12_9_0 z12_9_1 z12_9_2
 obtain ⟨⟨z13_0_0,z13_0_1,z13_0_2,-⟩,⟨z13_1_0,z13_1_1,z13_1_2,-⟩,⟨z13_2_0,z13_2_1,z13_2_2,-⟩,⟨z13_3_0,z13_3_1,z13_3_2,-⟩,⟨z13_4_0,z13_4_1,z13_4_2,-⟩,⟨z13_5_0,z13_5_1,z13_5_2,-⟩,⟨z13_6_0,z13_6_1,z13_6_2,-⟩,⟨z13_7_0,z13_7_1,z13_7_2,-⟩,⟨z13_8_0,z13_8_1,z13_8_2,-⟩,⟨z13_9_0,z13_9_1,z13_9_2,-⟩,-⟩ := hS.cells
 replace H := hide ((unhide H).kept hb13)
 replace H' := hide ((unhide H').kept hb13)
 replace G1 := hide ((unhide G1).kept hb13)
 replace G2 := hide ((unhide G2).kept hb13)
 replace G3 := hide ((unhide G3).kept hb13)
 replace G4 := hide ((unhide G4).kept hb13)
 replace G5 := hide ((unhide G5).kept hb13)
 replace G6 := hide ((unhide G6).kept hb13)
 go_wp2_with fail
 refine (dsame_any q3 A3 N3 C3 v3 A4 N4 C4 y3 _ (unhide G3) (unhide G4)).mono ?_
 rintro e w14 ⟨rfl,hb14⟩
 replace hS := hS.kept hb14
 clear z13_0_0 z13_0_1 z13_0_2 z13_1_0 z13_1_1 z13_1_2 z13_2_0 z13_2_1 z13_2_2 z13_3_0 z13_3_1 z13_3_2 z13_4_0 z13_4_1 z13_4_2 z13_5_0 z13_5_1 z13_5_2 z13_6_0 z13_6_1 z13_6_2 z13_7_0 z13_7_1 z13_7_2 z13_8_0 z13_8_1 z13_8_2 z13_9_0 z13_9_1 z13_9_2
 obtain ⟨⟨z14_0_0,z14_0_1,z14_0_2,-⟩,⟨z14_1_0,z14_1_1,z14_1_2,-⟩,⟨z14_2_0,z14_2_1,z14_2_2,-⟩,⟨z14_3_0,z14_3_1,z14_3_2,-⟩,⟨z14_4_0,z14_4_1,z14_4_2,-⟩,⟨z14_5_0,z14_5_1,z14_5_2,-⟩,⟨z14_6_0,z14_6_1,z14_6_2,-⟩,⟨z14_7_0,z14_7_1,z14_7_2,-⟩,⟨z14_8_0,z14_8_1,z14_8_2,-⟩,⟨z14_9_0,z14_9_1,z14_9_2,-⟩,-⟩ := hS.cells
 replace H := hide ((unhide H).kept hb14)
 replace H' := hide ((unhide H').kept hb14)
 replace G1 := hide ((unhide G1).kept hb14)
 replace G2 := hide ((unhide G2).kept hb14)
 replace G3 := hide ((unhide G3).kept hb14)
 replace G4 := hide ((unhide G4).kept hb14)
 replace G5 := hide ((unhide G5).kept hb14)
 replace G6 := hide ((unhide G6).kept hb14)
 go_wp2
 go_ret
 exact ⟨rfl,hS.fr⟩
set_option maxRecDepth 20000 in
set_option maxHeartbeats 16000000 in
theorem ring_pos (s : Bool) (a : Option Addr) (n cap m : Nat) (x : Int) (s' : Bool) (a' : Option Addr) (n' cap' m' : Nat) (x' : Int) (e1 e3 y1 y3 y8 : Int) (q1 q3 n1 n2 : Bool) (v1 v3 v8 : Nat) (w : World) (hT : Tb w) (h : Num w a n m) (h' : Num w a' n' m') (hca : Hid (∀ (W : World) (A : Option Addr) (N C : Nat),Num W A N m → Calls Tryd.prog 21 #[.agg #[.bool s,.slice A N C,.int .i64 x]] W fun e w' => e = .returned (.int .i64 0) ∧ Below W.heap.size W w')) (hcb : Hid (∀ (W : World) (A : Option Addr) (N C : Nat),Num W A N m' → Calls Tryd.prog 21 #[.agg #[.bool s',.slice A N C,.int .i64 x']] W fun e w' => e = .returned (.int .i64 0) ∧ Below W.heap.size W w')) (hs1 : Hid (∀ (W : World) (A : Option Addr) (N C : Nat) (A' : Option Addr) (N' C' : Nat),Num W A N m → Num W A' N' m' → Tb W → Calls Tryd.prog 15 #[.agg #[.bool s,.slice A N C,.int .i64 x],.agg #[.bool s',.slice A' N' C',.int .i64 x']] W fun e w' => (∃ A N C,e = .returned (.tuple #[.agg #[.bool q1,.slice A N C,.int .i64 y1],.int .i64 e1]) ∧ Num w' A N v1) ∧ Below W.heap.size W w')) (hs2 : Hid (∀ (W : World) (A : Option Addr) (N C : Nat) (A' : Option Addr) (N' C' : Nat),Num W A N m' → Num W A' N' m → Tb W → Calls Tryd.prog 15 #[.agg #[.bool s',.slice A N C,.int .i64 x'],.agg #[.bool s,.slice A' N' C',.int .i64 x]] W fun e w' => (∃ A N C,e = .returned (.tuple #[.agg #[.bool q1,.slice A N C,.int .i64 y1],.int .i64 e1]) ∧ Num w' A N v1) ∧ Below W.heap.size W w')) (hp1 : Hid (∀ (W : World) (A : Option Addr) (N C : Nat) (A' : Option Addr) (N' C' : Nat),Num W A N m → Num W A' N' m' → Calls Tryd.prog 44 #[.agg #[.bool s,.slice A N C,.int .i64 x],.agg #[.bool s',.slice A' N' C',.int .i64 x']] W fun e w' => (∃ A N C,e = .returned (.tuple #[.agg #[.bool q3,.slice A N C,.int .i64 y3],.int .i64 e3]) ∧ Num w' A N v3) ∧ Below W.heap.size W w')) (hp2 : Hid (∀ (W : World) (A : Option Addr) (N C : Nat) (A' : Option Addr) (N' C' : Nat),Num W A N m' → Num W A' N' m → Calls Tryd.prog 44 #[.agg #[.bool s',.slice A N C,.int .i64 x'],.agg #[.bool s,.slice A' N' C',.int .i64 x]] W fun e w' => (∃ A N C,e = .returned (.tuple #[.agg #[.bool q3,.slice A N C,.int .i64 y3],.int .i64 e3]) ∧ Num w' A N v3) ∧ Below W.heap.size W w')) (hn1 : Hid (∀ (W : World) (A : Option Addr) (N C : Nat),Num W A N m → Calls Tryd.prog 30 #[.agg #[.bool s,.slice A N C,.int .i64 x]] W fun e w' => (∃ A N C,e = .returned (.tuple #[.agg #[.bool n1,.slice A N C,.int .i64 x],.int .i64 0]) ∧ Num w' A N m) ∧ Below W.heap.size W w')) (hn2 : Hid (∀ (W : World) (A : Option Addr) (N C : Nat),Num W A N m' → Calls Tryd.prog 30 #[.agg #[.bool s',.slice A N C,.int .i64 x']] W fun e w' => (∃ A N C,e = .returned (.tuple #[.agg #[.bool n2,.slice A N C,.int .i64 x'],.int .i64 0]) ∧ Num w' A N m') ∧ Below W.heap.size W w')) (hz : Hid (∀ (W : World) (A : Option Addr) (N C : Nat) (A' : Option Addr) (N' C' : Nat),Num W A N m → Num W A' N' m → Tb W → Calls Tryd.prog 15 #[.agg #[.bool s,.slice A N C,.int .i64 x],.agg #[.bool n1,.slice A' N' C',.int .i64 x]] W fun e w' => (∃ A N C,e = .returned (.tuple #[.agg #[.bool false,.slice A N C,.int .i64 0],.int .i64 0]) ∧ Num w' A N 0) ∧ Below W.heap.size W w')) (hd : Hid (∀ (W : World) (A : Option Addr) (N C : Nat) (A' : Option Addr) (N' C' : Nat),Num W A N m → Num W A' N' m' → Tb W → Calls Tryd.prog 15 #[.agg #[.bool s,.slice A N C,.int .i64 x],.agg #[.bool n2,.slice A' N' C',.int .i64 x']] W fun e w' => (∃ A N C,e = .returned (.tuple #[.agg #[.bool false,.slice A N C,.int .i64 y8],.int .i64 0]) ∧ Num w' A N v8) ∧ Below W.heap.size W w')) (hc : Hid (∀ (W : World) (A : Option Addr) (N C : Nat) (A' : Option Addr) (N' C' : Nat),Num W A N m → Num W A' N' m' → Calls Tryd.prog 17 #[.agg #[.bool s,.slice A N C,.int .i64 x],.agg #[.bool s',.slice A' N' C',.int .i64 x']] W fun e w' => e = .returned (.tuple #[.int .i64 1,.int .i64 0]) ∧ Below W.heap.size W w')) (hv8 : 0 < v8) :
  Calls Tryd.prog 9 #[.agg #[.bool s,.slice a n cap,.int .i64 x],.agg #[.bool s',.slice a' n' cap',.int .i64 x']] w fun e w' => e = .returned (.bool true) ∧ Below w.heap.size w w' := by
 have HT := hide hT
 have H := hide h
 have H' := hide h'
 clear hT h h'
 go_enter Tryd.func9,Tryd.ntmps9
 go_wp2_with fail
 refine (alive_any _ (((unhide HT).alloc _).alloc _)).mono ?_
 rintro e w1 ⟨rfl,hb1⟩
 have hS := (Fs.two w _ _ _ _).kept hb1
 obtain ⟨⟨z1_0_0,z1_0_1,z1_0_2,-⟩,⟨z1_1_0,z1_1_1,z1_1_2,-⟩,-⟩ := hS.cells
 replace H := hide ((unhide H).kept hS.fr)
 replace H' := hide ((unhide H').kept hS.fr)
 go_wp2_with fail
 refine (unhide hca _ a n cap (unhide H)).mono ?_
 rintro e w2 ⟨rfl,hb2⟩
 replace hS := hS.kept hb2
 clear z1_0_0 z1_0_1 z1_0_2 z1_1_0 z1_1_1 z1_1_2
 obtain ⟨⟨z2_0_0,z2_0_1,z2_0_2,-⟩,⟨z2_1_0,z2_1_1,z2_1_2,-⟩,-⟩ := hS.cells
 replace H := hide ((unhide H).kept hb2)
 replace H' := hide ((unhide H').kept hb2)
 go_wp2_with fail
 refine (unhide hcb _ a' n' cap' (unhide H')).mono ?_
 rintro e w3 ⟨rfl,hb3⟩
 replace hS := hS.kept hb3
 clear z2_0_0 z2_0_1 z2_0_2 z2_1_0 z2_1_1 z2_1_2
 obtain ⟨⟨z3_0_0,z3_0_1,z3_0_2,-⟩,⟨z3_1_0,z3_1_1,z3_1_2,-⟩,-⟩ := hS.cells
 replace H := hide ((unhide H).kept hb3)
 replace H' := hide ((unhide H').kept hb3)
 go_wp2_with fail
 refine (unhide hs1 _ a n cap a' n' cap' (unhide H) (unhide H') ((unhide HT).kept hS.fr)).mono ?_
 rintro e w4 ⟨⟨A1,N1,C1,rfl,f1⟩,hb4⟩
 replace hS := hS.kept hb4
 clear z3_0_0 z3_0_1 z3_0_2 z3_1_0 z3_1_1 z3_1_2
 obtain ⟨⟨z4_0_0,z4_0_1,z4_0_2,-⟩,⟨z4_1_0,z4_1_1,z4_1_2,-⟩,-⟩ := hS.cells
 replace H := hide ((unhide H).kept hb4)
 replace H' := hide ((unhide H').kept hb4)
 have G1 := hide f1
 clear f1
 have hltw4_0 : w.heap.size < w4.heap.size := block_lt (hS.bx ⟨w.heap.size,#[.bool s,.slice a n cap,.int .i64 x],26⟩ (by simp))
 have hltw4_1 : w.heap.size + 1 < w4.heap.size := block_lt (hS.bx ⟨w.heap.size + 1,#[.bool s',.slice a' n' cap',.int .i64 x'],26⟩ (by simp))
 replace hS := hS.alloc #[.bool q1,.slice A1 N1 C1,.int .i64 y1] 26
 replace H := hide ((unhide H).alloc (.cells #[.bool q1,.slice A1 N1 C1,.int .i64 y1] 26))
 replace H' := hide ((unhide H').alloc (.cells #[.bool q1,.slice A1 N1 C1,.int .i64 y1] 26))
 replace G1 := hide ((unhide G1).alloc (.cells #[.bool q1,.slice A1 N1 C1,.int .i64 y1] 26))
 go_wp2_with fail
 refine (unhide hs2 _ a' n' cap' a n cap (unhide H') (unhide H) ((unhide HT).kept hS.fr)).mono ?_
 rintro e w5 ⟨⟨A2,N2,C2,rfl,f2⟩,hb5⟩
 replace hS := hS.kept hb5
 clear z4_0_0 z4_0_1 z4_0_2 z4_1_0 z4_1_1 z4_1_2
 obtain ⟨⟨z5_0_0,z5_0_1,z5_0_2,-⟩,⟨z5_1_0,z5_1_1,z5_1_2,-⟩,⟨z5_2_0,z5_2_1,z5_2_2,-⟩,-⟩ := hS.cells
 replace H := hide ((unhide H).kept hb5)
 replace H' := hide ((unhide H').kept hb5)
 replace G1 := hide ((unhide G1).kept hb5)
 have G2 := hide f2
 clear f2
 have hltw5_0 : w4.heap.size < w5.heap.size := block_lt (hS.bx ⟨w4.heap.size,#[.bool q1,.slice A1 N1 C1,.int .i64 y1],26⟩ (by simp))
 have hltw5_1 : w.heap.size < w5.heap.size := block_lt (hS.bx ⟨w.heap.size,#[.bool s,.slice a n cap,.int .i64 x],26⟩ (by simp))
 have hltw5_2 : w.heap.size + 1 < w5.heap.size := block_lt (hS.bx ⟨w.heap.size + 1,#[.bool s',.slice a' n' cap',.int .i64 x'],26⟩ (by simp))
 replace hS := hS.alloc #[.bool q1,.slice A2 N2 C2,.int .i64 y1] 26
 replace H := hide ((unhide H).alloc (.cells #[.bool q1,.slice A2 N2 C2,.int .i64 y1] 26))
 replace H' := hide ((unhide H').alloc (.cells #[.bool q1,.slice A2 N2 C2,.int .i64 y1] 26))
 replace G1 := hide ((unhide G1).alloc (.cells #[.bool q1,.slice A2 N2 C2,.int .i64 y1] 26))
 replace G2 := hide ((unhide G2).alloc (.cells #[.bool q1,.slice A2 N2 C2,.int .i64 y1] 26))
 go_wp2_with fail
 refine (unhide hp1 _ a n cap a' n' cap' (unhide H) (unhide H')).mono ?_
 rintro e w6 ⟨⟨A3,N3,C3,rfl,f3⟩,hb6⟩
 replace hS := hS.kept hb6
 clear z5_0_0 z5_0_1 z5_0_2 z5_1_0 z5_1_1 z5_1_2 z5_2_0 z5_2_1 z5_2_2
 obtain ⟨⟨z6_0_0,z6_0_1,z6_0_2,-⟩,⟨z6_1_0,z6_1_1,z6_1_2,-⟩,⟨z6_2_0,z6_2_1,z6_2_2,-⟩,⟨z6_3_0,z6_3_1,z6_3_2,-⟩,-⟩ := hS.cells
 replace H := hide ((unhide H).kept hb6)
 replace H' := hide ((unhide H').kept hb6)
 replace G1 := hide ((unhide G1).kept hb6)
 replace G2 := hide ((unhide G2).kept hb6)
 have G3 := hide f3
 clear f3
 have hltw6_0 : w5.heap.size < w6.heap.size := block_lt (hS.bx ⟨w5.heap.size,#[.bool q1,.slice A2 N2 C2,.int .i64 y1],26⟩ (by simp))
 have hltw6_1 : w4.heap.size < w6.heap.size := block_lt (hS.bx ⟨w4.heap.size,#[.bool q1,.slice A1 N1 C1,.int .i64 y1],26⟩ (by simp))
 have hltw6_2 : w.heap.size < w6.heap.size := block_lt (hS.bx ⟨w.heap.size,#[.bool s,.slice a n cap,.int .i64 x],26⟩ (by simp))
 have hltw6_3 : w.heap.size + 1 < w6.heap.size := block_lt (hS.bx ⟨w.heap.size + 1,#[.bool s',.slice a' n' cap',.int .i64 x'],26⟩ (by simp))
 replace hS := hS.alloc #[.bool q3,.slice A3 N3 C3,.int .i64 y3] 26
 replace H := hide ((unhide H).alloc (.cells #[.bool q3,.slice A3 N3 C3,.int .i64 y3] 26))
 replace H' := hide ((unhide H').alloc (.cells #[.bool q3,.slice A3 N3 C3,.int .i64 y3] 26))
 replace G1 := hide ((unhide G1).alloc (.cells #[.bool q3,.slice A3 N3 C3,.int .i64 y3] 26))
 replace G2 := hide ((unhide G2).alloc (.cells #[.bool q3,.slice A3 N3 C3,.int .i64 y3] 26))
 replace G3 := hide ((unhide G3).alloc (.cells #[.bool q3,.slice A3 N3 C3,.int .i64 y3] 26))
 go_wp2_with fail
 refine (unhide hp2 _ a' n' cap' a n cap (unhide H') (unhide H)).mono ?_
 rintro e w7 ⟨⟨A4,N4,C4,rfl,f4⟩,hb7⟩
 replace hS := hS.kept hb7
 clear z6_0_0 z6_0_1 z6_0_2 z6_1_0 z6_1_1 z6_1_2 z6_2_0 z6_2_1 z6_2_2 z6_3_0 z6_3_1 z6_3_2
 obtain ⟨⟨z7_0_0,z7_0_1,z7_0_2,-⟩,⟨z7_1_0,z7_1_1,z7_1_2,-⟩,⟨z7_2_0,z7_2_1,z7_2_2,-⟩,⟨z7_3_0,z7_3_1,z7_3_2,-⟩,⟨z7_4_0,z7_4_1,z7_4_2,-⟩,-⟩ := hS.cells
 replace H := hide ((unhide H).kept hb7)
 replace H' := hide ((unhide H').kept hb7)
 replace G1 := hide ((unhide G1).kept hb7)
 replace G2 := hide ((unhide G2).kept hb7)
 replace G3 := hide ((unhide G3).kept hb7)
 have G4 := hide f4
 clear f4
 have hltw7_0 : w6.heap.size < w7.heap.size := block_lt (hS.bx ⟨w6.heap.size,#[.bool q3,.slice A3 N3 C3,.int .i64 y3],26⟩ (by simp))
 have hltw7_1 : w5.heap.size < w7.heap.size := block_lt (hS.bx ⟨w5.heap.size,#[.bool q1,.slice A2 N2 C2,.int .i64 y1],26⟩ (by simp))
 have hltw7_2 : w4.heap.size < w7.heap.size := block_lt (hS.bx ⟨w4.heap.size,#[.bool q1,.slice A1 N1 C1,.int .i64 y1],26⟩ (by simp))
 have hltw7_3 : w.heap.size < w7.heap.size := block_lt (hS.bx ⟨w.heap.size,#[.bool s,.slice a n cap,.int .i64 x],26⟩ (by simp))
 have hltw7_4 : w.heap.size + 1 < w7.heap.size := block_lt (hS.bx ⟨w.heap.size + 1,#[.bool s',.slice a' n' cap',.int .i64 x'],26⟩ (by simp))
 replace hS := hS.alloc #[.bool q3,.slice A4 N4 C4,.int .i64 y3] 26
 replace H := hide ((unhide H).alloc (.cells #[.bool q3,.slice A4 N4 C4,.int .i64 y3] 26))
 replace H' := hide ((unhide H').alloc (.cells #[.bool q3,.slice A4 N4 C4,.int .i64 y3] 26))
 replace G1 := hide ((unhide G1).alloc (.cells #[.bool q3,.slice A4 N4 C4,.int .i64 y3] 26))
 replace G2 := hide ((unhide G2).alloc (.cells #[.bool q3,.slice A4 N4 C4,.int .i64 y3] 26))
 replace G3 := hide ((unhide G3).alloc (.cells #[.bool q3,.slice A4 N4 C4,.int .i64 y3] 26))
 replace G4 := hide ((unhide G4).alloc (.cells #[.bool q3,.slice A4 N4 C4,.int .i64 y3] 26))
 go_wp2_with fail
 refine (unhide hn1 _ a n cap (unhide H)).mono ?_
 rintro e w8 ⟨⟨A5,N5,C5,rfl,f5⟩,hb8⟩
 replace hS := hS.kept hb8
 clear z7_0_0 z7_0_1 z7_0_2 z7_1_0 z7_1_1 z7_1_2 z7_2_0 z7_2_1 z7_2_2 z7_3_0 z7_3_1 z7_3_2 z7_4_0 z7_4_1 z7_4_2
 obtain ⟨⟨z8_0_0,z8_0_1,z8_0_2,-⟩,⟨z8_1_0,z8_1_1,z8_1_2,-⟩,⟨z8_2_0,z8_2_1,z8_2_2,-⟩,⟨z8_3_0,z8_3_1,z8_3_2,-⟩,⟨z8_4_0,z8_4_1,z8_4_2,-⟩,⟨z8_5_0,z8_5_1,z8_5_2,-⟩,-⟩ := hS.cells
 replace H := hide ((unhide H).kept hb8)
 replace H' := hide ((unhide H').kept hb8)
 replace G1 := hide ((unhide G1).kept hb8)
 replace G2 := hide ((unhide G2).kept hb8)
 replace G3 := hide ((unhide G3).kept hb8)
 replace G4 := hide ((unhide G4).kept hb8)
 have G5 := hide f5
 clear f5
 have hltw8_0 : w7.heap.size < w8.heap.size := block_lt (hS.bx ⟨w7.heap.size,#[.bool q3,.slice A4 N4 C4,.int .i64 y3],26⟩ (by simp))
 have hltw8_1 : w6.heap.size < w8.heap.size := block_lt (hS.bx ⟨w6.heap.size,#[.bool q3,.slice A3 N3 C3,.int .i64 y3],26⟩ (by simp))
 have hltw8_2 : w5.heap.size < w8.heap.size := block_lt (hS.bx ⟨w5.heap.size,#[.bool q1,.slice A2 N2 C2,.int .i64 y1],26⟩ (by simp))
 have hltw8_3 : w4.heap.size < w8.heap.size := block_lt (hS.bx ⟨w4.heap.size,#[.bool q1,.slice A1 N1 C1,.int .i64 y1],26⟩ (by simp))
 have hltw8_4 : w.heap.size < w8.heap.size := block_lt (hS.bx ⟨w.heap.size,#[.bool s,.slice a n cap,.int .i64 x],26⟩ (by simp))
 have hltw8_5 : w.heap.size + 1 < w8.heap.size := block_lt (hS.bx ⟨w.heap.size + 1,#[.bool s',.slice a' n' cap',.int .i64 x'],26⟩ (by simp))
 replace hS := hS.alloc #[.bool n1,.slice A5 N5 C5,.int .i64 x] 26
 replace H := hide ((unhide H).alloc (.cells #[.bool n1,.slice A5 N5 C5,.int .i64 x] 26))
 replace H' := hide ((unhide H').alloc (.cells #[.bool n1,.slice A5 N5 C5,.int .i64 x] 26))
 replace G1 := hide ((unhide G1).alloc (.cells #[.bool n1,.slice A5 N5 C5,.int .i64 x] 26))
 replace G2 := hide ((unhide G2).alloc (.cells #[.bool n1,.slice A5 N5 C5,.int .i64 x] 26))
 replace G3 := hide ((unhide G3).alloc (.cells #[.bool n1,.slice A5 N5 C5,.int .i64 x] 26))
 replace G4 := hide ((unhide G4).alloc (.cells #[.bool n1,.slice A5 N5 C5,.int .i64 x] 26))
 replace G5 := hide ((unhide G5).alloc (.cells #[.bool n1,.slice A5 N5 C5,.int .i64 x] 26))
 go_wp2_with fail
 refine (unhide hn2 _ a' n' cap' (unhide H')).mono ?_
 rintro e w9 ⟨⟨A6,N6,C6,rfl,f6⟩,hb9⟩
 replace hS := hS.kept hb9
 clear z8_0_0 z8_0_1 z8_0_2 z8_1_0 z8_1_1 z8_1_2 z8_2_0 z8_2_1 z8_2_2 z8_3_0 z8_3_1 z8_3_2 z8_4_0 z8_4_1 z8_4_2 z8_5_0 z8_5_1 z8_5_2
 obtain ⟨⟨z9_0_0,z9_0_1,z9_0_2,-⟩,⟨z9_1_0,z9_1_1,z9_1_2,-⟩,⟨z9_2_0,z9_2_1,z9_2_2,-⟩,⟨z9_3_0,z9_3_1,z9_3_2,-⟩,⟨z9_4_0,z9_4_1,z9_4_2,-⟩,⟨z9_5_0,z9_5_1,z9_5_2,-⟩,⟨z9_6_0,z9_6_1,z9_6_2,-⟩,-⟩ := hS.cells
 replace H := hide ((unhide H).kept hb9)
 replace H' := hide ((unhide H').kept hb9)
 replace G1 := hide ((unhide G1).kept hb9)
 replace G2 := hide ((unhide G2).kept hb9)
 replace G3 := hide ((unhide G3).kept hb9)
 replace G4 := hide ((unhide G4).kept hb9)
 replace G5 := hide ((unhide G5).kept hb9)
 have G6 := hide f6
 clear f6
 have hltw9_0 : w8.heap.size < w9.heap.size := block_lt (hS.bx ⟨w8.heap.size,#[.bool n1,.slice A5 N5 C5,.int .i64 x],26⟩ (by simp))
 have hltw9_1 : w7.heap.size < w9.heap.size := block_lt (hS.bx ⟨w7.heap.size,#[.bool q3,.slice A4 N4 C4,.int .i64 y3],26⟩ (by simp))
 have hltw9_2 : w6.heap.size < w9.heap.size := block_lt (hS.bx ⟨w6.heap.size,#[.bool q3,.slice A3 N3 C3,.int .i64 y3],26⟩ (by simp))
 have hltw9_3 : w5.heap.size < w9.heap.size := block_lt (hS.bx ⟨w5.heap.size,#[.bool q1,.slice A2 N2 C2,.int .i64 y1],26⟩ (by simp))
 have hltw9_4 : w4.heap.size < w9.heap.size := block_lt (hS.bx ⟨w4.heap.size,#[.bool q1,.slice A1 N1 C1,.int .i64 y1],26⟩ (by simp))
 have hltw9_5 : w.heap.size < w9.heap.size := block_lt (hS.bx ⟨w.heap.size,#[.bool s,.slice a n cap,.int .i64 x],26⟩ (by simp))
 have hltw9_6 : w.heap.size + 1 < w9.heap.size := block_lt (hS.bx ⟨w.heap.size + 1,#[.bool s',.slice a' n' cap',.int .i64 x'],26⟩ (by simp))
 replace hS := hS.alloc #[.bool n2,.slice A6 N6 C6,.int .i64 x'] 26
 replace H := hide ((unhide H).alloc (.cells #[.bool n2,.slice A6 N6 C6,.int .i64 x'] 26))
 replace H' := hide ((unhide H').alloc (.cells #[.bool n2,.slice A6 N6 C6,.int .i64 x'] 26))
 replace G1 := hide ((unhide G1).alloc (.cells #[.bool n2,.slice A6 N6 C6,.int .i64 x'] 26))
 replace G2 := hide ((unhide G2).alloc (.cells #[.bool n2,.slice A6 N6 C6,.int .i64 x'] 26))
 replace G3 := hide ((unhide G3).alloc (.cells #[.bool n2,.slice A6 N6 C6,.int .i64 x'] 26))
 replace G4 := hide ((unhide G4).alloc (.cells #[.bool n2,.slice A6 N6 C6,.int .i64 x'] 26))
 replace G5 := hide ((unhide G5).alloc (.cells #[.bool n2,.slice A6 N6 C6,.int .i64 x'] 26))
 replace G6 := hide ((unhide G6).alloc (.cells #[.bool n2,.slice A6 N6 C6,.int .i64 x'] 26))
 go_wp2_with fail
 refine (unhide hz _ a n cap A5 N5 C5 (unhide H) (unhide G5) ((unhide HT).kept hS.fr)).mono ?_
 rintro e w10 ⟨⟨A7,N7,C7,rfl,f7⟩,hb10⟩
 replace hS := hS.kept hb10
 clear z9_0_0 z9_0_1 z9_0_2 z9_1_0 z9_1_1 z9_1_2 z9_2_0 z9_2_1 z9_2_2 z9_3_0 z9_3_1 z9_3_2 z9_4_0 z9_4_1 z9_4_2 z9_5_0 z9_5_1 z9_5_2 z9_6_0 z9_6_1 z9_6_2
 obtain ⟨⟨z10_0_0,z10_0_1,z10_0_2,-⟩,⟨z10_1_0,z10_1_1,z10_1_2,-⟩,⟨z10_2_0,z10_2_1,z10_2_2,-⟩,⟨z10_3_0,z10_3_1,z10_3_2,-⟩,⟨z10_4_0,z10_4_1,z10_4_2,-⟩,⟨z10_5_0,z10_5_1,z10_5_2,-⟩,⟨z10_6_0,z10_6_1,z10_6_2,-⟩,⟨z10_7_0,z10_7_1,z10_7_2,-⟩,-⟩ := hS.cells
 replace H := hide ((unhide H).kept hb10)
 replace H' := hide ((unhide H').kept hb10)
 replace G1 := hide ((unhide G1).kept hb10)
 replace G2 := hide ((unhide G2).kept hb10)
 replace G3 := hide ((unhide G3).kept hb10)
 replace G4 := hide ((unhide G4).kept hb10)
 replace G5 := hide ((unhide G5).kept hb10)
 replace G6 := hide ((unhide G6).kept hb10)
 have G7 := hide f7
 clear f7
 obtain rfl := (unhide G7).zero.2 rfl
 clear G7
 have hltw10_0 : w9.heap.size < w10.heap.size := block_lt (hS.bx ⟨w9.heap.size,#[.bool n2,.slice A6 N6 C6,.int .i64 x'],26⟩ (by simp))
 have hltw10_1 : w8.heap.size < w10.heap.size := block_lt (hS.bx ⟨w8.heap.size,#[.bool n1,.slice A5 N5 C5,.int .i64 x],26⟩ (by simp))
 have hltw10_2 : w7.heap.size < w10.heap.size := block_lt (hS.bx ⟨w7.heap.size,#[.bool q3,.slice A4 N4 C4,.int .i64 y3],26⟩ (by simp))
 have hltw10_3 : w6.heap.size < w10.heap.size := block_lt (hS.bx ⟨w6.heap.size,#[.bool q3,.slice A3 N3 C3,.int .i64 y3],26⟩ (by simp))
 have hltw10_4 : w5.heap.size < w10.heap.size := block_lt (hS.bx ⟨w5.heap.size,#[.bool q1,.slice A2 N2 C2,.int .i64 y1],26⟩ (by simp))
 have hltw10_5 : w4.heap.size < w10.heap.size := block_lt (hS.bx ⟨w4.heap.size,#[.bool q1,.slice A1 N1 C1,.int .i64 y1],26⟩ (by simp))
 have hltw10_6 : w.heap.size < w10.heap.size := block_lt (hS.bx ⟨w.heap.size,#[.bool s,.slice a n cap,.int .i64 x],26⟩ (by simp))
 have hltw10_7 : w.heap.size + 1 < w10.heap.size := block_lt (hS.bx ⟨w.heap.size + 1,#[.bool s',.slice a' n' cap',.int .i64 x'],26⟩ (by simp))
 replace hS := hS.alloc #[.bool false,.slice A7 0 C7,.int .i64 0] 26
 replace H := hide ((unhide H).alloc (.cells #[.bool false,.slice A7 0 C7,.int .i64 0] 26))
 replace H' := hide ((unhide H').alloc (.cells #[.bool false,.slice A7 0 C7,.int .i64 0] 26))
 replace G1 := hide ((unhide G1).alloc (.cells #[.bool false,.slice A7 0 C7,.int .i64 0] 26))
 replace G2 := hide ((unhide G2).alloc (.cells #[.bool false,.slice A7 0 C7,.int .i64 0] 26))
 replace G3 := hide ((unhide G3).alloc (.cells #[.bool false,.slice A7 0 C7,.int .i64 0] 26))
 replace G4 := hide ((unhide G4).alloc (.cells #[.bool false,.slice A7 0 C7,.int .i64 0] 26))
 replace G5 := hide ((unhide G5).alloc (.cells #[.bool false,.slice A7 0 C7,.int .i64 0] 26))
 replace G6 := hide ((unhide G6).alloc (.cells #[.bool false,.slice A7 0 C7,.int .i64 0] 26))
 go_wp2_with fail
 refine (unhide hd _ a n cap A6 N6 C6 (unhide H) (unhide G6) ((unhide HT).kept hS.fr)).mono ?_
 rintro e w11 ⟨⟨A8,N8,C8,rfl,f8⟩,hb11⟩
 replace hS := hS.kept hb11
 clear z10_0_0 z10_0_1 z10_0_2 z10_1_0 z10_1_1 z10_1_2 z10_2_0 z10_2_1 z10_2_2 z10_3_0 z10_3_1 z10_3_2 z10_4_0 z10_4_1 z10_4_2 z10_5_0 z10_5_1 z10_5_2 z10_6_0 z10_6_1 z10_6_2 z10_7_0 z10_7_1 z10_7_2
 obtain ⟨⟨z11_0_0,z11_0_1,z11_0_2,-⟩,⟨z11_1_0,z11_1_1,z11_1_2,-⟩,⟨z11_2_0,z11_2_1,z11_2_2,-⟩,⟨z11_3_0,z11_3_1,z11_3_2,-⟩,⟨z11_4_0,z11_4_1,z11_4_2,-⟩,⟨z11_5_0,z11_5_1,z11_5_2,-⟩,⟨z11_6_0,z11_6_1,z11_6_2,-⟩,⟨z11_7_0,z11_7_1,z11_7_2,-⟩,⟨z11_8_0,z11_8_1,z11_8_2,-⟩,-⟩ := hS.cells
 replace H := hide ((unhide H).kept hb11)
 replace H' := hide ((unhide H').kept hb11)
 replace G1 := hide ((unhide G1).kept hb11)
 replace G2 := hide ((unhide G2).kept hb11)
 replace G3 := hide ((unhide G3).kept hb11)
 replace G4 := hide ((unhide G4).kept hb11)
 replace G5 := hide ((unhide G5).kept hb11)
 replace G6 := hide ((unhide G6).kept hb11)
 have G8 := hide f8
 clear f8
 have hn8 : 0 < N8 := by have := (unhide G8).zero; omega
 clear G8
 have hltw11_0 : w10.heap.size < w11.heap.size := block_lt (hS.bx ⟨w10.heap.size,#[.bool false,.slice A7 0 C7,.int .i64 0],26⟩ (by simp))
 have hltw11_1 : w9.heap.size < w11.heap.size := block_lt (hS.bx ⟨w9.heap.size,#[.bool n2,.slice A6 N6 C6,.int .i64 x'],26⟩ (by simp))
 have hltw11_2 : w8.heap.size < w11.heap.size := block_lt (hS.bx ⟨w8.heap.size,#[.bool n1,.slice A5 N5 C5,.int .i64 x],26⟩ (by simp))
 have hltw11_3 : w7.heap.size < w11.heap.size := block_lt (hS.bx ⟨w7.heap.size,#[.bool q3,.slice A4 N4 C4,.int .i64 y3],26⟩ (by simp))
 have hltw11_4 : w6.heap.size < w11.heap.size := block_lt (hS.bx ⟨w6.heap.size,#[.bool q3,.slice A3 N3 C3,.int .i64 y3],26⟩ (by simp))
 have hltw11_5 : w5.heap.size < w11.heap.size := block_lt (hS.bx ⟨w5.heap.size,#[.bool q1,.slice A2 N2 C2,.int .i64 y1],26⟩ (by simp))
 have hltw11_6 : w4.heap.size < w11.heap.size := block_lt (hS.bx ⟨w4.heap.size,#[.bool q1,.slice A1 N1 C1,.int .i64 y1],26⟩ (by simp))
 have hltw11_7 : w.heap.size < w11.heap.size := block_lt (hS.bx ⟨w.heap.size,#[.bool s,.slice a n cap,.int .i64 x],26⟩ (by simp))
 have hltw11_8 : w.heap.size + 1 < w11.heap.size := block_lt (hS.bx ⟨w.heap.size + 1,#[.bool s',.slice a' n' cap',.int .i64 x'],26⟩ (by simp))
 replace hS := hS.alloc #[.bool false,.slice A8 N8 C8,.int .i64 y8] 26
 replace H := hide ((unhide H).alloc (.cells #[.bool false,.slice A8 N8 C8,.int .i64 y8] 26))
 replace H' := hide ((unhide H').alloc (.cells #[.bool false,.slice A8 N8 C8,.int .i64 y8] 26))
 replace G1 := hide ((unhide G1).alloc (.cells #[.bool false,.slice A8 N8 C8,.int .i64 y8] 26))
 replace G2 := hide ((unhide G2).alloc (.cells #[.bool false,.slice A8 N8 C8,.int .i64 y8] 26))
 replace G3 := hide ((unhide G3).alloc (.cells #[.bool false,.slice A8 N8 C8,.int .i64 y8] 26))
 replace G4 := hide ((unhide G4).alloc (.cells #[.bool false,.slice A8 N8 C8,.int .i64 y8] 26))
 replace G5 := hide ((unhide G5).alloc (.cells #[.bool false,.slice A8 N8 C8,.int .i64 y8] 26))
 replace G6 := hide ((unhide G6).alloc (.cells #[.bool false,.slice A8 N8 C8,.int .i64 y8] 26))
 go_wp2_with fail
 refine (unhide hc _ a n cap a' n' cap' (unhide H) (unhide H')).mono ?_
 rintro e w12 ⟨rfl,hb12⟩
 replace hS := hS.kept hb12
 clear z11_0_0 z11_0_1 z11_0_2 z11_1_0 z11_1_1 z11_1_2 z11_2_0 z11_2_1 z11_2_2 z11_3_0 z11_3_1 z11_3_2 z11_4_0 z11_4_1 z11_4_2 z11_5_0 z11_5_1 z11_5_2 z11_6_0 z11_6_1 z11_6_2 z11_7_0 z11_7_1 z11_7_2 z11_8_0 z11_8_1 z11_8_2
 obtain ⟨⟨z12_0_0,z12_0_1,z12_0_2,-⟩,⟨z12_1_0,z12_1_1,z12_1_2,-⟩,⟨z12_2_0,z12_2_1,z12_2_2,-⟩,⟨z12_3_0,z12_3_1,z12_3_2,-⟩,⟨z12_4_0,z12_4_1,z12_4_2,-⟩,⟨z12_5_0,z12_5_1,z12_5_2,-⟩,⟨z12_6_0,z12_6_1,z12_6_2,-⟩,⟨z12_7_0,z12_7_1,z12_7_2,-⟩,⟨z12_8_0,z12_8_1,z12_8_2,-⟩,⟨z12_9_0,z12_9_1,z12_9_2,-⟩,-⟩ := hS.cells
 replace H := hide ((unhide H).kept hb12)
 replace H' := hide ((unhide H').kept hb12)
 replace G1 := hide ((unhide G1).kept hb12)
 replace G2 := hide ((unhide G2).kept hb12)
 replace G3 := hide ((unhide G3).kept hb12)
 replace G4 := hide ((unhide G4).kept hb12)
 replace G5 := hide ((unhide G5).kept hb12)
 replace G6 := hide ((unhide G6).kept hb12)
 go_wp2_with fail
 refine (dsame_any q1 A1 N1 C1 v1 A2 N2 C2 y1 _ (unhide G1) (unhide G2)).mono ?_
 rintro e w13 ⟨rfl,hb13⟩
 replace hS := hS.kept hb13
 clear z12_0_0 z12_0_1 z12_0_2 z12_1_0 z12_1_1 z12_1_2 z12_2_0 z12_2_1 z12_2_2 z12_3_0 z12_3_1 z12_3_2 z12_4_0 z12_4_1 z12_4_2 z12_5_0 z12_5_1 z12_5_2 z12_6_0 z12_6_1 z12_6_2 z12_7_0 z12_7_1 z12_7_2 z12_8_0 z12_8_1 z12_8_2 z12_9_0 z12_9_1 z12_9_2
 obtain ⟨⟨z13_0_0,z13_0_1,z13_0_2,-⟩,⟨z13_1_0,z13_1_1,z13_1_2,-⟩,⟨z13_2_0,z13_2_1,z13_2_2,-⟩,⟨z13_3_0,z13_3_1,z13_3_2,-⟩,⟨z13_4_0,z13_4_1,z13_4_2,-⟩,⟨z13_5_0,z13_5_1,z13_5_2,-⟩,⟨z13_6_0,z13_6_1,z13_6_2,-⟩,⟨z13_7_0,z13_7_1,z13_7_2,-⟩,⟨z13_8_0,z13_8_1,z13_8_2,-⟩,⟨z13_9_0,z13_9_1,z13_9_2,-⟩,-⟩ := hS.cells
 replace H := hide ((unhide H).kept hb13)
 replace H' := hide ((unhide H').kept hb13)
 replace G1 := hide ((unhide G1).kept hb13)
 replace G2 := hide ((unhide G2).kept hb13)
 replace G3 := hide ((unhide G3).kept hb13)
 replace G4 := hide ((unhide G4).kept hb13)
 replace G5 := hide ((unhide G5).kept hb13)
 replace G6 := hide ((unhide G6).kept hb13)
 go_wp2_with fail
 refine (dsame_any q3 A3 N3 C3 v3 A4 N4 C4 y3 _ (unhide G3) (unhide G4)).mono ?_
 rintro e w14 ⟨rfl,hb14⟩
 replace hS := hS.kept hb14
 clear z13_0_0 z13_0_1 z13_0_2 z13_1_0 z13_1_1 z13_1_2 z13_2_0 z13_2_1 z13_2_2 z13_3_0 z13_3_1 z13_3_2 z13_4_0 z13_4_1 z13_4_2 z13_5_0 z13_5_1 z13_5_2 z13_6_0 z13_6_1 z13_6_2 z13_7_0 z13_7_1 z13_7_2 z13_8_0 z13_8_1 z13_8_2 z13_9_0 z13_9_1 z13_9_2
 obtain ⟨⟨z14_0_0,z14_0_1,z14_0_2,-⟩,⟨z14_1_0,z14_1_1,z14_1_2,-⟩,⟨z14_2_0,z14_2_1,z14_2_2,-⟩,⟨z14_3_0,z14_3_1,z14_3_2,-⟩,⟨z14_4_0,z14_4_1,z14_4_2,-⟩,⟨z14_5_0,z14_5_1,z14_5_2,-⟩,⟨z14_6_0,z14_6_1,z14_6_2,-⟩,⟨z14_7_0,z14_7_1,z14_7_2,-⟩,⟨z14_8_0,z14_8_1,z14_8_2,-⟩,⟨z14_9_0,z14_9_1,z14_9_2,-⟩,-⟩ := hS.cells
 replace H := hide ((unhide H).kept hb14)
 replace H' := hide ((unhide H').kept hb14)
 replace G1 := hide ((unhide G1).kept hb14)
 replace G2 := hide ((unhide G2).kept hb14)
 replace G3 := hide ((unhide G3).kept hb14)
 replace G4 := hide ((unhide G4).kept hb14)
 replace G5 := hide ((unhide G5).kept hb14)
 replace G6 := hide ((unhide G6).kept hb14)
 go_wp2
 go_ret
 exact ⟨rfl,hS.fr⟩
end Go.Proofs.YtjemjhaphannaaaDoor
